/- Texts that the proof needs, joined: Sr11. -/
import Derived.Test.YtkfgijkkffbpmaaGreatV8
import Derived.Test.YtkfgijkkffbpmaaGreatV4
set_option linter.unusedVariables false
set_option linter.unusedSimpArgs false
set_option maxHeartbeats 8000000
set_option maxRecDepth 20000
namespace Go.Proofs.YtkfgijkkffbpmaaGreat
open Go.RowKit
theorem specRulesOk_any (a : Option Addr) (n cap : Nat) (f : Nat -> Ru) (w : World) (hs : SlU w a n f) (hl : n <= 2000000) (b : Bool) (hb : b = true ↔ OkRs f n) :
 Calls Tryz.prog 56 #[.slice a n cap] w fun e w' => e = .returned (.bool b) /\ Below w.heap.size w w' := by
 have HB : Hid (b = true ↔ OkRs f n) := hb
 clear hb
 by_cases hn : 24 < n
 ·have d : (24 : Int) < (n : Int) := by omega
  have hno : b = false := by cases b with | false => rfl | true => (have := (HB.out.1 rfl).1; omega)
  subst hno
  clear hs
  go_enter Tryz.func56, Tryz.ntmps56
  go_wp2
  go_ret
  exact ⟨rfl, Below.refl _ _⟩
 have d : ¬ (24 : Int) < (n : Int) := by omega
 go_enter Tryz.func56, Tryz.ntmps56
 go_wp2
 go_loopw [3] (fun i wr => ∃ z : Nat, z <= n /\ i = .int .i64 z /\ (∀ k, k < z -> OkRu (f k)) /\ Apart f z /\ Below w.heap.size w wr) (fun i _ => n - (intOf i).toNat)
 case atStart => exact ⟨0, Nat.zero_le _, rfl, fun k hk => by omega, fun i hi => by omega, Below.refl _ _⟩
 case round =>
  obtain ⟨z, hz, rfl, hall, hap, hbl⟩ := hrel
  have HZ : Hid ((∀ k, k < z -> OkRu (f k)) /\ Apart f z) := ⟨hall, hap⟩
  clear hall hap
  by_cases hlt : z < n
  ·have hi : (z : Int) < (n : Int) := by omega
   obtain ⟨bb, off, rfl, hb0, c0, c1, c2, c3, c4, c5, c6⟩ := SlU.seven (SlS.below hs hbl) hlt
   go_wp2_with fail
   refine (l10Rule_any (f z) _).mono ?_
   rintro e w2 ⟨rfl, b2⟩
   have B2 := bel_next hbl b2
   clear hbl b2 c0 c1 c2 c3 c4 c5 c6 hb0
   by_cases ho : OkRu (f z)
   ·rw [decide_eq_true ho]
    go_wp2
    go_loopw [4] (fun i wr => ∃ y : Nat, y <= z /\ i = .int .i64 y /\ (∀ k, k < y -> ¬ ovl (f k) (f z)) /\ Below w.heap.size w wr) (fun i _ => z - (intOf i).toNat)
    case atStart => exact ⟨0, Nat.zero_le _, rfl, fun k hk => by omega, B2⟩
    case round =>
     clear B2
     obtain ⟨y, hy, rfl, hno', hbl⟩ := hrel
     have HA : Hid (∀ k, k < y -> ¬ ovl (f k) (f z)) := hno'
     clear hno'
     by_cases hlt2 : y < z
     case neg =>
      have hi2 : ¬ (y : Int) < (z : Int) := by omega
      have HX : Hid ((∀ k, k < z + 1 -> OkRu (f k)) /\ Apart f (z + 1)) := ⟨fun k hk => (by by_cases e : k = z; (subst e; exact ho); (exact HZ.out.1 k (by omega))), fun i hi k hk => (by by_cases e : i = z; (subst e; exact HA.out k (by omega)); (exact HZ.out.2 i (by omega) k hk))⟩
      go_wp2
      go_roundw
      case rel => exact ⟨z + 1, by omega, by go_num, HX.out.1, HX.out.2, hbl⟩
      case measure => simp [intOf]; omega
     have hi2 : (y : Int) < (z : Int) := by omega
     have hyn : (y : Int) < (n : Int) := by omega
     have hyn2 : y < n := by omega
     have SS := SlS.below hs hbl
     have CE : Hid (∀ u, Below wr.heap.size wr u -> u.cell? ⟨bb, off + z * 7, none⟩ = some (.int .i64 (f z).u) /\ u.cell? ⟨bb, off + z * 7 + 1, none⟩ = some (.int .i64 (f z).s) /\ u.cell? ⟨bb, off + z * 7 + 2, none⟩ = some (.int .i64 (f z).lo) /\ u.cell? ⟨bb, off + z * 7 + 3, none⟩ = some (.int .i64 (f z).hi) /\ u.cell? ⟨bb, off + y * 7, none⟩ = some (.int .i64 (f y).u) /\ u.cell? ⟨bb, off + y * 7 + 1, none⟩ = some (.int .i64 (f y).s) /\ u.cell? ⟨bb, off + y * 7 + 2, none⟩ = some (.int .i64 (f y).lo) /\ u.cell? ⟨bb, off + y * 7 + 3, none⟩ = some (.int .i64 (f y).hi)) := by
      intro u hu
      have S2 := SlS.below SS hu
      obtain ⟨b1, o1, e1, _, x0, x1, x2, x3, _, _, _⟩ := SlU.seven S2 hlt
      obtain ⟨b2, o2, e2, _, y0, y1, y2, y3, _, _, _⟩ := SlU.seven S2 hyn2
      simp only [Option.some.injEq, Addr.mk.injEq] at e1 e2
      obtain ⟨rfl, rfl, _⟩ := e1
      obtain ⟨rfl, rfl, _⟩ := e2
      exact ⟨x0, x1, x2, x3, y0, y1, y2, y3⟩
     clear SS hs
     by_cases h0 : (f y).u = (f z).u
     case neg =>
      have d0 : ((f y).u == (f z).u) = false := by simpa using h0
      go_wp2
      refine wp_region_any (by kernel_rfl) ?_
      refine wpAny_vals (fun u => Below wr.heap.size wr u) (fun i v u => match i with
       | 0 => v = .slice (some ⟨bb, off, none⟩) n cap
       | 1 => v = .int .i64 (y : Int)
       | 2 => v = .pointer (some ⟨bb, off + y * 7, none⟩)
       | 3 => v = .pointer (some ⟨bb, off + y * 7, none⟩)
       | 4 => v = .int .i64 (f y).u
       | 5 => v = .slice (some ⟨bb, off, none⟩) n cap
       | 6 => v = .int .i64 (z : Int)
       | 7 => v = .pointer (some ⟨bb, off + z * 7, none⟩)
       | 8 => v = .pointer (some ⟨bb, off + z * 7, none⟩)
       | 9 => v = .int .i64 (f z).u
       | 10 => v = .bool false
       | 11 => v = .bool false
       | 12 => v = undef
       | 13 => v = undef
       | 14 => v = undef
       | 15 => v = undef
       | 16 => v = undef
       | 17 => v = undef
       | 18 => v = undef
       | 19 => v = undef
       | 20 => v = undef
       | 21 => v = undef
       | 22 => v = undef
       | 23 => v = .bool false
       | 24 => v = .bool false
       | 25 => v = undef
       | 26 => v = undef
       | 27 => v = undef
       | 28 => v = undef
       | 29 => v = undef
       | 30 => v = undef
       | 31 => v = undef
       | 32 => v = undef
       | 33 => v = undef
       | 34 => v = undef
       | 35 => v = undef
       | 36 => v = .bool false
       | 37 => v = .bool false
       | 38 => v = undef
       | 39 => v = undef
       | 40 => v = undef
       | 41 => v = undef
       | 42 => v = undef
       | 43 => v = undef
       | 44 => v = undef
       | 45 => v = undef
       | 46 => v = undef
       | 47 => v = undef
       | 48 => v = undef
       | 49 => v = .bool false
       | _ => True) (by kernel_rfl) (by kernel_rfl) (fun _ _ _ _ h _ => h) (Below.refl _ _).drew ?_ ?_ _ _ rfl (by decide) (fun i => by simp [Array.getD]; try (split <;> rfl))
      ·intro vs u hR hall
       have e16 : vs 49 = .bool false := hall 49 (by simp)
       simp only [putsL]
       rw [e16]
       clear hall e16
       have BX := bel_next hbl hR
       clear hR CE hbl
       go_simp
       go_wp2
       go_roundw
       case rel => exact ⟨y + 1, by omega, by go_num, fun k hk => (by by_cases e : k = y; (subst e; exact fun h => (by unfold ovl at h; omega)); (exact HA.out k (by omega))), BX⟩
       case measure => simp [intOf]; omega
      intro u i o ρ hR ho hρ hc hf hd
      have hi : i < 50 := by
       have := (Array.getElem?_eq_some_iff.1 ho).1
       simpa using this
      obtain rfl | rfl | rfl | rfl | rfl | rfl | rfl | rfl | rfl | rfl | rfl | rfl | rfl | rfl | rfl | rfl | rfl | rfl | rfl | rfl | rfl | rfl | rfl | rfl | rfl | rfl | rfl | rfl | rfl | rfl | rfl | rfl | rfl | rfl | rfl | rfl | rfl | rfl | rfl | rfl | rfl | rfl | rfl | rfl | rfl | rfl | rfl | rfl | rfl | rfl : i = 0 \/ i = 1 \/ i = 2 \/ i = 3 \/ i = 4 \/ i = 5 \/ i = 6 \/ i = 7 \/ i = 8 \/ i = 9 \/ i = 10 \/ i = 11 \/ i = 12 \/ i = 13 \/ i = 14 \/ i = 15 \/ i = 16 \/ i = 17 \/ i = 18 \/ i = 19 \/ i = 20 \/ i = 21 \/ i = 22 \/ i = 23 \/ i = 24 \/ i = 25 \/ i = 26 \/ i = 27 \/ i = 28 \/ i = 29 \/ i = 30 \/ i = 31 \/ i = 32 \/ i = 33 \/ i = 34 \/ i = 35 \/ i = 36 \/ i = 37 \/ i = 38 \/ i = 39 \/ i = 40 \/ i = 41 \/ i = 42 \/ i = 43 \/ i = 44 \/ i = 45 \/ i = 46 \/ i = 47 \/ i = 48 \/ i = 49 := by omega
      all_goals (simp only [List.getElem?_toArray, List.getElem?_cons_zero, List.getElem?_cons_succ, Option.some.injEq] at ho; subst ho)
      ·have s0 : ρ (.tmp 0) = .slice (some ⟨bb, off, none⟩) n cap := (hρ 0 (by kernel_rfl)).trans rfl
       exact .inl ⟨rfl, .inl ⟨_, u, rfl, s0, hR, Below.refl _ _⟩⟩
      ·have s4 : ρ (.tmp 4) = .int .i64 (y : Int) := (hρ 4 (by kernel_rfl)).trans rfl
       exact .inl ⟨rfl, .inl ⟨_, u, rfl, s4, hR, Below.refl _ _⟩⟩
      ·have h0 : ρ (.tmp 25) = .slice (some ⟨bb, off, none⟩) n cap := hd ⟨0, .data⟩ (by simp) rfl 25 rfl
       have h1 : ρ (.tmp 26) = .int .i64 (y : Int) := hd ⟨1, .data⟩ (by simp) rfl 26 rfl
       exact .inl ⟨rfl, .inl ⟨.pointer (some ⟨bb, off + y * 7, none⟩), u, run_index_op rfl h0 h1 (by go_simp), rfl, hR, Below.refl _ _⟩⟩
      ·have h2 : ρ (.tmp 27) = .pointer (some ⟨bb, off + y * 7, none⟩) := hd ⟨2, .data⟩ (by simp) rfl 27 rfl
       exact .inl ⟨rfl, .inl ⟨.pointer (some ⟨bb, off + y * 7, none⟩), u, run_field_op rfl h2 (by go_simp), rfl, hR, Below.refl _ _⟩⟩
      ·obtain ⟨q0, q1, q2, q3, p0, p1, p2, p3⟩ := CE.out u hR
       have h3 : ρ (.tmp 28) = .pointer (some ⟨bb, off + y * 7, none⟩) := hd ⟨3, .data⟩ (by simp) rfl 28 rfl
       have hr : (Instr.loadAt 3 (.pointer (some ⟨bb, off + y * 7, none⟩))).run Tryz.prog u = .ok (.int .i64 (f y).u) u := by go_simp
       exact .inl ⟨rfl, .inl ⟨.int .i64 (f y).u, u, run_load_op rfl h3 hr, rfl, hR, Below.refl _ _⟩⟩
      ·have s0 : ρ (.tmp 0) = .slice (some ⟨bb, off, none⟩) n cap := (hρ 0 (by kernel_rfl)).trans rfl
       exact .inl ⟨rfl, .inl ⟨_, u, rfl, s0, hR, Below.refl _ _⟩⟩
      ·have s3 : ρ (.tmp 3) = .int .i64 (z : Int) := (hρ 3 (by kernel_rfl)).trans rfl
       exact .inl ⟨rfl, .inl ⟨_, u, rfl, s3, hR, Below.refl _ _⟩⟩
      ·have h5 : ρ (.tmp 30) = .slice (some ⟨bb, off, none⟩) n cap := hd ⟨5, .data⟩ (by simp) rfl 30 rfl
       have h6 : ρ (.tmp 31) = .int .i64 (z : Int) := hd ⟨6, .data⟩ (by simp) rfl 31 rfl
       exact .inl ⟨rfl, .inl ⟨.pointer (some ⟨bb, off + z * 7, none⟩), u, run_index_op rfl h5 h6 (by go_simp), rfl, hR, Below.refl _ _⟩⟩
      ·have h7 : ρ (.tmp 32) = .pointer (some ⟨bb, off + z * 7, none⟩) := hd ⟨7, .data⟩ (by simp) rfl 32 rfl
       exact .inl ⟨rfl, .inl ⟨.pointer (some ⟨bb, off + z * 7, none⟩), u, run_field_op rfl h7 (by go_simp), rfl, hR, Below.refl _ _⟩⟩
      ·obtain ⟨q0, q1, q2, q3, p0, p1, p2, p3⟩ := CE.out u hR
       have h8 : ρ (.tmp 33) = .pointer (some ⟨bb, off + z * 7, none⟩) := hd ⟨8, .data⟩ (by simp) rfl 33 rfl
       have hr : (Instr.loadAt 3 (.pointer (some ⟨bb, off + z * 7, none⟩))).run Tryz.prog u = .ok (.int .i64 (f z).u) u := by go_simp
       exact .inl ⟨rfl, .inl ⟨.int .i64 (f z).u, u, run_load_op rfl h8 hr, rfl, hR, Below.refl _ _⟩⟩
      ·have h4 : ρ (.tmp 29) = .int .i64 (f y).u := hd ⟨4, .data⟩ (by simp) rfl 29 rfl
       have h9 : ρ (.tmp 34) = .int .i64 (f z).u := hd ⟨9, .data⟩ (by simp) rfl 34 rfl
       exact .inl ⟨rfl, .inl ⟨.bool false, u, run_bin_op rfl h4 h9 (by go_simp), rfl, hR, Below.refl _ _⟩⟩
      ·have h10 : ρ (.tmp 35) = .bool false := hd ⟨10, .data⟩ (by simp) rfl 35 rfl
       exact .inl ⟨rfl, .inl ⟨_, u, rfl, h10, hR, Below.refl _ _⟩⟩
      ·have g11 : ρ (.tmp 36) = .bool false := hd ⟨11, .guard⟩ (by simp) rfl 36 rfl
       exact .inr ⟨(by show (match ρ (.tmp 36) with | .bool b => b == true | _ => false) = false; rw [g11]; rfl), rfl⟩
      ·have g11 : ρ (.tmp 36) = .bool false := hd ⟨11, .guard⟩ (by simp) rfl 36 rfl
       exact .inr ⟨(by show (match ρ (.tmp 36) with | .bool b => b == true | _ => false) = false; rw [g11]; rfl), rfl⟩
      ·have g11 : ρ (.tmp 36) = .bool false := hd ⟨11, .guard⟩ (by simp) rfl 36 rfl
       exact .inr ⟨(by show (match ρ (.tmp 36) with | .bool b => b == true | _ => false) = false; rw [g11]; rfl), rfl⟩
      ·have g11 : ρ (.tmp 36) = .bool false := hd ⟨11, .guard⟩ (by simp) rfl 36 rfl
       exact .inr ⟨(by show (match ρ (.tmp 36) with | .bool b => b == true | _ => false) = false; rw [g11]; rfl), rfl⟩
      ·have g11 : ρ (.tmp 36) = .bool false := hd ⟨11, .guard⟩ (by simp) rfl 36 rfl
       exact .inr ⟨(by show (match ρ (.tmp 36) with | .bool b => b == true | _ => false) = false; rw [g11]; rfl), rfl⟩
      ·have g11 : ρ (.tmp 36) = .bool false := hd ⟨11, .guard⟩ (by simp) rfl 36 rfl
       exact .inr ⟨(by show (match ρ (.tmp 36) with | .bool b => b == true | _ => false) = false; rw [g11]; rfl), rfl⟩
      ·have g11 : ρ (.tmp 36) = .bool false := hd ⟨11, .guard⟩ (by simp) rfl 36 rfl
       exact .inr ⟨(by show (match ρ (.tmp 36) with | .bool b => b == true | _ => false) = false; rw [g11]; rfl), rfl⟩
      ·have g11 : ρ (.tmp 36) = .bool false := hd ⟨11, .guard⟩ (by simp) rfl 36 rfl
       exact .inr ⟨(by show (match ρ (.tmp 36) with | .bool b => b == true | _ => false) = false; rw [g11]; rfl), rfl⟩
      ·have g11 : ρ (.tmp 36) = .bool false := hd ⟨11, .guard⟩ (by simp) rfl 36 rfl
       exact .inr ⟨(by show (match ρ (.tmp 36) with | .bool b => b == true | _ => false) = false; rw [g11]; rfl), rfl⟩
      ·have g11 : ρ (.tmp 36) = .bool false := hd ⟨11, .guard⟩ (by simp) rfl 36 rfl
       exact .inr ⟨(by show (match ρ (.tmp 36) with | .bool b => b == true | _ => false) = false; rw [g11]; rfl), rfl⟩
      ·have g11 : ρ (.tmp 36) = .bool false := hd ⟨11, .guard⟩ (by simp) rfl 36 rfl
       exact .inr ⟨(by show (match ρ (.tmp 36) with | .bool b => b == true | _ => false) = false; rw [g11]; rfl), rfl⟩
      ·have h11 : ρ (.tmp 36) = .bool false := hd ⟨11, .data⟩ (by simp) rfl 36 rfl
       exact .inl ⟨rfl, .inl ⟨_, u, run_pick_op rfl h11, (by simpa using hc _), hR, Below.refl _ _⟩⟩
      ·have h23 : ρ (.tmp 48) = .bool false := hd ⟨23, .data⟩ (by simp) rfl 48 rfl
       exact .inl ⟨rfl, .inl ⟨_, u, rfl, h23, hR, Below.refl _ _⟩⟩
      ·have g24 : ρ (.tmp 49) = .bool false := hd ⟨24, .guard⟩ (by simp) rfl 49 rfl
       exact .inr ⟨(by show (match ρ (.tmp 49) with | .bool b => b == true | _ => false) = false; rw [g24]; rfl), rfl⟩
      ·have g24 : ρ (.tmp 49) = .bool false := hd ⟨24, .guard⟩ (by simp) rfl 49 rfl
       exact .inr ⟨(by show (match ρ (.tmp 49) with | .bool b => b == true | _ => false) = false; rw [g24]; rfl), rfl⟩
      ·have g24 : ρ (.tmp 49) = .bool false := hd ⟨24, .guard⟩ (by simp) rfl 49 rfl
       exact .inr ⟨(by show (match ρ (.tmp 49) with | .bool b => b == true | _ => false) = false; rw [g24]; rfl), rfl⟩
      ·have g24 : ρ (.tmp 49) = .bool false := hd ⟨24, .guard⟩ (by simp) rfl 49 rfl
       exact .inr ⟨(by show (match ρ (.tmp 49) with | .bool b => b == true | _ => false) = false; rw [g24]; rfl), rfl⟩
      ·have g24 : ρ (.tmp 49) = .bool false := hd ⟨24, .guard⟩ (by simp) rfl 49 rfl
       exact .inr ⟨(by show (match ρ (.tmp 49) with | .bool b => b == true | _ => false) = false; rw [g24]; rfl), rfl⟩
      ·have g24 : ρ (.tmp 49) = .bool false := hd ⟨24, .guard⟩ (by simp) rfl 49 rfl
       exact .inr ⟨(by show (match ρ (.tmp 49) with | .bool b => b == true | _ => false) = false; rw [g24]; rfl), rfl⟩
      ·have g24 : ρ (.tmp 49) = .bool false := hd ⟨24, .guard⟩ (by simp) rfl 49 rfl
       exact .inr ⟨(by show (match ρ (.tmp 49) with | .bool b => b == true | _ => false) = false; rw [g24]; rfl), rfl⟩
      ·have g24 : ρ (.tmp 49) = .bool false := hd ⟨24, .guard⟩ (by simp) rfl 49 rfl
       exact .inr ⟨(by show (match ρ (.tmp 49) with | .bool b => b == true | _ => false) = false; rw [g24]; rfl), rfl⟩
      ·have g24 : ρ (.tmp 49) = .bool false := hd ⟨24, .guard⟩ (by simp) rfl 49 rfl
       exact .inr ⟨(by show (match ρ (.tmp 49) with | .bool b => b == true | _ => false) = false; rw [g24]; rfl), rfl⟩
      ·have g24 : ρ (.tmp 49) = .bool false := hd ⟨24, .guard⟩ (by simp) rfl 49 rfl
       exact .inr ⟨(by show (match ρ (.tmp 49) with | .bool b => b == true | _ => false) = false; rw [g24]; rfl), rfl⟩
      ·have g24 : ρ (.tmp 49) = .bool false := hd ⟨24, .guard⟩ (by simp) rfl 49 rfl
       exact .inr ⟨(by show (match ρ (.tmp 49) with | .bool b => b == true | _ => false) = false; rw [g24]; rfl), rfl⟩
      ·have h24 : ρ (.tmp 49) = .bool false := hd ⟨24, .data⟩ (by simp) rfl 49 rfl
       exact .inl ⟨rfl, .inl ⟨_, u, run_pick_op rfl h24, (by simpa using hc _), hR, Below.refl _ _⟩⟩
      ·have h36 : ρ (.tmp 61) = .bool false := hd ⟨36, .data⟩ (by simp) rfl 61 rfl
       exact .inl ⟨rfl, .inl ⟨_, u, rfl, h36, hR, Below.refl _ _⟩⟩
      ·have g37 : ρ (.tmp 62) = .bool false := hd ⟨37, .guard⟩ (by simp) rfl 62 rfl
       exact .inr ⟨(by show (match ρ (.tmp 62) with | .bool b => b == true | _ => false) = false; rw [g37]; rfl), rfl⟩
      ·have g37 : ρ (.tmp 62) = .bool false := hd ⟨37, .guard⟩ (by simp) rfl 62 rfl
       exact .inr ⟨(by show (match ρ (.tmp 62) with | .bool b => b == true | _ => false) = false; rw [g37]; rfl), rfl⟩
      ·have g37 : ρ (.tmp 62) = .bool false := hd ⟨37, .guard⟩ (by simp) rfl 62 rfl
       exact .inr ⟨(by show (match ρ (.tmp 62) with | .bool b => b == true | _ => false) = false; rw [g37]; rfl), rfl⟩
      ·have g37 : ρ (.tmp 62) = .bool false := hd ⟨37, .guard⟩ (by simp) rfl 62 rfl
       exact .inr ⟨(by show (match ρ (.tmp 62) with | .bool b => b == true | _ => false) = false; rw [g37]; rfl), rfl⟩
      ·have g37 : ρ (.tmp 62) = .bool false := hd ⟨37, .guard⟩ (by simp) rfl 62 rfl
       exact .inr ⟨(by show (match ρ (.tmp 62) with | .bool b => b == true | _ => false) = false; rw [g37]; rfl), rfl⟩
      ·have g37 : ρ (.tmp 62) = .bool false := hd ⟨37, .guard⟩ (by simp) rfl 62 rfl
       exact .inr ⟨(by show (match ρ (.tmp 62) with | .bool b => b == true | _ => false) = false; rw [g37]; rfl), rfl⟩
      ·have g37 : ρ (.tmp 62) = .bool false := hd ⟨37, .guard⟩ (by simp) rfl 62 rfl
       exact .inr ⟨(by show (match ρ (.tmp 62) with | .bool b => b == true | _ => false) = false; rw [g37]; rfl), rfl⟩
      ·have g37 : ρ (.tmp 62) = .bool false := hd ⟨37, .guard⟩ (by simp) rfl 62 rfl
       exact .inr ⟨(by show (match ρ (.tmp 62) with | .bool b => b == true | _ => false) = false; rw [g37]; rfl), rfl⟩
      ·have g37 : ρ (.tmp 62) = .bool false := hd ⟨37, .guard⟩ (by simp) rfl 62 rfl
       exact .inr ⟨(by show (match ρ (.tmp 62) with | .bool b => b == true | _ => false) = false; rw [g37]; rfl), rfl⟩
      ·have g37 : ρ (.tmp 62) = .bool false := hd ⟨37, .guard⟩ (by simp) rfl 62 rfl
       exact .inr ⟨(by show (match ρ (.tmp 62) with | .bool b => b == true | _ => false) = false; rw [g37]; rfl), rfl⟩
      ·have g37 : ρ (.tmp 62) = .bool false := hd ⟨37, .guard⟩ (by simp) rfl 62 rfl
       exact .inr ⟨(by show (match ρ (.tmp 62) with | .bool b => b == true | _ => false) = false; rw [g37]; rfl), rfl⟩
      have h37 : ρ (.tmp 62) = .bool false := hd ⟨37, .data⟩ (by simp) rfl 62 rfl
      exact .inl ⟨rfl, .inl ⟨_, u, run_pick_op rfl h37, (by simpa using hc _), hR, Below.refl _ _⟩⟩
     have d0 : ((f y).u == (f z).u) = true := by simpa using h0
     by_cases h1 : (f y).s = (f z).s
     case neg =>
      have d1 : ((f y).s == (f z).s) = false := by simpa using h1
      go_wp2
      refine wp_region_any (by kernel_rfl) ?_
      refine wpAny_vals (fun u => Below wr.heap.size wr u) (fun i v u => match i with
       | 0 => v = .slice (some ⟨bb, off, none⟩) n cap
       | 1 => v = .int .i64 (y : Int)
       | 2 => v = .pointer (some ⟨bb, off + y * 7, none⟩)
       | 3 => v = .pointer (some ⟨bb, off + y * 7, none⟩)
       | 4 => v = .int .i64 (f y).u
       | 5 => v = .slice (some ⟨bb, off, none⟩) n cap
       | 6 => v = .int .i64 (z : Int)
       | 7 => v = .pointer (some ⟨bb, off + z * 7, none⟩)
       | 8 => v = .pointer (some ⟨bb, off + z * 7, none⟩)
       | 9 => v = .int .i64 (f z).u
       | 10 => v = .bool true
       | 11 => v = .bool true
       | 12 => v = .slice (some ⟨bb, off, none⟩) n cap
       | 13 => v = .int .i64 (y : Int)
       | 14 => v = .pointer (some ⟨bb, off + y * 7, none⟩)
       | 15 => v = .pointer (some ⟨bb, off + y * 7 + 1, none⟩)
       | 16 => v = .int .i64 (f y).s
       | 17 => v = .slice (some ⟨bb, off, none⟩) n cap
       | 18 => v = .int .i64 (z : Int)
       | 19 => v = .pointer (some ⟨bb, off + z * 7, none⟩)
       | 20 => v = .pointer (some ⟨bb, off + z * 7 + 1, none⟩)
       | 21 => v = .int .i64 (f z).s
       | 22 => v = .bool false
       | 23 => v = .bool false
       | 24 => v = .bool false
       | 25 => v = undef
       | 26 => v = undef
       | 27 => v = undef
       | 28 => v = undef
       | 29 => v = undef
       | 30 => v = undef
       | 31 => v = undef
       | 32 => v = undef
       | 33 => v = undef
       | 34 => v = undef
       | 35 => v = undef
       | 36 => v = .bool false
       | 37 => v = .bool false
       | 38 => v = undef
       | 39 => v = undef
       | 40 => v = undef
       | 41 => v = undef
       | 42 => v = undef
       | 43 => v = undef
       | 44 => v = undef
       | 45 => v = undef
       | 46 => v = undef
       | 47 => v = undef
       | 48 => v = undef
       | 49 => v = .bool false
       | _ => True) (by kernel_rfl) (by kernel_rfl) (fun _ _ _ _ h _ => h) (Below.refl _ _).drew ?_ ?_ _ _ rfl (by decide) (fun i => by simp [Array.getD]; try (split <;> rfl))
      ·intro vs u hR hall
       have e16 : vs 49 = .bool false := hall 49 (by simp)
       simp only [putsL]
       rw [e16]
       clear hall e16
       have BX := bel_next hbl hR
       clear hR CE hbl
       go_simp
       go_wp2
       go_roundw
       case rel => exact ⟨y + 1, by omega, by go_num, fun k hk => (by by_cases e : k = y; (subst e; exact fun h => (by unfold ovl at h; omega)); (exact HA.out k (by omega))), BX⟩
       case measure => simp [intOf]; omega
      intro u i o ρ hR ho hρ hc hf hd
      have hi : i < 50 := by
       have := (Array.getElem?_eq_some_iff.1 ho).1
       simpa using this
      obtain rfl | rfl | rfl | rfl | rfl | rfl | rfl | rfl | rfl | rfl | rfl | rfl | rfl | rfl | rfl | rfl | rfl | rfl | rfl | rfl | rfl | rfl | rfl | rfl | rfl | rfl | rfl | rfl | rfl | rfl | rfl | rfl | rfl | rfl | rfl | rfl | rfl | rfl | rfl | rfl | rfl | rfl | rfl | rfl | rfl | rfl | rfl | rfl | rfl | rfl : i = 0 \/ i = 1 \/ i = 2 \/ i = 3 \/ i = 4 \/ i = 5 \/ i = 6 \/ i = 7 \/ i = 8 \/ i = 9 \/ i = 10 \/ i = 11 \/ i = 12 \/ i = 13 \/ i = 14 \/ i = 15 \/ i = 16 \/ i = 17 \/ i = 18 \/ i = 19 \/ i = 20 \/ i = 21 \/ i = 22 \/ i = 23 \/ i = 24 \/ i = 25 \/ i = 26 \/ i = 27 \/ i = 28 \/ i = 29 \/ i = 30 \/ i = 31 \/ i = 32 \/ i = 33 \/ i = 34 \/ i = 35 \/ i = 36 \/ i = 37 \/ i = 38 \/ i = 39 \/ i = 40 \/ i = 41 \/ i = 42 \/ i = 43 \/ i = 44 \/ i = 45 \/ i = 46 \/ i = 47 \/ i = 48 \/ i = 49 := by omega
      all_goals (simp only [List.getElem?_toArray, List.getElem?_cons_zero, List.getElem?_cons_succ, Option.some.injEq] at ho; subst ho)
      ·have s0 : ρ (.tmp 0) = .slice (some ⟨bb, off, none⟩) n cap := (hρ 0 (by kernel_rfl)).trans rfl
       exact .inl ⟨rfl, .inl ⟨_, u, rfl, s0, hR, Below.refl _ _⟩⟩
      ·have s4 : ρ (.tmp 4) = .int .i64 (y : Int) := (hρ 4 (by kernel_rfl)).trans rfl
       exact .inl ⟨rfl, .inl ⟨_, u, rfl, s4, hR, Below.refl _ _⟩⟩
      ·have h0 : ρ (.tmp 25) = .slice (some ⟨bb, off, none⟩) n cap := hd ⟨0, .data⟩ (by simp) rfl 25 rfl
       have h1 : ρ (.tmp 26) = .int .i64 (y : Int) := hd ⟨1, .data⟩ (by simp) rfl 26 rfl
       exact .inl ⟨rfl, .inl ⟨.pointer (some ⟨bb, off + y * 7, none⟩), u, run_index_op rfl h0 h1 (by go_simp), rfl, hR, Below.refl _ _⟩⟩
      ·have h2 : ρ (.tmp 27) = .pointer (some ⟨bb, off + y * 7, none⟩) := hd ⟨2, .data⟩ (by simp) rfl 27 rfl
       exact .inl ⟨rfl, .inl ⟨.pointer (some ⟨bb, off + y * 7, none⟩), u, run_field_op rfl h2 (by go_simp), rfl, hR, Below.refl _ _⟩⟩
      ·obtain ⟨q0, q1, q2, q3, p0, p1, p2, p3⟩ := CE.out u hR
       have h3 : ρ (.tmp 28) = .pointer (some ⟨bb, off + y * 7, none⟩) := hd ⟨3, .data⟩ (by simp) rfl 28 rfl
       have hr : (Instr.loadAt 3 (.pointer (some ⟨bb, off + y * 7, none⟩))).run Tryz.prog u = .ok (.int .i64 (f y).u) u := by go_simp
       exact .inl ⟨rfl, .inl ⟨.int .i64 (f y).u, u, run_load_op rfl h3 hr, rfl, hR, Below.refl _ _⟩⟩
      ·have s0 : ρ (.tmp 0) = .slice (some ⟨bb, off, none⟩) n cap := (hρ 0 (by kernel_rfl)).trans rfl
       exact .inl ⟨rfl, .inl ⟨_, u, rfl, s0, hR, Below.refl _ _⟩⟩
      ·have s3 : ρ (.tmp 3) = .int .i64 (z : Int) := (hρ 3 (by kernel_rfl)).trans rfl
       exact .inl ⟨rfl, .inl ⟨_, u, rfl, s3, hR, Below.refl _ _⟩⟩
      ·have h5 : ρ (.tmp 30) = .slice (some ⟨bb, off, none⟩) n cap := hd ⟨5, .data⟩ (by simp) rfl 30 rfl
       have h6 : ρ (.tmp 31) = .int .i64 (z : Int) := hd ⟨6, .data⟩ (by simp) rfl 31 rfl
       exact .inl ⟨rfl, .inl ⟨.pointer (some ⟨bb, off + z * 7, none⟩), u, run_index_op rfl h5 h6 (by go_simp), rfl, hR, Below.refl _ _⟩⟩
      ·have h7 : ρ (.tmp 32) = .pointer (some ⟨bb, off + z * 7, none⟩) := hd ⟨7, .data⟩ (by simp) rfl 32 rfl
       exact .inl ⟨rfl, .inl ⟨.pointer (some ⟨bb, off + z * 7, none⟩), u, run_field_op rfl h7 (by go_simp), rfl, hR, Below.refl _ _⟩⟩
      ·obtain ⟨q0, q1, q2, q3, p0, p1, p2, p3⟩ := CE.out u hR
       have h8 : ρ (.tmp 33) = .pointer (some ⟨bb, off + z * 7, none⟩) := hd ⟨8, .data⟩ (by simp) rfl 33 rfl
       have hr : (Instr.loadAt 3 (.pointer (some ⟨bb, off + z * 7, none⟩))).run Tryz.prog u = .ok (.int .i64 (f z).u) u := by go_simp
       exact .inl ⟨rfl, .inl ⟨.int .i64 (f z).u, u, run_load_op rfl h8 hr, rfl, hR, Below.refl _ _⟩⟩
      ·have h4 : ρ (.tmp 29) = .int .i64 (f y).u := hd ⟨4, .data⟩ (by simp) rfl 29 rfl
       have h9 : ρ (.tmp 34) = .int .i64 (f z).u := hd ⟨9, .data⟩ (by simp) rfl 34 rfl
       exact .inl ⟨rfl, .inl ⟨.bool true, u, run_bin_op rfl h4 h9 (by go_simp), rfl, hR, Below.refl _ _⟩⟩
      ·have h10 : ρ (.tmp 35) = .bool true := hd ⟨10, .data⟩ (by simp) rfl 35 rfl
       exact .inl ⟨rfl, .inl ⟨_, u, rfl, h10, hR, Below.refl _ _⟩⟩
      ·have g11 : ρ (.tmp 36) = .bool true := hd ⟨11, .guard⟩ (by simp) rfl 36 rfl
       have s0 : ρ (.tmp 0) = .slice (some ⟨bb, off, none⟩) n cap := (hρ 0 (by kernel_rfl)).trans rfl
       exact .inl ⟨(by show (match ρ (.tmp 36) with | .bool b => b == true | _ => false) = true; rw [g11]; rfl), .inl ⟨_, u, rfl, s0, hR, Below.refl _ _⟩⟩
      ·have g11 : ρ (.tmp 36) = .bool true := hd ⟨11, .guard⟩ (by simp) rfl 36 rfl
       have s4 : ρ (.tmp 4) = .int .i64 (y : Int) := (hρ 4 (by kernel_rfl)).trans rfl
       exact .inl ⟨(by show (match ρ (.tmp 36) with | .bool b => b == true | _ => false) = true; rw [g11]; rfl), .inl ⟨_, u, rfl, s4, hR, Below.refl _ _⟩⟩
      ·have g11 : ρ (.tmp 36) = .bool true := hd ⟨11, .guard⟩ (by simp) rfl 36 rfl
       have h12 : ρ (.tmp 37) = .slice (some ⟨bb, off, none⟩) n cap := hd ⟨12, .data⟩ (by simp) rfl 37 rfl
       have h13 : ρ (.tmp 38) = .int .i64 (y : Int) := hd ⟨13, .data⟩ (by simp) rfl 38 rfl
       exact .inl ⟨(by show (match ρ (.tmp 36) with | .bool b => b == true | _ => false) = true; rw [g11]; rfl), .inl ⟨.pointer (some ⟨bb, off + y * 7, none⟩), u, run_index_op rfl h12 h13 (by go_simp), rfl, hR, Below.refl _ _⟩⟩
      ·have g11 : ρ (.tmp 36) = .bool true := hd ⟨11, .guard⟩ (by simp) rfl 36 rfl
       have h14 : ρ (.tmp 39) = .pointer (some ⟨bb, off + y * 7, none⟩) := hd ⟨14, .data⟩ (by simp) rfl 39 rfl
       exact .inl ⟨(by show (match ρ (.tmp 36) with | .bool b => b == true | _ => false) = true; rw [g11]; rfl), .inl ⟨.pointer (some ⟨bb, off + y * 7 + 1, none⟩), u, run_field_op rfl h14 (by go_simp), rfl, hR, Below.refl _ _⟩⟩
      ·obtain ⟨q0, q1, q2, q3, p0, p1, p2, p3⟩ := CE.out u hR
       have g11 : ρ (.tmp 36) = .bool true := hd ⟨11, .guard⟩ (by simp) rfl 36 rfl
       have h15 : ρ (.tmp 40) = .pointer (some ⟨bb, off + y * 7 + 1, none⟩) := hd ⟨15, .data⟩ (by simp) rfl 40 rfl
       have hr : (Instr.loadAt 3 (.pointer (some ⟨bb, off + y * 7 + 1, none⟩))).run Tryz.prog u = .ok (.int .i64 (f y).s) u := by go_simp
       exact .inl ⟨(by show (match ρ (.tmp 36) with | .bool b => b == true | _ => false) = true; rw [g11]; rfl), .inl ⟨.int .i64 (f y).s, u, run_load_op rfl h15 hr, rfl, hR, Below.refl _ _⟩⟩
      ·have g11 : ρ (.tmp 36) = .bool true := hd ⟨11, .guard⟩ (by simp) rfl 36 rfl
       have s0 : ρ (.tmp 0) = .slice (some ⟨bb, off, none⟩) n cap := (hρ 0 (by kernel_rfl)).trans rfl
       exact .inl ⟨(by show (match ρ (.tmp 36) with | .bool b => b == true | _ => false) = true; rw [g11]; rfl), .inl ⟨_, u, rfl, s0, hR, Below.refl _ _⟩⟩
      ·have g11 : ρ (.tmp 36) = .bool true := hd ⟨11, .guard⟩ (by simp) rfl 36 rfl
       have s3 : ρ (.tmp 3) = .int .i64 (z : Int) := (hρ 3 (by kernel_rfl)).trans rfl
       exact .inl ⟨(by show (match ρ (.tmp 36) with | .bool b => b == true | _ => false) = true; rw [g11]; rfl), .inl ⟨_, u, rfl, s3, hR, Below.refl _ _⟩⟩
      ·have g11 : ρ (.tmp 36) = .bool true := hd ⟨11, .guard⟩ (by simp) rfl 36 rfl
       have h17 : ρ (.tmp 42) = .slice (some ⟨bb, off, none⟩) n cap := hd ⟨17, .data⟩ (by simp) rfl 42 rfl
       have h18 : ρ (.tmp 43) = .int .i64 (z : Int) := hd ⟨18, .data⟩ (by simp) rfl 43 rfl
       exact .inl ⟨(by show (match ρ (.tmp 36) with | .bool b => b == true | _ => false) = true; rw [g11]; rfl), .inl ⟨.pointer (some ⟨bb, off + z * 7, none⟩), u, run_index_op rfl h17 h18 (by go_simp), rfl, hR, Below.refl _ _⟩⟩
      ·have g11 : ρ (.tmp 36) = .bool true := hd ⟨11, .guard⟩ (by simp) rfl 36 rfl
       have h19 : ρ (.tmp 44) = .pointer (some ⟨bb, off + z * 7, none⟩) := hd ⟨19, .data⟩ (by simp) rfl 44 rfl
       exact .inl ⟨(by show (match ρ (.tmp 36) with | .bool b => b == true | _ => false) = true; rw [g11]; rfl), .inl ⟨.pointer (some ⟨bb, off + z * 7 + 1, none⟩), u, run_field_op rfl h19 (by go_simp), rfl, hR, Below.refl _ _⟩⟩
      ·obtain ⟨q0, q1, q2, q3, p0, p1, p2, p3⟩ := CE.out u hR
       have g11 : ρ (.tmp 36) = .bool true := hd ⟨11, .guard⟩ (by simp) rfl 36 rfl
       have h20 : ρ (.tmp 45) = .pointer (some ⟨bb, off + z * 7 + 1, none⟩) := hd ⟨20, .data⟩ (by simp) rfl 45 rfl
       have hr : (Instr.loadAt 3 (.pointer (some ⟨bb, off + z * 7 + 1, none⟩))).run Tryz.prog u = .ok (.int .i64 (f z).s) u := by go_simp
       exact .inl ⟨(by show (match ρ (.tmp 36) with | .bool b => b == true | _ => false) = true; rw [g11]; rfl), .inl ⟨.int .i64 (f z).s, u, run_load_op rfl h20 hr, rfl, hR, Below.refl _ _⟩⟩
      ·have g11 : ρ (.tmp 36) = .bool true := hd ⟨11, .guard⟩ (by simp) rfl 36 rfl
       have h16 : ρ (.tmp 41) = .int .i64 (f y).s := hd ⟨16, .data⟩ (by simp) rfl 41 rfl
       have h21 : ρ (.tmp 46) = .int .i64 (f z).s := hd ⟨21, .data⟩ (by simp) rfl 46 rfl
       exact .inl ⟨(by show (match ρ (.tmp 36) with | .bool b => b == true | _ => false) = true; rw [g11]; rfl), .inl ⟨.bool false, u, run_bin_op rfl h16 h21 (by go_simp), rfl, hR, Below.refl _ _⟩⟩
      ·have h11 : ρ (.tmp 36) = .bool true := hd ⟨11, .data⟩ (by simp) rfl 36 rfl
       have h22 : ρ (.tmp 47) = .bool false := hd ⟨22, .data⟩ (by simp) rfl 47 rfl
       exact .inl ⟨rfl, .inl ⟨_, u, run_pick_op rfl h11, (by simpa using h22), hR, Below.refl _ _⟩⟩
      ·have h23 : ρ (.tmp 48) = .bool false := hd ⟨23, .data⟩ (by simp) rfl 48 rfl
       exact .inl ⟨rfl, .inl ⟨_, u, rfl, h23, hR, Below.refl _ _⟩⟩
      ·have g24 : ρ (.tmp 49) = .bool false := hd ⟨24, .guard⟩ (by simp) rfl 49 rfl
       exact .inr ⟨(by show (match ρ (.tmp 49) with | .bool b => b == true | _ => false) = false; rw [g24]; rfl), rfl⟩
      ·have g24 : ρ (.tmp 49) = .bool false := hd ⟨24, .guard⟩ (by simp) rfl 49 rfl
       exact .inr ⟨(by show (match ρ (.tmp 49) with | .bool b => b == true | _ => false) = false; rw [g24]; rfl), rfl⟩
      ·have g24 : ρ (.tmp 49) = .bool false := hd ⟨24, .guard⟩ (by simp) rfl 49 rfl
       exact .inr ⟨(by show (match ρ (.tmp 49) with | .bool b => b == true | _ => false) = false; rw [g24]; rfl), rfl⟩
      ·have g24 : ρ (.tmp 49) = .bool false := hd ⟨24, .guard⟩ (by simp) rfl 49 rfl
       exact .inr ⟨(by show (match ρ (.tmp 49) with | .bool b => b == true | _ => false) = false; rw [g24]; rfl), rfl⟩
      ·have g24 : ρ (.tmp 49) = .bool false := hd ⟨24, .guard⟩ (by simp) rfl 49 rfl
       exact .inr ⟨(by show (match ρ (.tmp 49) with | .bool b => b == true | _ => false) = false; rw [g24]; rfl), rfl⟩
      ·have g24 : ρ (.tmp 49) = .bool false := hd ⟨24, .guard⟩ (by simp) rfl 49 rfl
       exact .inr ⟨(by show (match ρ (.tmp 49) with | .bool b => b == true | _ => false) = false; rw [g24]; rfl), rfl⟩
      ·have g24 : ρ (.tmp 49) = .bool false := hd ⟨24, .guard⟩ (by simp) rfl 49 rfl
       exact .inr ⟨(by show (match ρ (.tmp 49) with | .bool b => b == true | _ => false) = false; rw [g24]; rfl), rfl⟩
      ·have g24 : ρ (.tmp 49) = .bool false := hd ⟨24, .guard⟩ (by simp) rfl 49 rfl
       exact .inr ⟨(by show (match ρ (.tmp 49) with | .bool b => b == true | _ => false) = false; rw [g24]; rfl), rfl⟩
      ·have g24 : ρ (.tmp 49) = .bool false := hd ⟨24, .guard⟩ (by simp) rfl 49 rfl
       exact .inr ⟨(by show (match ρ (.tmp 49) with | .bool b => b == true | _ => false) = false; rw [g24]; rfl), rfl⟩
      ·have g24 : ρ (.tmp 49) = .bool false := hd ⟨24, .guard⟩ (by simp) rfl 49 rfl
       exact .inr ⟨(by show (match ρ (.tmp 49) with | .bool b => b == true | _ => false) = false; rw [g24]; rfl), rfl⟩
      ·have g24 : ρ (.tmp 49) = .bool false := hd ⟨24, .guard⟩ (by simp) rfl 49 rfl
       exact .inr ⟨(by show (match ρ (.tmp 49) with | .bool b => b == true | _ => false) = false; rw [g24]; rfl), rfl⟩
      ·have h24 : ρ (.tmp 49) = .bool false := hd ⟨24, .data⟩ (by simp) rfl 49 rfl
       exact .inl ⟨rfl, .inl ⟨_, u, run_pick_op rfl h24, (by simpa using hc _), hR, Below.refl _ _⟩⟩
      ·have h36 : ρ (.tmp 61) = .bool false := hd ⟨36, .data⟩ (by simp) rfl 61 rfl
       exact .inl ⟨rfl, .inl ⟨_, u, rfl, h36, hR, Below.refl _ _⟩⟩
      ·have g37 : ρ (.tmp 62) = .bool false := hd ⟨37, .guard⟩ (by simp) rfl 62 rfl
       exact .inr ⟨(by show (match ρ (.tmp 62) with | .bool b => b == true | _ => false) = false; rw [g37]; rfl), rfl⟩
      ·have g37 : ρ (.tmp 62) = .bool false := hd ⟨37, .guard⟩ (by simp) rfl 62 rfl
       exact .inr ⟨(by show (match ρ (.tmp 62) with | .bool b => b == true | _ => false) = false; rw [g37]; rfl), rfl⟩
      ·have g37 : ρ (.tmp 62) = .bool false := hd ⟨37, .guard⟩ (by simp) rfl 62 rfl
       exact .inr ⟨(by show (match ρ (.tmp 62) with | .bool b => b == true | _ => false) = false; rw [g37]; rfl), rfl⟩
      ·have g37 : ρ (.tmp 62) = .bool false := hd ⟨37, .guard⟩ (by simp) rfl 62 rfl
       exact .inr ⟨(by show (match ρ (.tmp 62) with | .bool b => b == true | _ => false) = false; rw [g37]; rfl), rfl⟩
      ·have g37 : ρ (.tmp 62) = .bool false := hd ⟨37, .guard⟩ (by simp) rfl 62 rfl
       exact .inr ⟨(by show (match ρ (.tmp 62) with | .bool b => b == true | _ => false) = false; rw [g37]; rfl), rfl⟩
      ·have g37 : ρ (.tmp 62) = .bool false := hd ⟨37, .guard⟩ (by simp) rfl 62 rfl
       exact .inr ⟨(by show (match ρ (.tmp 62) with | .bool b => b == true | _ => false) = false; rw [g37]; rfl), rfl⟩
      ·have g37 : ρ (.tmp 62) = .bool false := hd ⟨37, .guard⟩ (by simp) rfl 62 rfl
       exact .inr ⟨(by show (match ρ (.tmp 62) with | .bool b => b == true | _ => false) = false; rw [g37]; rfl), rfl⟩
      ·have g37 : ρ (.tmp 62) = .bool false := hd ⟨37, .guard⟩ (by simp) rfl 62 rfl
       exact .inr ⟨(by show (match ρ (.tmp 62) with | .bool b => b == true | _ => false) = false; rw [g37]; rfl), rfl⟩
      ·have g37 : ρ (.tmp 62) = .bool false := hd ⟨37, .guard⟩ (by simp) rfl 62 rfl
       exact .inr ⟨(by show (match ρ (.tmp 62) with | .bool b => b == true | _ => false) = false; rw [g37]; rfl), rfl⟩
      ·have g37 : ρ (.tmp 62) = .bool false := hd ⟨37, .guard⟩ (by simp) rfl 62 rfl
       exact .inr ⟨(by show (match ρ (.tmp 62) with | .bool b => b == true | _ => false) = false; rw [g37]; rfl), rfl⟩
      ·have g37 : ρ (.tmp 62) = .bool false := hd ⟨37, .guard⟩ (by simp) rfl 62 rfl
       exact .inr ⟨(by show (match ρ (.tmp 62) with | .bool b => b == true | _ => false) = false; rw [g37]; rfl), rfl⟩
      have h37 : ρ (.tmp 62) = .bool false := hd ⟨37, .data⟩ (by simp) rfl 62 rfl
      exact .inl ⟨rfl, .inl ⟨_, u, run_pick_op rfl h37, (by simpa using hc _), hR, Below.refl _ _⟩⟩
     have d1 : ((f y).s == (f z).s) = true := by simpa using h1
     by_cases h2 : (f y).lo <= (f z).hi
     case neg =>
      go_wp2
      refine wp_region_any (by kernel_rfl) ?_
      refine wpAny_vals (fun u => Below wr.heap.size wr u) (fun i v u => match i with
       | 0 => v = .slice (some ⟨bb, off, none⟩) n cap
       | 1 => v = .int .i64 (y : Int)
       | 2 => v = .pointer (some ⟨bb, off + y * 7, none⟩)
       | 3 => v = .pointer (some ⟨bb, off + y * 7, none⟩)
       | 4 => v = .int .i64 (f y).u
       | 5 => v = .slice (some ⟨bb, off, none⟩) n cap
       | 6 => v = .int .i64 (z : Int)
       | 7 => v = .pointer (some ⟨bb, off + z * 7, none⟩)
       | 8 => v = .pointer (some ⟨bb, off + z * 7, none⟩)
       | 9 => v = .int .i64 (f z).u
       | 10 => v = .bool true
       | 11 => v = .bool true
       | 12 => v = .slice (some ⟨bb, off, none⟩) n cap
       | 13 => v = .int .i64 (y : Int)
       | 14 => v = .pointer (some ⟨bb, off + y * 7, none⟩)
       | 15 => v = .pointer (some ⟨bb, off + y * 7 + 1, none⟩)
       | 16 => v = .int .i64 (f y).s
       | 17 => v = .slice (some ⟨bb, off, none⟩) n cap
       | 18 => v = .int .i64 (z : Int)
       | 19 => v = .pointer (some ⟨bb, off + z * 7, none⟩)
       | 20 => v = .pointer (some ⟨bb, off + z * 7 + 1, none⟩)
       | 21 => v = .int .i64 (f z).s
       | 22 => v = .bool true
       | 23 => v = .bool true
       | 24 => v = .bool true
       | 25 => v = .slice (some ⟨bb, off, none⟩) n cap
       | 26 => v = .int .i64 (y : Int)
       | 27 => v = .pointer (some ⟨bb, off + y * 7, none⟩)
       | 28 => v = .pointer (some ⟨bb, off + y * 7 + 2, none⟩)
       | 29 => v = .int .i64 (f y).lo
       | 30 => v = .slice (some ⟨bb, off, none⟩) n cap
       | 31 => v = .int .i64 (z : Int)
       | 32 => v = .pointer (some ⟨bb, off + z * 7, none⟩)
       | 33 => v = .pointer (some ⟨bb, off + z * 7 + 3, none⟩)
       | 34 => v = .int .i64 (f z).hi
       | 35 => v = .bool false
       | 36 => v = .bool false
       | 37 => v = .bool false
       | 38 => v = undef
       | 39 => v = undef
       | 40 => v = undef
       | 41 => v = undef
       | 42 => v = undef
       | 43 => v = undef
       | 44 => v = undef
       | 45 => v = undef
       | 46 => v = undef
       | 47 => v = undef
       | 48 => v = undef
       | 49 => v = .bool false
       | _ => True) (by kernel_rfl) (by kernel_rfl) (fun _ _ _ _ h _ => h) (Below.refl _ _).drew ?_ ?_ _ _ rfl (by decide) (fun i => by simp [Array.getD]; try (split <;> rfl))
      ·intro vs u hR hall
       have e16 : vs 49 = .bool false := hall 49 (by simp)
       simp only [putsL]
       rw [e16]
       clear hall e16
       have BX := bel_next hbl hR
       clear hR CE hbl
       go_simp
       go_wp2
       go_roundw
       case rel => exact ⟨y + 1, by omega, by go_num, fun k hk => (by by_cases e : k = y; (subst e; exact fun h => (by unfold ovl at h; omega)); (exact HA.out k (by omega))), BX⟩
       case measure => simp [intOf]; omega
      intro u i o ρ hR ho hρ hc hf hd
      have hi : i < 50 := by
       have := (Array.getElem?_eq_some_iff.1 ho).1
       simpa using this
      obtain rfl | rfl | rfl | rfl | rfl | rfl | rfl | rfl | rfl | rfl | rfl | rfl | rfl | rfl | rfl | rfl | rfl | rfl | rfl | rfl | rfl | rfl | rfl | rfl | rfl | rfl | rfl | rfl | rfl | rfl | rfl | rfl | rfl | rfl | rfl | rfl | rfl | rfl | rfl | rfl | rfl | rfl | rfl | rfl | rfl | rfl | rfl | rfl | rfl | rfl : i = 0 \/ i = 1 \/ i = 2 \/ i = 3 \/ i = 4 \/ i = 5 \/ i = 6 \/ i = 7 \/ i = 8 \/ i = 9 \/ i = 10 \/ i = 11 \/ i = 12 \/ i = 13 \/ i = 14 \/ i = 15 \/ i = 16 \/ i = 17 \/ i = 18 \/ i = 19 \/ i = 20 \/ i = 21 \/ i = 22 \/ i = 23 \/ i = 24 \/ i = 25 \/ i = 26 \/ i = 27 \/ i = 28 \/ i = 29 \/ i = 30 \/ i = 31 \/ i = 32 \/ i = 33 \/ i = 34 \/ i = 35 \/ i = 36 \/ i = 37 \/ i = 38 \/ i = 39 \/ i = 40 \/ i = 41 \/ i = 42 \/ i = 43 \/ i = 44 \/ i = 45 \/ i = 46 \/ i = 47 \/ i = 48 \/ i = 49 := by omega
      all_goals (simp only [List.getElem?_toArray, List.getElem?_cons_zero, List.getElem?_cons_succ, Option.some.injEq] at ho; subst ho)
      ·have s0 : ρ (.tmp 0) = .slice (some ⟨bb, off, none⟩) n cap := (hρ 0 (by kernel_rfl)).trans rfl
       exact .inl ⟨rfl, .inl ⟨_, u, rfl, s0, hR, Below.refl _ _⟩⟩
      ·have s4 : ρ (.tmp 4) = .int .i64 (y : Int) := (hρ 4 (by kernel_rfl)).trans rfl
       exact .inl ⟨rfl, .inl ⟨_, u, rfl, s4, hR, Below.refl _ _⟩⟩
      ·have h0 : ρ (.tmp 25) = .slice (some ⟨bb, off, none⟩) n cap := hd ⟨0, .data⟩ (by simp) rfl 25 rfl
       have h1 : ρ (.tmp 26) = .int .i64 (y : Int) := hd ⟨1, .data⟩ (by simp) rfl 26 rfl
       exact .inl ⟨rfl, .inl ⟨.pointer (some ⟨bb, off + y * 7, none⟩), u, run_index_op rfl h0 h1 (by go_simp), rfl, hR, Below.refl _ _⟩⟩
      ·have h2 : ρ (.tmp 27) = .pointer (some ⟨bb, off + y * 7, none⟩) := hd ⟨2, .data⟩ (by simp) rfl 27 rfl
       exact .inl ⟨rfl, .inl ⟨.pointer (some ⟨bb, off + y * 7, none⟩), u, run_field_op rfl h2 (by go_simp), rfl, hR, Below.refl _ _⟩⟩
      ·obtain ⟨q0, q1, q2, q3, p0, p1, p2, p3⟩ := CE.out u hR
       have h3 : ρ (.tmp 28) = .pointer (some ⟨bb, off + y * 7, none⟩) := hd ⟨3, .data⟩ (by simp) rfl 28 rfl
       have hr : (Instr.loadAt 3 (.pointer (some ⟨bb, off + y * 7, none⟩))).run Tryz.prog u = .ok (.int .i64 (f y).u) u := by go_simp
       exact .inl ⟨rfl, .inl ⟨.int .i64 (f y).u, u, run_load_op rfl h3 hr, rfl, hR, Below.refl _ _⟩⟩
      ·have s0 : ρ (.tmp 0) = .slice (some ⟨bb, off, none⟩) n cap := (hρ 0 (by kernel_rfl)).trans rfl
       exact .inl ⟨rfl, .inl ⟨_, u, rfl, s0, hR, Below.refl _ _⟩⟩
      ·have s3 : ρ (.tmp 3) = .int .i64 (z : Int) := (hρ 3 (by kernel_rfl)).trans rfl
       exact .inl ⟨rfl, .inl ⟨_, u, rfl, s3, hR, Below.refl _ _⟩⟩
      ·have h5 : ρ (.tmp 30) = .slice (some ⟨bb, off, none⟩) n cap := hd ⟨5, .data⟩ (by simp) rfl 30 rfl
       have h6 : ρ (.tmp 31) = .int .i64 (z : Int) := hd ⟨6, .data⟩ (by simp) rfl 31 rfl
       exact .inl ⟨rfl, .inl ⟨.pointer (some ⟨bb, off + z * 7, none⟩), u, run_index_op rfl h5 h6 (by go_simp), rfl, hR, Below.refl _ _⟩⟩
      ·have h7 : ρ (.tmp 32) = .pointer (some ⟨bb, off + z * 7, none⟩) := hd ⟨7, .data⟩ (by simp) rfl 32 rfl
       exact .inl ⟨rfl, .inl ⟨.pointer (some ⟨bb, off + z * 7, none⟩), u, run_field_op rfl h7 (by go_simp), rfl, hR, Below.refl _ _⟩⟩
      ·obtain ⟨q0, q1, q2, q3, p0, p1, p2, p3⟩ := CE.out u hR
       have h8 : ρ (.tmp 33) = .pointer (some ⟨bb, off + z * 7, none⟩) := hd ⟨8, .data⟩ (by simp) rfl 33 rfl
       have hr : (Instr.loadAt 3 (.pointer (some ⟨bb, off + z * 7, none⟩))).run Tryz.prog u = .ok (.int .i64 (f z).u) u := by go_simp
       exact .inl ⟨rfl, .inl ⟨.int .i64 (f z).u, u, run_load_op rfl h8 hr, rfl, hR, Below.refl _ _⟩⟩
      ·have h4 : ρ (.tmp 29) = .int .i64 (f y).u := hd ⟨4, .data⟩ (by simp) rfl 29 rfl
       have h9 : ρ (.tmp 34) = .int .i64 (f z).u := hd ⟨9, .data⟩ (by simp) rfl 34 rfl
       exact .inl ⟨rfl, .inl ⟨.bool true, u, run_bin_op rfl h4 h9 (by go_simp), rfl, hR, Below.refl _ _⟩⟩
      ·have h10 : ρ (.tmp 35) = .bool true := hd ⟨10, .data⟩ (by simp) rfl 35 rfl
       exact .inl ⟨rfl, .inl ⟨_, u, rfl, h10, hR, Below.refl _ _⟩⟩
      ·have g11 : ρ (.tmp 36) = .bool true := hd ⟨11, .guard⟩ (by simp) rfl 36 rfl
       have s0 : ρ (.tmp 0) = .slice (some ⟨bb, off, none⟩) n cap := (hρ 0 (by kernel_rfl)).trans rfl
       exact .inl ⟨(by show (match ρ (.tmp 36) with | .bool b => b == true | _ => false) = true; rw [g11]; rfl), .inl ⟨_, u, rfl, s0, hR, Below.refl _ _⟩⟩
      ·have g11 : ρ (.tmp 36) = .bool true := hd ⟨11, .guard⟩ (by simp) rfl 36 rfl
       have s4 : ρ (.tmp 4) = .int .i64 (y : Int) := (hρ 4 (by kernel_rfl)).trans rfl
       exact .inl ⟨(by show (match ρ (.tmp 36) with | .bool b => b == true | _ => false) = true; rw [g11]; rfl), .inl ⟨_, u, rfl, s4, hR, Below.refl _ _⟩⟩
      ·have g11 : ρ (.tmp 36) = .bool true := hd ⟨11, .guard⟩ (by simp) rfl 36 rfl
       have h12 : ρ (.tmp 37) = .slice (some ⟨bb, off, none⟩) n cap := hd ⟨12, .data⟩ (by simp) rfl 37 rfl
       have h13 : ρ (.tmp 38) = .int .i64 (y : Int) := hd ⟨13, .data⟩ (by simp) rfl 38 rfl
       exact .inl ⟨(by show (match ρ (.tmp 36) with | .bool b => b == true | _ => false) = true; rw [g11]; rfl), .inl ⟨.pointer (some ⟨bb, off + y * 7, none⟩), u, run_index_op rfl h12 h13 (by go_simp), rfl, hR, Below.refl _ _⟩⟩
      ·have g11 : ρ (.tmp 36) = .bool true := hd ⟨11, .guard⟩ (by simp) rfl 36 rfl
       have h14 : ρ (.tmp 39) = .pointer (some ⟨bb, off + y * 7, none⟩) := hd ⟨14, .data⟩ (by simp) rfl 39 rfl
       exact .inl ⟨(by show (match ρ (.tmp 36) with | .bool b => b == true | _ => false) = true; rw [g11]; rfl), .inl ⟨.pointer (some ⟨bb, off + y * 7 + 1, none⟩), u, run_field_op rfl h14 (by go_simp), rfl, hR, Below.refl _ _⟩⟩
      ·obtain ⟨q0, q1, q2, q3, p0, p1, p2, p3⟩ := CE.out u hR
       have g11 : ρ (.tmp 36) = .bool true := hd ⟨11, .guard⟩ (by simp) rfl 36 rfl
       have h15 : ρ (.tmp 40) = .pointer (some ⟨bb, off + y * 7 + 1, none⟩) := hd ⟨15, .data⟩ (by simp) rfl 40 rfl
       have hr : (Instr.loadAt 3 (.pointer (some ⟨bb, off + y * 7 + 1, none⟩))).run Tryz.prog u = .ok (.int .i64 (f y).s) u := by go_simp
       exact .inl ⟨(by show (match ρ (.tmp 36) with | .bool b => b == true | _ => false) = true; rw [g11]; rfl), .inl ⟨.int .i64 (f y).s, u, run_load_op rfl h15 hr, rfl, hR, Below.refl _ _⟩⟩
      ·have g11 : ρ (.tmp 36) = .bool true := hd ⟨11, .guard⟩ (by simp) rfl 36 rfl
       have s0 : ρ (.tmp 0) = .slice (some ⟨bb, off, none⟩) n cap := (hρ 0 (by kernel_rfl)).trans rfl
       exact .inl ⟨(by show (match ρ (.tmp 36) with | .bool b => b == true | _ => false) = true; rw [g11]; rfl), .inl ⟨_, u, rfl, s0, hR, Below.refl _ _⟩⟩
      ·have g11 : ρ (.tmp 36) = .bool true := hd ⟨11, .guard⟩ (by simp) rfl 36 rfl
       have s3 : ρ (.tmp 3) = .int .i64 (z : Int) := (hρ 3 (by kernel_rfl)).trans rfl
       exact .inl ⟨(by show (match ρ (.tmp 36) with | .bool b => b == true | _ => false) = true; rw [g11]; rfl), .inl ⟨_, u, rfl, s3, hR, Below.refl _ _⟩⟩
      ·have g11 : ρ (.tmp 36) = .bool true := hd ⟨11, .guard⟩ (by simp) rfl 36 rfl
       have h17 : ρ (.tmp 42) = .slice (some ⟨bb, off, none⟩) n cap := hd ⟨17, .data⟩ (by simp) rfl 42 rfl
       have h18 : ρ (.tmp 43) = .int .i64 (z : Int) := hd ⟨18, .data⟩ (by simp) rfl 43 rfl
       exact .inl ⟨(by show (match ρ (.tmp 36) with | .bool b => b == true | _ => false) = true; rw [g11]; rfl), .inl ⟨.pointer (some ⟨bb, off + z * 7, none⟩), u, run_index_op rfl h17 h18 (by go_simp), rfl, hR, Below.refl _ _⟩⟩
      ·have g11 : ρ (.tmp 36) = .bool true := hd ⟨11, .guard⟩ (by simp) rfl 36 rfl
       have h19 : ρ (.tmp 44) = .pointer (some ⟨bb, off + z * 7, none⟩) := hd ⟨19, .data⟩ (by simp) rfl 44 rfl
       exact .inl ⟨(by show (match ρ (.tmp 36) with | .bool b => b == true | _ => false) = true; rw [g11]; rfl), .inl ⟨.pointer (some ⟨bb, off + z * 7 + 1, none⟩), u, run_field_op rfl h19 (by go_simp), rfl, hR, Below.refl _ _⟩⟩
      ·obtain ⟨q0, q1, q2, q3, p0, p1, p2, p3⟩ := CE.out u hR
       have g11 : ρ (.tmp 36) = .bool true := hd ⟨11, .guard⟩ (by simp) rfl 36 rfl
       have h20 : ρ (.tmp 45) = .pointer (some ⟨bb, off + z * 7 + 1, none⟩) := hd ⟨20, .data⟩ (by simp) rfl 45 rfl
       have hr : (Instr.loadAt 3 (.pointer (some ⟨bb, off + z * 7 + 1, none⟩))).run Tryz.prog u = .ok (.int .i64 (f z).s) u := by go_simp
       exact .inl ⟨(by show (match ρ (.tmp 36) with | .bool b => b == true | _ => false) = true; rw [g11]; rfl), .inl ⟨.int .i64 (f z).s, u, run_load_op rfl h20 hr, rfl, hR, Below.refl _ _⟩⟩
      ·have g11 : ρ (.tmp 36) = .bool true := hd ⟨11, .guard⟩ (by simp) rfl 36 rfl
       have h16 : ρ (.tmp 41) = .int .i64 (f y).s := hd ⟨16, .data⟩ (by simp) rfl 41 rfl
       have h21 : ρ (.tmp 46) = .int .i64 (f z).s := hd ⟨21, .data⟩ (by simp) rfl 46 rfl
       exact .inl ⟨(by show (match ρ (.tmp 36) with | .bool b => b == true | _ => false) = true; rw [g11]; rfl), .inl ⟨.bool true, u, run_bin_op rfl h16 h21 (by go_simp), rfl, hR, Below.refl _ _⟩⟩
      ·have h11 : ρ (.tmp 36) = .bool true := hd ⟨11, .data⟩ (by simp) rfl 36 rfl
       have h22 : ρ (.tmp 47) = .bool true := hd ⟨22, .data⟩ (by simp) rfl 47 rfl
       exact .inl ⟨rfl, .inl ⟨_, u, run_pick_op rfl h11, (by simpa using h22), hR, Below.refl _ _⟩⟩
      ·have h23 : ρ (.tmp 48) = .bool true := hd ⟨23, .data⟩ (by simp) rfl 48 rfl
       exact .inl ⟨rfl, .inl ⟨_, u, rfl, h23, hR, Below.refl _ _⟩⟩
      ·have g24 : ρ (.tmp 49) = .bool true := hd ⟨24, .guard⟩ (by simp) rfl 49 rfl
       have s0 : ρ (.tmp 0) = .slice (some ⟨bb, off, none⟩) n cap := (hρ 0 (by kernel_rfl)).trans rfl
       exact .inl ⟨(by show (match ρ (.tmp 49) with | .bool b => b == true | _ => false) = true; rw [g24]; rfl), .inl ⟨_, u, rfl, s0, hR, Below.refl _ _⟩⟩
      ·have g24 : ρ (.tmp 49) = .bool true := hd ⟨24, .guard⟩ (by simp) rfl 49 rfl
       have s4 : ρ (.tmp 4) = .int .i64 (y : Int) := (hρ 4 (by kernel_rfl)).trans rfl
       exact .inl ⟨(by show (match ρ (.tmp 49) with | .bool b => b == true | _ => false) = true; rw [g24]; rfl), .inl ⟨_, u, rfl, s4, hR, Below.refl _ _⟩⟩
      ·have g24 : ρ (.tmp 49) = .bool true := hd ⟨24, .guard⟩ (by simp) rfl 49 rfl
       have h25 : ρ (.tmp 50) = .slice (some ⟨bb, off, none⟩) n cap := hd ⟨25, .data⟩ (by simp) rfl 50 rfl
       have h26 : ρ (.tmp 51) = .int .i64 (y : Int) := hd ⟨26, .data⟩ (by simp) rfl 51 rfl
       exact .inl ⟨(by show (match ρ (.tmp 49) with | .bool b => b == true | _ => false) = true; rw [g24]; rfl), .inl ⟨.pointer (some ⟨bb, off + y * 7, none⟩), u, run_index_op rfl h25 h26 (by go_simp), rfl, hR, Below.refl _ _⟩⟩
      ·have g24 : ρ (.tmp 49) = .bool true := hd ⟨24, .guard⟩ (by simp) rfl 49 rfl
       have h27 : ρ (.tmp 52) = .pointer (some ⟨bb, off + y * 7, none⟩) := hd ⟨27, .data⟩ (by simp) rfl 52 rfl
       exact .inl ⟨(by show (match ρ (.tmp 49) with | .bool b => b == true | _ => false) = true; rw [g24]; rfl), .inl ⟨.pointer (some ⟨bb, off + y * 7 + 2, none⟩), u, run_field_op rfl h27 (by go_simp), rfl, hR, Below.refl _ _⟩⟩
      ·obtain ⟨q0, q1, q2, q3, p0, p1, p2, p3⟩ := CE.out u hR
       have g24 : ρ (.tmp 49) = .bool true := hd ⟨24, .guard⟩ (by simp) rfl 49 rfl
       have h28 : ρ (.tmp 53) = .pointer (some ⟨bb, off + y * 7 + 2, none⟩) := hd ⟨28, .data⟩ (by simp) rfl 53 rfl
       have hr : (Instr.loadAt 3 (.pointer (some ⟨bb, off + y * 7 + 2, none⟩))).run Tryz.prog u = .ok (.int .i64 (f y).lo) u := by go_simp
       exact .inl ⟨(by show (match ρ (.tmp 49) with | .bool b => b == true | _ => false) = true; rw [g24]; rfl), .inl ⟨.int .i64 (f y).lo, u, run_load_op rfl h28 hr, rfl, hR, Below.refl _ _⟩⟩
      ·have g24 : ρ (.tmp 49) = .bool true := hd ⟨24, .guard⟩ (by simp) rfl 49 rfl
       have s0 : ρ (.tmp 0) = .slice (some ⟨bb, off, none⟩) n cap := (hρ 0 (by kernel_rfl)).trans rfl
       exact .inl ⟨(by show (match ρ (.tmp 49) with | .bool b => b == true | _ => false) = true; rw [g24]; rfl), .inl ⟨_, u, rfl, s0, hR, Below.refl _ _⟩⟩
      ·have g24 : ρ (.tmp 49) = .bool true := hd ⟨24, .guard⟩ (by simp) rfl 49 rfl
       have s3 : ρ (.tmp 3) = .int .i64 (z : Int) := (hρ 3 (by kernel_rfl)).trans rfl
       exact .inl ⟨(by show (match ρ (.tmp 49) with | .bool b => b == true | _ => false) = true; rw [g24]; rfl), .inl ⟨_, u, rfl, s3, hR, Below.refl _ _⟩⟩
      ·have g24 : ρ (.tmp 49) = .bool true := hd ⟨24, .guard⟩ (by simp) rfl 49 rfl
       have h30 : ρ (.tmp 55) = .slice (some ⟨bb, off, none⟩) n cap := hd ⟨30, .data⟩ (by simp) rfl 55 rfl
       have h31 : ρ (.tmp 56) = .int .i64 (z : Int) := hd ⟨31, .data⟩ (by simp) rfl 56 rfl
       exact .inl ⟨(by show (match ρ (.tmp 49) with | .bool b => b == true | _ => false) = true; rw [g24]; rfl), .inl ⟨.pointer (some ⟨bb, off + z * 7, none⟩), u, run_index_op rfl h30 h31 (by go_simp), rfl, hR, Below.refl _ _⟩⟩
      ·have g24 : ρ (.tmp 49) = .bool true := hd ⟨24, .guard⟩ (by simp) rfl 49 rfl
       have h32 : ρ (.tmp 57) = .pointer (some ⟨bb, off + z * 7, none⟩) := hd ⟨32, .data⟩ (by simp) rfl 57 rfl
       exact .inl ⟨(by show (match ρ (.tmp 49) with | .bool b => b == true | _ => false) = true; rw [g24]; rfl), .inl ⟨.pointer (some ⟨bb, off + z * 7 + 3, none⟩), u, run_field_op rfl h32 (by go_simp), rfl, hR, Below.refl _ _⟩⟩
      ·obtain ⟨q0, q1, q2, q3, p0, p1, p2, p3⟩ := CE.out u hR
       have g24 : ρ (.tmp 49) = .bool true := hd ⟨24, .guard⟩ (by simp) rfl 49 rfl
       have h33 : ρ (.tmp 58) = .pointer (some ⟨bb, off + z * 7 + 3, none⟩) := hd ⟨33, .data⟩ (by simp) rfl 58 rfl
       have hr : (Instr.loadAt 3 (.pointer (some ⟨bb, off + z * 7 + 3, none⟩))).run Tryz.prog u = .ok (.int .i64 (f z).hi) u := by go_simp
       exact .inl ⟨(by show (match ρ (.tmp 49) with | .bool b => b == true | _ => false) = true; rw [g24]; rfl), .inl ⟨.int .i64 (f z).hi, u, run_load_op rfl h33 hr, rfl, hR, Below.refl _ _⟩⟩
      ·have g24 : ρ (.tmp 49) = .bool true := hd ⟨24, .guard⟩ (by simp) rfl 49 rfl
       have h29 : ρ (.tmp 54) = .int .i64 (f y).lo := hd ⟨29, .data⟩ (by simp) rfl 54 rfl
       have h34 : ρ (.tmp 59) = .int .i64 (f z).hi := hd ⟨34, .data⟩ (by simp) rfl 59 rfl
       exact .inl ⟨(by show (match ρ (.tmp 49) with | .bool b => b == true | _ => false) = true; rw [g24]; rfl), .inl ⟨.bool false, u, run_bin_op rfl h29 h34 (by go_simp), rfl, hR, Below.refl _ _⟩⟩
      ·have h24 : ρ (.tmp 49) = .bool true := hd ⟨24, .data⟩ (by simp) rfl 49 rfl
       have h35 : ρ (.tmp 60) = .bool false := hd ⟨35, .data⟩ (by simp) rfl 60 rfl
       exact .inl ⟨rfl, .inl ⟨_, u, run_pick_op rfl h24, (by simpa using h35), hR, Below.refl _ _⟩⟩
      ·have h36 : ρ (.tmp 61) = .bool false := hd ⟨36, .data⟩ (by simp) rfl 61 rfl
       exact .inl ⟨rfl, .inl ⟨_, u, rfl, h36, hR, Below.refl _ _⟩⟩
      ·have g37 : ρ (.tmp 62) = .bool false := hd ⟨37, .guard⟩ (by simp) rfl 62 rfl
       exact .inr ⟨(by show (match ρ (.tmp 62) with | .bool b => b == true | _ => false) = false; rw [g37]; rfl), rfl⟩
      ·have g37 : ρ (.tmp 62) = .bool false := hd ⟨37, .guard⟩ (by simp) rfl 62 rfl
       exact .inr ⟨(by show (match ρ (.tmp 62) with | .bool b => b == true | _ => false) = false; rw [g37]; rfl), rfl⟩
      ·have g37 : ρ (.tmp 62) = .bool false := hd ⟨37, .guard⟩ (by simp) rfl 62 rfl
       exact .inr ⟨(by show (match ρ (.tmp 62) with | .bool b => b == true | _ => false) = false; rw [g37]; rfl), rfl⟩
      ·have g37 : ρ (.tmp 62) = .bool false := hd ⟨37, .guard⟩ (by simp) rfl 62 rfl
       exact .inr ⟨(by show (match ρ (.tmp 62) with | .bool b => b == true | _ => false) = false; rw [g37]; rfl), rfl⟩
      ·have g37 : ρ (.tmp 62) = .bool false := hd ⟨37, .guard⟩ (by simp) rfl 62 rfl
       exact .inr ⟨(by show (match ρ (.tmp 62) with | .bool b => b == true | _ => false) = false; rw [g37]; rfl), rfl⟩
      ·have g37 : ρ (.tmp 62) = .bool false := hd ⟨37, .guard⟩ (by simp) rfl 62 rfl
       exact .inr ⟨(by show (match ρ (.tmp 62) with | .bool b => b == true | _ => false) = false; rw [g37]; rfl), rfl⟩
      ·have g37 : ρ (.tmp 62) = .bool false := hd ⟨37, .guard⟩ (by simp) rfl 62 rfl
       exact .inr ⟨(by show (match ρ (.tmp 62) with | .bool b => b == true | _ => false) = false; rw [g37]; rfl), rfl⟩
      ·have g37 : ρ (.tmp 62) = .bool false := hd ⟨37, .guard⟩ (by simp) rfl 62 rfl
       exact .inr ⟨(by show (match ρ (.tmp 62) with | .bool b => b == true | _ => false) = false; rw [g37]; rfl), rfl⟩
      ·have g37 : ρ (.tmp 62) = .bool false := hd ⟨37, .guard⟩ (by simp) rfl 62 rfl
       exact .inr ⟨(by show (match ρ (.tmp 62) with | .bool b => b == true | _ => false) = false; rw [g37]; rfl), rfl⟩
      ·have g37 : ρ (.tmp 62) = .bool false := hd ⟨37, .guard⟩ (by simp) rfl 62 rfl
       exact .inr ⟨(by show (match ρ (.tmp 62) with | .bool b => b == true | _ => false) = false; rw [g37]; rfl), rfl⟩
      ·have g37 : ρ (.tmp 62) = .bool false := hd ⟨37, .guard⟩ (by simp) rfl 62 rfl
       exact .inr ⟨(by show (match ρ (.tmp 62) with | .bool b => b == true | _ => false) = false; rw [g37]; rfl), rfl⟩
      have h37 : ρ (.tmp 62) = .bool false := hd ⟨37, .data⟩ (by simp) rfl 62 rfl
      exact .inl ⟨rfl, .inl ⟨_, u, run_pick_op rfl h37, (by simpa using hc _), hR, Below.refl _ _⟩⟩
     by_cases h3 : (f z).lo <= (f y).hi
     case neg =>
      go_wp2
      refine wp_region_any (by kernel_rfl) ?_
      refine wpAny_vals (fun u => Below wr.heap.size wr u) (fun i v u => match i with
       | 0 => v = .slice (some ⟨bb, off, none⟩) n cap
       | 1 => v = .int .i64 (y : Int)
       | 2 => v = .pointer (some ⟨bb, off + y * 7, none⟩)
       | 3 => v = .pointer (some ⟨bb, off + y * 7, none⟩)
       | 4 => v = .int .i64 (f y).u
       | 5 => v = .slice (some ⟨bb, off, none⟩) n cap
       | 6 => v = .int .i64 (z : Int)
       | 7 => v = .pointer (some ⟨bb, off + z * 7, none⟩)
       | 8 => v = .pointer (some ⟨bb, off + z * 7, none⟩)
       | 9 => v = .int .i64 (f z).u
       | 10 => v = .bool true
       | 11 => v = .bool true
       | 12 => v = .slice (some ⟨bb, off, none⟩) n cap
       | 13 => v = .int .i64 (y : Int)
       | 14 => v = .pointer (some ⟨bb, off + y * 7, none⟩)
       | 15 => v = .pointer (some ⟨bb, off + y * 7 + 1, none⟩)
       | 16 => v = .int .i64 (f y).s
       | 17 => v = .slice (some ⟨bb, off, none⟩) n cap
       | 18 => v = .int .i64 (z : Int)
       | 19 => v = .pointer (some ⟨bb, off + z * 7, none⟩)
       | 20 => v = .pointer (some ⟨bb, off + z * 7 + 1, none⟩)
       | 21 => v = .int .i64 (f z).s
       | 22 => v = .bool true
       | 23 => v = .bool true
       | 24 => v = .bool true
       | 25 => v = .slice (some ⟨bb, off, none⟩) n cap
       | 26 => v = .int .i64 (y : Int)
       | 27 => v = .pointer (some ⟨bb, off + y * 7, none⟩)
       | 28 => v = .pointer (some ⟨bb, off + y * 7 + 2, none⟩)
       | 29 => v = .int .i64 (f y).lo
       | 30 => v = .slice (some ⟨bb, off, none⟩) n cap
       | 31 => v = .int .i64 (z : Int)
       | 32 => v = .pointer (some ⟨bb, off + z * 7, none⟩)
       | 33 => v = .pointer (some ⟨bb, off + z * 7 + 3, none⟩)
       | 34 => v = .int .i64 (f z).hi
       | 35 => v = .bool true
       | 36 => v = .bool true
       | 37 => v = .bool true
       | 38 => v = .slice (some ⟨bb, off, none⟩) n cap
       | 39 => v = .int .i64 (z : Int)
       | 40 => v = .pointer (some ⟨bb, off + z * 7, none⟩)
       | 41 => v = .pointer (some ⟨bb, off + z * 7 + 2, none⟩)
       | 42 => v = .int .i64 (f z).lo
       | 43 => v = .slice (some ⟨bb, off, none⟩) n cap
       | 44 => v = .int .i64 (y : Int)
       | 45 => v = .pointer (some ⟨bb, off + y * 7, none⟩)
       | 46 => v = .pointer (some ⟨bb, off + y * 7 + 3, none⟩)
       | 47 => v = .int .i64 (f y).hi
       | 48 => v = .bool false
       | 49 => v = .bool false
       | _ => True) (by kernel_rfl) (by kernel_rfl) (fun _ _ _ _ h _ => h) (Below.refl _ _).drew ?_ ?_ _ _ rfl (by decide) (fun i => by simp [Array.getD]; try (split <;> rfl))
      ·intro vs u hR hall
       have e16 : vs 49 = .bool false := hall 49 (by simp)
       simp only [putsL]
       rw [e16]
       clear hall e16
       have BX := bel_next hbl hR
       clear hR CE hbl
       go_simp
       go_wp2
       go_roundw
       case rel => exact ⟨y + 1, by omega, by go_num, fun k hk => (by by_cases e : k = y; (subst e; exact fun h => (by unfold ovl at h; omega)); (exact HA.out k (by omega))), BX⟩
       case measure => simp [intOf]; omega
      intro u i o ρ hR ho hρ hc hf hd
      have hi : i < 50 := by
       have := (Array.getElem?_eq_some_iff.1 ho).1
       simpa using this
      obtain rfl | rfl | rfl | rfl | rfl | rfl | rfl | rfl | rfl | rfl | rfl | rfl | rfl | rfl | rfl | rfl | rfl | rfl | rfl | rfl | rfl | rfl | rfl | rfl | rfl | rfl | rfl | rfl | rfl | rfl | rfl | rfl | rfl | rfl | rfl | rfl | rfl | rfl | rfl | rfl | rfl | rfl | rfl | rfl | rfl | rfl | rfl | rfl | rfl | rfl : i = 0 \/ i = 1 \/ i = 2 \/ i = 3 \/ i = 4 \/ i = 5 \/ i = 6 \/ i = 7 \/ i = 8 \/ i = 9 \/ i = 10 \/ i = 11 \/ i = 12 \/ i = 13 \/ i = 14 \/ i = 15 \/ i = 16 \/ i = 17 \/ i = 18 \/ i = 19 \/ i = 20 \/ i = 21 \/ i = 22 \/ i = 23 \/ i = 24 \/ i = 25 \/ i = 26 \/ i = 27 \/ i = 28 \/ i = 29 \/ i = 30 \/ i = 31 \/ i = 32 \/ i = 33 \/ i = 34 \/ i = 35 \/ i = 36 \/ i = 37 \/ i = 38 \/ i = 39 \/ i = 40 \/ i = 41 \/ i = 42 \/ i = 43 \/ i = 44 \/ i = 45 \/ i = 46 \/ i = 47 \/ i = 48 \/ i = 49 := by omega
      all_goals (simp only [List.getElem?_toArray, List.getElem?_cons_zero, List.getElem?_cons_succ, Option.some.injEq] at ho; subst ho)
      ·have s0 : ρ (.tmp 0) = .slice (some ⟨bb, off, none⟩) n cap := (hρ 0 (by kernel_rfl)).trans rfl
       exact .inl ⟨rfl, .inl ⟨_, u, rfl, s0, hR, Below.refl _ _⟩⟩
      ·have s4 : ρ (.tmp 4) = .int .i64 (y : Int) := (hρ 4 (by kernel_rfl)).trans rfl
       exact .inl ⟨rfl, .inl ⟨_, u, rfl, s4, hR, Below.refl _ _⟩⟩
      ·have h0 : ρ (.tmp 25) = .slice (some ⟨bb, off, none⟩) n cap := hd ⟨0, .data⟩ (by simp) rfl 25 rfl
       have h1 : ρ (.tmp 26) = .int .i64 (y : Int) := hd ⟨1, .data⟩ (by simp) rfl 26 rfl
       exact .inl ⟨rfl, .inl ⟨.pointer (some ⟨bb, off + y * 7, none⟩), u, run_index_op rfl h0 h1 (by go_simp), rfl, hR, Below.refl _ _⟩⟩
      ·have h2 : ρ (.tmp 27) = .pointer (some ⟨bb, off + y * 7, none⟩) := hd ⟨2, .data⟩ (by simp) rfl 27 rfl
       exact .inl ⟨rfl, .inl ⟨.pointer (some ⟨bb, off + y * 7, none⟩), u, run_field_op rfl h2 (by go_simp), rfl, hR, Below.refl _ _⟩⟩
      ·obtain ⟨q0, q1, q2, q3, p0, p1, p2, p3⟩ := CE.out u hR
       have h3 : ρ (.tmp 28) = .pointer (some ⟨bb, off + y * 7, none⟩) := hd ⟨3, .data⟩ (by simp) rfl 28 rfl
       have hr : (Instr.loadAt 3 (.pointer (some ⟨bb, off + y * 7, none⟩))).run Tryz.prog u = .ok (.int .i64 (f y).u) u := by go_simp
       exact .inl ⟨rfl, .inl ⟨.int .i64 (f y).u, u, run_load_op rfl h3 hr, rfl, hR, Below.refl _ _⟩⟩
      ·have s0 : ρ (.tmp 0) = .slice (some ⟨bb, off, none⟩) n cap := (hρ 0 (by kernel_rfl)).trans rfl
       exact .inl ⟨rfl, .inl ⟨_, u, rfl, s0, hR, Below.refl _ _⟩⟩
      ·have s3 : ρ (.tmp 3) = .int .i64 (z : Int) := (hρ 3 (by kernel_rfl)).trans rfl
       exact .inl ⟨rfl, .inl ⟨_, u, rfl, s3, hR, Below.refl _ _⟩⟩
      ·have h5 : ρ (.tmp 30) = .slice (some ⟨bb, off, none⟩) n cap := hd ⟨5, .data⟩ (by simp) rfl 30 rfl
       have h6 : ρ (.tmp 31) = .int .i64 (z : Int) := hd ⟨6, .data⟩ (by simp) rfl 31 rfl
       exact .inl ⟨rfl, .inl ⟨.pointer (some ⟨bb, off + z * 7, none⟩), u, run_index_op rfl h5 h6 (by go_simp), rfl, hR, Below.refl _ _⟩⟩
      ·have h7 : ρ (.tmp 32) = .pointer (some ⟨bb, off + z * 7, none⟩) := hd ⟨7, .data⟩ (by simp) rfl 32 rfl
       exact .inl ⟨rfl, .inl ⟨.pointer (some ⟨bb, off + z * 7, none⟩), u, run_field_op rfl h7 (by go_simp), rfl, hR, Below.refl _ _⟩⟩
      ·obtain ⟨q0, q1, q2, q3, p0, p1, p2, p3⟩ := CE.out u hR
       have h8 : ρ (.tmp 33) = .pointer (some ⟨bb, off + z * 7, none⟩) := hd ⟨8, .data⟩ (by simp) rfl 33 rfl
       have hr : (Instr.loadAt 3 (.pointer (some ⟨bb, off + z * 7, none⟩))).run Tryz.prog u = .ok (.int .i64 (f z).u) u := by go_simp
       exact .inl ⟨rfl, .inl ⟨.int .i64 (f z).u, u, run_load_op rfl h8 hr, rfl, hR, Below.refl _ _⟩⟩
      ·have h4 : ρ (.tmp 29) = .int .i64 (f y).u := hd ⟨4, .data⟩ (by simp) rfl 29 rfl
       have h9 : ρ (.tmp 34) = .int .i64 (f z).u := hd ⟨9, .data⟩ (by simp) rfl 34 rfl
       exact .inl ⟨rfl, .inl ⟨.bool true, u, run_bin_op rfl h4 h9 (by go_simp), rfl, hR, Below.refl _ _⟩⟩
      ·have h10 : ρ (.tmp 35) = .bool true := hd ⟨10, .data⟩ (by simp) rfl 35 rfl
       exact .inl ⟨rfl, .inl ⟨_, u, rfl, h10, hR, Below.refl _ _⟩⟩
      ·have g11 : ρ (.tmp 36) = .bool true := hd ⟨11, .guard⟩ (by simp) rfl 36 rfl
       have s0 : ρ (.tmp 0) = .slice (some ⟨bb, off, none⟩) n cap := (hρ 0 (by kernel_rfl)).trans rfl
       exact .inl ⟨(by show (match ρ (.tmp 36) with | .bool b => b == true | _ => false) = true; rw [g11]; rfl), .inl ⟨_, u, rfl, s0, hR, Below.refl _ _⟩⟩
      ·have g11 : ρ (.tmp 36) = .bool true := hd ⟨11, .guard⟩ (by simp) rfl 36 rfl
       have s4 : ρ (.tmp 4) = .int .i64 (y : Int) := (hρ 4 (by kernel_rfl)).trans rfl
       exact .inl ⟨(by show (match ρ (.tmp 36) with | .bool b => b == true | _ => false) = true; rw [g11]; rfl), .inl ⟨_, u, rfl, s4, hR, Below.refl _ _⟩⟩
      ·have g11 : ρ (.tmp 36) = .bool true := hd ⟨11, .guard⟩ (by simp) rfl 36 rfl
       have h12 : ρ (.tmp 37) = .slice (some ⟨bb, off, none⟩) n cap := hd ⟨12, .data⟩ (by simp) rfl 37 rfl
       have h13 : ρ (.tmp 38) = .int .i64 (y : Int) := hd ⟨13, .data⟩ (by simp) rfl 38 rfl
       exact .inl ⟨(by show (match ρ (.tmp 36) with | .bool b => b == true | _ => false) = true; rw [g11]; rfl), .inl ⟨.pointer (some ⟨bb, off + y * 7, none⟩), u, run_index_op rfl h12 h13 (by go_simp), rfl, hR, Below.refl _ _⟩⟩
      ·have g11 : ρ (.tmp 36) = .bool true := hd ⟨11, .guard⟩ (by simp) rfl 36 rfl
       have h14 : ρ (.tmp 39) = .pointer (some ⟨bb, off + y * 7, none⟩) := hd ⟨14, .data⟩ (by simp) rfl 39 rfl
       exact .inl ⟨(by show (match ρ (.tmp 36) with | .bool b => b == true | _ => false) = true; rw [g11]; rfl), .inl ⟨.pointer (some ⟨bb, off + y * 7 + 1, none⟩), u, run_field_op rfl h14 (by go_simp), rfl, hR, Below.refl _ _⟩⟩
      ·obtain ⟨q0, q1, q2, q3, p0, p1, p2, p3⟩ := CE.out u hR
       have g11 : ρ (.tmp 36) = .bool true := hd ⟨11, .guard⟩ (by simp) rfl 36 rfl
       have h15 : ρ (.tmp 40) = .pointer (some ⟨bb, off + y * 7 + 1, none⟩) := hd ⟨15, .data⟩ (by simp) rfl 40 rfl
       have hr : (Instr.loadAt 3 (.pointer (some ⟨bb, off + y * 7 + 1, none⟩))).run Tryz.prog u = .ok (.int .i64 (f y).s) u := by go_simp
       exact .inl ⟨(by show (match ρ (.tmp 36) with | .bool b => b == true | _ => false) = true; rw [g11]; rfl), .inl ⟨.int .i64 (f y).s, u, run_load_op rfl h15 hr, rfl, hR, Below.refl _ _⟩⟩
      ·have g11 : ρ (.tmp 36) = .bool true := hd ⟨11, .guard⟩ (by simp) rfl 36 rfl
       have s0 : ρ (.tmp 0) = .slice (some ⟨bb, off, none⟩) n cap := (hρ 0 (by kernel_rfl)).trans rfl
       exact .inl ⟨(by show (match ρ (.tmp 36) with | .bool b => b == true | _ => false) = true; rw [g11]; rfl), .inl ⟨_, u, rfl, s0, hR, Below.refl _ _⟩⟩
      ·have g11 : ρ (.tmp 36) = .bool true := hd ⟨11, .guard⟩ (by simp) rfl 36 rfl
       have s3 : ρ (.tmp 3) = .int .i64 (z : Int) := (hρ 3 (by kernel_rfl)).trans rfl
       exact .inl ⟨(by show (match ρ (.tmp 36) with | .bool b => b == true | _ => false) = true; rw [g11]; rfl), .inl ⟨_, u, rfl, s3, hR, Below.refl _ _⟩⟩
      ·have g11 : ρ (.tmp 36) = .bool true := hd ⟨11, .guard⟩ (by simp) rfl 36 rfl
       have h17 : ρ (.tmp 42) = .slice (some ⟨bb, off, none⟩) n cap := hd ⟨17, .data⟩ (by simp) rfl 42 rfl
       have h18 : ρ (.tmp 43) = .int .i64 (z : Int) := hd ⟨18, .data⟩ (by simp) rfl 43 rfl
       exact .inl ⟨(by show (match ρ (.tmp 36) with | .bool b => b == true | _ => false) = true; rw [g11]; rfl), .inl ⟨.pointer (some ⟨bb, off + z * 7, none⟩), u, run_index_op rfl h17 h18 (by go_simp), rfl, hR, Below.refl _ _⟩⟩
      ·have g11 : ρ (.tmp 36) = .bool true := hd ⟨11, .guard⟩ (by simp) rfl 36 rfl
       have h19 : ρ (.tmp 44) = .pointer (some ⟨bb, off + z * 7, none⟩) := hd ⟨19, .data⟩ (by simp) rfl 44 rfl
       exact .inl ⟨(by show (match ρ (.tmp 36) with | .bool b => b == true | _ => false) = true; rw [g11]; rfl), .inl ⟨.pointer (some ⟨bb, off + z * 7 + 1, none⟩), u, run_field_op rfl h19 (by go_simp), rfl, hR, Below.refl _ _⟩⟩
      ·obtain ⟨q0, q1, q2, q3, p0, p1, p2, p3⟩ := CE.out u hR
       have g11 : ρ (.tmp 36) = .bool true := hd ⟨11, .guard⟩ (by simp) rfl 36 rfl
       have h20 : ρ (.tmp 45) = .pointer (some ⟨bb, off + z * 7 + 1, none⟩) := hd ⟨20, .data⟩ (by simp) rfl 45 rfl
       have hr : (Instr.loadAt 3 (.pointer (some ⟨bb, off + z * 7 + 1, none⟩))).run Tryz.prog u = .ok (.int .i64 (f z).s) u := by go_simp
       exact .inl ⟨(by show (match ρ (.tmp 36) with | .bool b => b == true | _ => false) = true; rw [g11]; rfl), .inl ⟨.int .i64 (f z).s, u, run_load_op rfl h20 hr, rfl, hR, Below.refl _ _⟩⟩
      ·have g11 : ρ (.tmp 36) = .bool true := hd ⟨11, .guard⟩ (by simp) rfl 36 rfl
       have h16 : ρ (.tmp 41) = .int .i64 (f y).s := hd ⟨16, .data⟩ (by simp) rfl 41 rfl
       have h21 : ρ (.tmp 46) = .int .i64 (f z).s := hd ⟨21, .data⟩ (by simp) rfl 46 rfl
       exact .inl ⟨(by show (match ρ (.tmp 36) with | .bool b => b == true | _ => false) = true; rw [g11]; rfl), .inl ⟨.bool true, u, run_bin_op rfl h16 h21 (by go_simp), rfl, hR, Below.refl _ _⟩⟩
      ·have h11 : ρ (.tmp 36) = .bool true := hd ⟨11, .data⟩ (by simp) rfl 36 rfl
       have h22 : ρ (.tmp 47) = .bool true := hd ⟨22, .data⟩ (by simp) rfl 47 rfl
       exact .inl ⟨rfl, .inl ⟨_, u, run_pick_op rfl h11, (by simpa using h22), hR, Below.refl _ _⟩⟩
      ·have h23 : ρ (.tmp 48) = .bool true := hd ⟨23, .data⟩ (by simp) rfl 48 rfl
       exact .inl ⟨rfl, .inl ⟨_, u, rfl, h23, hR, Below.refl _ _⟩⟩
      ·have g24 : ρ (.tmp 49) = .bool true := hd ⟨24, .guard⟩ (by simp) rfl 49 rfl
       have s0 : ρ (.tmp 0) = .slice (some ⟨bb, off, none⟩) n cap := (hρ 0 (by kernel_rfl)).trans rfl
       exact .inl ⟨(by show (match ρ (.tmp 49) with | .bool b => b == true | _ => false) = true; rw [g24]; rfl), .inl ⟨_, u, rfl, s0, hR, Below.refl _ _⟩⟩
      ·have g24 : ρ (.tmp 49) = .bool true := hd ⟨24, .guard⟩ (by simp) rfl 49 rfl
       have s4 : ρ (.tmp 4) = .int .i64 (y : Int) := (hρ 4 (by kernel_rfl)).trans rfl
       exact .inl ⟨(by show (match ρ (.tmp 49) with | .bool b => b == true | _ => false) = true; rw [g24]; rfl), .inl ⟨_, u, rfl, s4, hR, Below.refl _ _⟩⟩
      ·have g24 : ρ (.tmp 49) = .bool true := hd ⟨24, .guard⟩ (by simp) rfl 49 rfl
       have h25 : ρ (.tmp 50) = .slice (some ⟨bb, off, none⟩) n cap := hd ⟨25, .data⟩ (by simp) rfl 50 rfl
       have h26 : ρ (.tmp 51) = .int .i64 (y : Int) := hd ⟨26, .data⟩ (by simp) rfl 51 rfl
       exact .inl ⟨(by show (match ρ (.tmp 49) with | .bool b => b == true | _ => false) = true; rw [g24]; rfl), .inl ⟨.pointer (some ⟨bb, off + y * 7, none⟩), u, run_index_op rfl h25 h26 (by go_simp), rfl, hR, Below.refl _ _⟩⟩
      ·have g24 : ρ (.tmp 49) = .bool true := hd ⟨24, .guard⟩ (by simp) rfl 49 rfl
       have h27 : ρ (.tmp 52) = .pointer (some ⟨bb, off + y * 7, none⟩) := hd ⟨27, .data⟩ (by simp) rfl 52 rfl
       exact .inl ⟨(by show (match ρ (.tmp 49) with | .bool b => b == true | _ => false) = true; rw [g24]; rfl), .inl ⟨.pointer (some ⟨bb, off + y * 7 + 2, none⟩), u, run_field_op rfl h27 (by go_simp), rfl, hR, Below.refl _ _⟩⟩
      ·obtain ⟨q0, q1, q2, q3, p0, p1, p2, p3⟩ := CE.out u hR
       have g24 : ρ (.tmp 49) = .bool true := hd ⟨24, .guard⟩ (by simp) rfl 49 rfl
       have h28 : ρ (.tmp 53) = .pointer (some ⟨bb, off + y * 7 + 2, none⟩) := hd ⟨28, .data⟩ (by simp) rfl 53 rfl
       have hr : (Instr.loadAt 3 (.pointer (some ⟨bb, off + y * 7 + 2, none⟩))).run Tryz.prog u = .ok (.int .i64 (f y).lo) u := by go_simp
       exact .inl ⟨(by show (match ρ (.tmp 49) with | .bool b => b == true | _ => false) = true; rw [g24]; rfl), .inl ⟨.int .i64 (f y).lo, u, run_load_op rfl h28 hr, rfl, hR, Below.refl _ _⟩⟩
      ·have g24 : ρ (.tmp 49) = .bool true := hd ⟨24, .guard⟩ (by simp) rfl 49 rfl
       have s0 : ρ (.tmp 0) = .slice (some ⟨bb, off, none⟩) n cap := (hρ 0 (by kernel_rfl)).trans rfl
       exact .inl ⟨(by show (match ρ (.tmp 49) with | .bool b => b == true | _ => false) = true; rw [g24]; rfl), .inl ⟨_, u, rfl, s0, hR, Below.refl _ _⟩⟩
      ·have g24 : ρ (.tmp 49) = .bool true := hd ⟨24, .guard⟩ (by simp) rfl 49 rfl
       have s3 : ρ (.tmp 3) = .int .i64 (z : Int) := (hρ 3 (by kernel_rfl)).trans rfl
       exact .inl ⟨(by show (match ρ (.tmp 49) with | .bool b => b == true | _ => false) = true; rw [g24]; rfl), .inl ⟨_, u, rfl, s3, hR, Below.refl _ _⟩⟩
      ·have g24 : ρ (.tmp 49) = .bool true := hd ⟨24, .guard⟩ (by simp) rfl 49 rfl
       have h30 : ρ (.tmp 55) = .slice (some ⟨bb, off, none⟩) n cap := hd ⟨30, .data⟩ (by simp) rfl 55 rfl
       have h31 : ρ (.tmp 56) = .int .i64 (z : Int) := hd ⟨31, .data⟩ (by simp) rfl 56 rfl
       exact .inl ⟨(by show (match ρ (.tmp 49) with | .bool b => b == true | _ => false) = true; rw [g24]; rfl), .inl ⟨.pointer (some ⟨bb, off + z * 7, none⟩), u, run_index_op rfl h30 h31 (by go_simp), rfl, hR, Below.refl _ _⟩⟩
      ·have g24 : ρ (.tmp 49) = .bool true := hd ⟨24, .guard⟩ (by simp) rfl 49 rfl
       have h32 : ρ (.tmp 57) = .pointer (some ⟨bb, off + z * 7, none⟩) := hd ⟨32, .data⟩ (by simp) rfl 57 rfl
       exact .inl ⟨(by show (match ρ (.tmp 49) with | .bool b => b == true | _ => false) = true; rw [g24]; rfl), .inl ⟨.pointer (some ⟨bb, off + z * 7 + 3, none⟩), u, run_field_op rfl h32 (by go_simp), rfl, hR, Below.refl _ _⟩⟩
      ·obtain ⟨q0, q1, q2, q3, p0, p1, p2, p3⟩ := CE.out u hR
       have g24 : ρ (.tmp 49) = .bool true := hd ⟨24, .guard⟩ (by simp) rfl 49 rfl
       have h33 : ρ (.tmp 58) = .pointer (some ⟨bb, off + z * 7 + 3, none⟩) := hd ⟨33, .data⟩ (by simp) rfl 58 rfl
       have hr : (Instr.loadAt 3 (.pointer (some ⟨bb, off + z * 7 + 3, none⟩))).run Tryz.prog u = .ok (.int .i64 (f z).hi) u := by go_simp
       exact .inl ⟨(by show (match ρ (.tmp 49) with | .bool b => b == true | _ => false) = true; rw [g24]; rfl), .inl ⟨.int .i64 (f z).hi, u, run_load_op rfl h33 hr, rfl, hR, Below.refl _ _⟩⟩
      ·have g24 : ρ (.tmp 49) = .bool true := hd ⟨24, .guard⟩ (by simp) rfl 49 rfl
       have h29 : ρ (.tmp 54) = .int .i64 (f y).lo := hd ⟨29, .data⟩ (by simp) rfl 54 rfl
       have h34 : ρ (.tmp 59) = .int .i64 (f z).hi := hd ⟨34, .data⟩ (by simp) rfl 59 rfl
       exact .inl ⟨(by show (match ρ (.tmp 49) with | .bool b => b == true | _ => false) = true; rw [g24]; rfl), .inl ⟨.bool true, u, run_bin_op rfl h29 h34 (by go_simp), rfl, hR, Below.refl _ _⟩⟩
      ·have h24 : ρ (.tmp 49) = .bool true := hd ⟨24, .data⟩ (by simp) rfl 49 rfl
       have h35 : ρ (.tmp 60) = .bool true := hd ⟨35, .data⟩ (by simp) rfl 60 rfl
       exact .inl ⟨rfl, .inl ⟨_, u, run_pick_op rfl h24, (by simpa using h35), hR, Below.refl _ _⟩⟩
      ·have h36 : ρ (.tmp 61) = .bool true := hd ⟨36, .data⟩ (by simp) rfl 61 rfl
       exact .inl ⟨rfl, .inl ⟨_, u, rfl, h36, hR, Below.refl _ _⟩⟩
      ·have g37 : ρ (.tmp 62) = .bool true := hd ⟨37, .guard⟩ (by simp) rfl 62 rfl
       have s0 : ρ (.tmp 0) = .slice (some ⟨bb, off, none⟩) n cap := (hρ 0 (by kernel_rfl)).trans rfl
       exact .inl ⟨(by show (match ρ (.tmp 62) with | .bool b => b == true | _ => false) = true; rw [g37]; rfl), .inl ⟨_, u, rfl, s0, hR, Below.refl _ _⟩⟩
      ·have g37 : ρ (.tmp 62) = .bool true := hd ⟨37, .guard⟩ (by simp) rfl 62 rfl
       have s3 : ρ (.tmp 3) = .int .i64 (z : Int) := (hρ 3 (by kernel_rfl)).trans rfl
       exact .inl ⟨(by show (match ρ (.tmp 62) with | .bool b => b == true | _ => false) = true; rw [g37]; rfl), .inl ⟨_, u, rfl, s3, hR, Below.refl _ _⟩⟩
      ·have g37 : ρ (.tmp 62) = .bool true := hd ⟨37, .guard⟩ (by simp) rfl 62 rfl
       have h38 : ρ (.tmp 63) = .slice (some ⟨bb, off, none⟩) n cap := hd ⟨38, .data⟩ (by simp) rfl 63 rfl
       have h39 : ρ (.tmp 64) = .int .i64 (z : Int) := hd ⟨39, .data⟩ (by simp) rfl 64 rfl
       exact .inl ⟨(by show (match ρ (.tmp 62) with | .bool b => b == true | _ => false) = true; rw [g37]; rfl), .inl ⟨.pointer (some ⟨bb, off + z * 7, none⟩), u, run_index_op rfl h38 h39 (by go_simp), rfl, hR, Below.refl _ _⟩⟩
      ·have g37 : ρ (.tmp 62) = .bool true := hd ⟨37, .guard⟩ (by simp) rfl 62 rfl
       have h40 : ρ (.tmp 65) = .pointer (some ⟨bb, off + z * 7, none⟩) := hd ⟨40, .data⟩ (by simp) rfl 65 rfl
       exact .inl ⟨(by show (match ρ (.tmp 62) with | .bool b => b == true | _ => false) = true; rw [g37]; rfl), .inl ⟨.pointer (some ⟨bb, off + z * 7 + 2, none⟩), u, run_field_op rfl h40 (by go_simp), rfl, hR, Below.refl _ _⟩⟩
      ·obtain ⟨q0, q1, q2, q3, p0, p1, p2, p3⟩ := CE.out u hR
       have g37 : ρ (.tmp 62) = .bool true := hd ⟨37, .guard⟩ (by simp) rfl 62 rfl
       have h41 : ρ (.tmp 66) = .pointer (some ⟨bb, off + z * 7 + 2, none⟩) := hd ⟨41, .data⟩ (by simp) rfl 66 rfl
       have hr : (Instr.loadAt 3 (.pointer (some ⟨bb, off + z * 7 + 2, none⟩))).run Tryz.prog u = .ok (.int .i64 (f z).lo) u := by go_simp
       exact .inl ⟨(by show (match ρ (.tmp 62) with | .bool b => b == true | _ => false) = true; rw [g37]; rfl), .inl ⟨.int .i64 (f z).lo, u, run_load_op rfl h41 hr, rfl, hR, Below.refl _ _⟩⟩
      ·have g37 : ρ (.tmp 62) = .bool true := hd ⟨37, .guard⟩ (by simp) rfl 62 rfl
       have s0 : ρ (.tmp 0) = .slice (some ⟨bb, off, none⟩) n cap := (hρ 0 (by kernel_rfl)).trans rfl
       exact .inl ⟨(by show (match ρ (.tmp 62) with | .bool b => b == true | _ => false) = true; rw [g37]; rfl), .inl ⟨_, u, rfl, s0, hR, Below.refl _ _⟩⟩
      ·have g37 : ρ (.tmp 62) = .bool true := hd ⟨37, .guard⟩ (by simp) rfl 62 rfl
       have s4 : ρ (.tmp 4) = .int .i64 (y : Int) := (hρ 4 (by kernel_rfl)).trans rfl
       exact .inl ⟨(by show (match ρ (.tmp 62) with | .bool b => b == true | _ => false) = true; rw [g37]; rfl), .inl ⟨_, u, rfl, s4, hR, Below.refl _ _⟩⟩
      ·have g37 : ρ (.tmp 62) = .bool true := hd ⟨37, .guard⟩ (by simp) rfl 62 rfl
       have h43 : ρ (.tmp 68) = .slice (some ⟨bb, off, none⟩) n cap := hd ⟨43, .data⟩ (by simp) rfl 68 rfl
       have h44 : ρ (.tmp 69) = .int .i64 (y : Int) := hd ⟨44, .data⟩ (by simp) rfl 69 rfl
       exact .inl ⟨(by show (match ρ (.tmp 62) with | .bool b => b == true | _ => false) = true; rw [g37]; rfl), .inl ⟨.pointer (some ⟨bb, off + y * 7, none⟩), u, run_index_op rfl h43 h44 (by go_simp), rfl, hR, Below.refl _ _⟩⟩
      ·have g37 : ρ (.tmp 62) = .bool true := hd ⟨37, .guard⟩ (by simp) rfl 62 rfl
       have h45 : ρ (.tmp 70) = .pointer (some ⟨bb, off + y * 7, none⟩) := hd ⟨45, .data⟩ (by simp) rfl 70 rfl
       exact .inl ⟨(by show (match ρ (.tmp 62) with | .bool b => b == true | _ => false) = true; rw [g37]; rfl), .inl ⟨.pointer (some ⟨bb, off + y * 7 + 3, none⟩), u, run_field_op rfl h45 (by go_simp), rfl, hR, Below.refl _ _⟩⟩
      ·obtain ⟨q0, q1, q2, q3, p0, p1, p2, p3⟩ := CE.out u hR
       have g37 : ρ (.tmp 62) = .bool true := hd ⟨37, .guard⟩ (by simp) rfl 62 rfl
       have h46 : ρ (.tmp 71) = .pointer (some ⟨bb, off + y * 7 + 3, none⟩) := hd ⟨46, .data⟩ (by simp) rfl 71 rfl
       have hr : (Instr.loadAt 3 (.pointer (some ⟨bb, off + y * 7 + 3, none⟩))).run Tryz.prog u = .ok (.int .i64 (f y).hi) u := by go_simp
       exact .inl ⟨(by show (match ρ (.tmp 62) with | .bool b => b == true | _ => false) = true; rw [g37]; rfl), .inl ⟨.int .i64 (f y).hi, u, run_load_op rfl h46 hr, rfl, hR, Below.refl _ _⟩⟩
      ·have g37 : ρ (.tmp 62) = .bool true := hd ⟨37, .guard⟩ (by simp) rfl 62 rfl
       have h42 : ρ (.tmp 67) = .int .i64 (f z).lo := hd ⟨42, .data⟩ (by simp) rfl 67 rfl
       have h47 : ρ (.tmp 72) = .int .i64 (f y).hi := hd ⟨47, .data⟩ (by simp) rfl 72 rfl
       exact .inl ⟨(by show (match ρ (.tmp 62) with | .bool b => b == true | _ => false) = true; rw [g37]; rfl), .inl ⟨.bool false, u, run_bin_op rfl h42 h47 (by go_simp), rfl, hR, Below.refl _ _⟩⟩
      have h37 : ρ (.tmp 62) = .bool true := hd ⟨37, .data⟩ (by simp) rfl 62 rfl
      have h48 : ρ (.tmp 73) = .bool false := hd ⟨48, .data⟩ (by simp) rfl 73 rfl
      exact .inl ⟨rfl, .inl ⟨_, u, run_pick_op rfl h37, (by simpa using h48), hR, Below.refl _ _⟩⟩
     go_wp2
     refine wp_region_any (by kernel_rfl) ?_
     refine wpAny_vals (fun u => Below wr.heap.size wr u) (fun i v u => match i with
      | 0 => v = .slice (some ⟨bb, off, none⟩) n cap
      | 1 => v = .int .i64 (y : Int)
      | 2 => v = .pointer (some ⟨bb, off + y * 7, none⟩)
      | 3 => v = .pointer (some ⟨bb, off + y * 7, none⟩)
      | 4 => v = .int .i64 (f y).u
      | 5 => v = .slice (some ⟨bb, off, none⟩) n cap
      | 6 => v = .int .i64 (z : Int)
      | 7 => v = .pointer (some ⟨bb, off + z * 7, none⟩)
      | 8 => v = .pointer (some ⟨bb, off + z * 7, none⟩)
      | 9 => v = .int .i64 (f z).u
      | 10 => v = .bool true
      | 11 => v = .bool true
      | 12 => v = .slice (some ⟨bb, off, none⟩) n cap
      | 13 => v = .int .i64 (y : Int)
      | 14 => v = .pointer (some ⟨bb, off + y * 7, none⟩)
      | 15 => v = .pointer (some ⟨bb, off + y * 7 + 1, none⟩)
      | 16 => v = .int .i64 (f y).s
      | 17 => v = .slice (some ⟨bb, off, none⟩) n cap
      | 18 => v = .int .i64 (z : Int)
      | 19 => v = .pointer (some ⟨bb, off + z * 7, none⟩)
      | 20 => v = .pointer (some ⟨bb, off + z * 7 + 1, none⟩)
      | 21 => v = .int .i64 (f z).s
      | 22 => v = .bool true
      | 23 => v = .bool true
      | 24 => v = .bool true
      | 25 => v = .slice (some ⟨bb, off, none⟩) n cap
      | 26 => v = .int .i64 (y : Int)
      | 27 => v = .pointer (some ⟨bb, off + y * 7, none⟩)
      | 28 => v = .pointer (some ⟨bb, off + y * 7 + 2, none⟩)
      | 29 => v = .int .i64 (f y).lo
      | 30 => v = .slice (some ⟨bb, off, none⟩) n cap
      | 31 => v = .int .i64 (z : Int)
      | 32 => v = .pointer (some ⟨bb, off + z * 7, none⟩)
      | 33 => v = .pointer (some ⟨bb, off + z * 7 + 3, none⟩)
      | 34 => v = .int .i64 (f z).hi
      | 35 => v = .bool true
      | 36 => v = .bool true
      | 37 => v = .bool true
      | 38 => v = .slice (some ⟨bb, off, none⟩) n cap
      | 39 => v = .int .i64 (z : Int)
      | 40 => v = .pointer (some ⟨bb, off + z * 7, none⟩)
      | 41 => v = .pointer (some ⟨bb, off + z * 7 + 2, none⟩)
      | 42 => v = .int .i64 (f z).lo
      | 43 => v = .slice (some ⟨bb, off, none⟩) n cap
      | 44 => v = .int .i64 (y : Int)
      | 45 => v = .pointer (some ⟨bb, off + y * 7, none⟩)
      | 46 => v = .pointer (some ⟨bb, off + y * 7 + 3, none⟩)
      | 47 => v = .int .i64 (f y).hi
      | 48 => v = .bool true
      | 49 => v = .bool true
      | _ => True) (by kernel_rfl) (by kernel_rfl) (fun _ _ _ _ h _ => h) (Below.refl _ _).drew ?_ ?_ _ _ rfl (by decide) (fun i => by simp [Array.getD]; try (split <;> rfl))
     ·intro vs u hR hall
      have e16 : vs 49 = .bool true := hall 49 (by simp)
      simp only [putsL]
      rw [e16]
      clear hall e16
      have BX := bel_next hbl hR
      clear hR CE hbl
      have hno : b = false := by cases b with | false => rfl | true => exact absurd (show ovl (f y) (f z) from ⟨h0, h1, h2, h3⟩) ((HB.out.1 rfl).2.2 z hlt y hlt2)
      subst hno
      go_simp
      go_wp2
      go_ret
      exact ⟨rfl, BX⟩
     intro u i o ρ hR ho hρ hc hf hd
     have hi : i < 50 := by
      have := (Array.getElem?_eq_some_iff.1 ho).1
      simpa using this
     obtain rfl | rfl | rfl | rfl | rfl | rfl | rfl | rfl | rfl | rfl | rfl | rfl | rfl | rfl | rfl | rfl | rfl | rfl | rfl | rfl | rfl | rfl | rfl | rfl | rfl | rfl | rfl | rfl | rfl | rfl | rfl | rfl | rfl | rfl | rfl | rfl | rfl | rfl | rfl | rfl | rfl | rfl | rfl | rfl | rfl | rfl | rfl | rfl | rfl | rfl : i = 0 \/ i = 1 \/ i = 2 \/ i = 3 \/ i = 4 \/ i = 5 \/ i = 6 \/ i = 7 \/ i = 8 \/ i = 9 \/ i = 10 \/ i = 11 \/ i = 12 \/ i = 13 \/ i = 14 \/ i = 15 \/ i = 16 \/ i = 17 \/ i = 18 \/ i = 19 \/ i = 20 \/ i = 21 \/ i = 22 \/ i = 23 \/ i = 24 \/ i = 25 \/ i = 26 \/ i = 27 \/ i = 28 \/ i = 29 \/ i = 30 \/ i = 31 \/ i = 32 \/ i = 33 \/ i = 34 \/ i = 35 \/ i = 36 \/ i = 37 \/ i = 38 \/ i = 39 \/ i = 40 \/ i = 41 \/ i = 42 \/ i = 43 \/ i = 44 \/ i = 45 \/ i = 46 \/ i = 47 \/ i = 48 \/ i = 49 := by omega
     all_goals (simp only [List.getElem?_toArray, List.getElem?_cons_zero, List.getElem?_cons_succ, Option.some.injEq] at ho; subst ho)
     ·have s0 : ρ (.tmp 0) = .slice (some ⟨bb, off, none⟩) n cap := (hρ 0 (by kernel_rfl)).trans rfl
      exact .inl ⟨rfl, .inl ⟨_, u, rfl, s0, hR, Below.refl _ _⟩⟩
     ·have s4 : ρ (.tmp 4) = .int .i64 (y : Int) := (hρ 4 (by kernel_rfl)).trans rfl
      exact .inl ⟨rfl, .inl ⟨_, u, rfl, s4, hR, Below.refl _ _⟩⟩
     ·have h0 : ρ (.tmp 25) = .slice (some ⟨bb, off, none⟩) n cap := hd ⟨0, .data⟩ (by simp) rfl 25 rfl
      have h1 : ρ (.tmp 26) = .int .i64 (y : Int) := hd ⟨1, .data⟩ (by simp) rfl 26 rfl
      exact .inl ⟨rfl, .inl ⟨.pointer (some ⟨bb, off + y * 7, none⟩), u, run_index_op rfl h0 h1 (by go_simp), rfl, hR, Below.refl _ _⟩⟩
     ·have h2 : ρ (.tmp 27) = .pointer (some ⟨bb, off + y * 7, none⟩) := hd ⟨2, .data⟩ (by simp) rfl 27 rfl
      exact .inl ⟨rfl, .inl ⟨.pointer (some ⟨bb, off + y * 7, none⟩), u, run_field_op rfl h2 (by go_simp), rfl, hR, Below.refl _ _⟩⟩
     ·obtain ⟨q0, q1, q2, q3, p0, p1, p2, p3⟩ := CE.out u hR
      have h3 : ρ (.tmp 28) = .pointer (some ⟨bb, off + y * 7, none⟩) := hd ⟨3, .data⟩ (by simp) rfl 28 rfl
      have hr : (Instr.loadAt 3 (.pointer (some ⟨bb, off + y * 7, none⟩))).run Tryz.prog u = .ok (.int .i64 (f y).u) u := by go_simp
      exact .inl ⟨rfl, .inl ⟨.int .i64 (f y).u, u, run_load_op rfl h3 hr, rfl, hR, Below.refl _ _⟩⟩
     ·have s0 : ρ (.tmp 0) = .slice (some ⟨bb, off, none⟩) n cap := (hρ 0 (by kernel_rfl)).trans rfl
      exact .inl ⟨rfl, .inl ⟨_, u, rfl, s0, hR, Below.refl _ _⟩⟩
     ·have s3 : ρ (.tmp 3) = .int .i64 (z : Int) := (hρ 3 (by kernel_rfl)).trans rfl
      exact .inl ⟨rfl, .inl ⟨_, u, rfl, s3, hR, Below.refl _ _⟩⟩
     ·have h5 : ρ (.tmp 30) = .slice (some ⟨bb, off, none⟩) n cap := hd ⟨5, .data⟩ (by simp) rfl 30 rfl
      have h6 : ρ (.tmp 31) = .int .i64 (z : Int) := hd ⟨6, .data⟩ (by simp) rfl 31 rfl
      exact .inl ⟨rfl, .inl ⟨.pointer (some ⟨bb, off + z * 7, none⟩), u, run_index_op rfl h5 h6 (by go_simp), rfl, hR, Below.refl _ _⟩⟩
     ·have h7 : ρ (.tmp 32) = .pointer (some ⟨bb, off + z * 7, none⟩) := hd ⟨7, .data⟩ (by simp) rfl 32 rfl
      exact .inl ⟨rfl, .inl ⟨.pointer (some ⟨bb, off + z * 7, none⟩), u, run_field_op rfl h7 (by go_simp), rfl, hR, Below.refl _ _⟩⟩
     ·obtain ⟨q0, q1, q2, q3, p0, p1, p2, p3⟩ := CE.out u hR
      have h8 : ρ (.tmp 33) = .pointer (some ⟨bb, off + z * 7, none⟩) := hd ⟨8, .data⟩ (by simp) rfl 33 rfl
      have hr : (Instr.loadAt 3 (.pointer (some ⟨bb, off + z * 7, none⟩))).run Tryz.prog u = .ok (.int .i64 (f z).u) u := by go_simp
      exact .inl ⟨rfl, .inl ⟨.int .i64 (f z).u, u, run_load_op rfl h8 hr, rfl, hR, Below.refl _ _⟩⟩
     ·have h4 : ρ (.tmp 29) = .int .i64 (f y).u := hd ⟨4, .data⟩ (by simp) rfl 29 rfl
      have h9 : ρ (.tmp 34) = .int .i64 (f z).u := hd ⟨9, .data⟩ (by simp) rfl 34 rfl
      exact .inl ⟨rfl, .inl ⟨.bool true, u, run_bin_op rfl h4 h9 (by go_simp), rfl, hR, Below.refl _ _⟩⟩
     ·have h10 : ρ (.tmp 35) = .bool true := hd ⟨10, .data⟩ (by simp) rfl 35 rfl
      exact .inl ⟨rfl, .inl ⟨_, u, rfl, h10, hR, Below.refl _ _⟩⟩
     ·have g11 : ρ (.tmp 36) = .bool true := hd ⟨11, .guard⟩ (by simp) rfl 36 rfl
      have s0 : ρ (.tmp 0) = .slice (some ⟨bb, off, none⟩) n cap := (hρ 0 (by kernel_rfl)).trans rfl
      exact .inl ⟨(by show (match ρ (.tmp 36) with | .bool b => b == true | _ => false) = true; rw [g11]; rfl), .inl ⟨_, u, rfl, s0, hR, Below.refl _ _⟩⟩
     ·have g11 : ρ (.tmp 36) = .bool true := hd ⟨11, .guard⟩ (by simp) rfl 36 rfl
      have s4 : ρ (.tmp 4) = .int .i64 (y : Int) := (hρ 4 (by kernel_rfl)).trans rfl
      exact .inl ⟨(by show (match ρ (.tmp 36) with | .bool b => b == true | _ => false) = true; rw [g11]; rfl), .inl ⟨_, u, rfl, s4, hR, Below.refl _ _⟩⟩
     ·have g11 : ρ (.tmp 36) = .bool true := hd ⟨11, .guard⟩ (by simp) rfl 36 rfl
      have h12 : ρ (.tmp 37) = .slice (some ⟨bb, off, none⟩) n cap := hd ⟨12, .data⟩ (by simp) rfl 37 rfl
      have h13 : ρ (.tmp 38) = .int .i64 (y : Int) := hd ⟨13, .data⟩ (by simp) rfl 38 rfl
      exact .inl ⟨(by show (match ρ (.tmp 36) with | .bool b => b == true | _ => false) = true; rw [g11]; rfl), .inl ⟨.pointer (some ⟨bb, off + y * 7, none⟩), u, run_index_op rfl h12 h13 (by go_simp), rfl, hR, Below.refl _ _⟩⟩
     ·have g11 : ρ (.tmp 36) = .bool true := hd ⟨11, .guard⟩ (by simp) rfl 36 rfl
      have h14 : ρ (.tmp 39) = .pointer (some ⟨bb, off + y * 7, none⟩) := hd ⟨14, .data⟩ (by simp) rfl 39 rfl
      exact .inl ⟨(by show (match ρ (.tmp 36) with | .bool b => b == true | _ => false) = true; rw [g11]; rfl), .inl ⟨.pointer (some ⟨bb, off + y * 7 + 1, none⟩), u, run_field_op rfl h14 (by go_simp), rfl, hR, Below.refl _ _⟩⟩
     ·obtain ⟨q0, q1, q2, q3, p0, p1, p2, p3⟩ := CE.out u hR
      have g11 : ρ (.tmp 36) = .bool true := hd ⟨11, .guard⟩ (by simp) rfl 36 rfl
      have h15 : ρ (.tmp 40) = .pointer (some ⟨bb, off + y * 7 + 1, none⟩) := hd ⟨15, .data⟩ (by simp) rfl 40 rfl
      have hr : (Instr.loadAt 3 (.pointer (some ⟨bb, off + y * 7 + 1, none⟩))).run Tryz.prog u = .ok (.int .i64 (f y).s) u := by go_simp
      exact .inl ⟨(by show (match ρ (.tmp 36) with | .bool b => b == true | _ => false) = true; rw [g11]; rfl), .inl ⟨.int .i64 (f y).s, u, run_load_op rfl h15 hr, rfl, hR, Below.refl _ _⟩⟩
     ·have g11 : ρ (.tmp 36) = .bool true := hd ⟨11, .guard⟩ (by simp) rfl 36 rfl
      have s0 : ρ (.tmp 0) = .slice (some ⟨bb, off, none⟩) n cap := (hρ 0 (by kernel_rfl)).trans rfl
      exact .inl ⟨(by show (match ρ (.tmp 36) with | .bool b => b == true | _ => false) = true; rw [g11]; rfl), .inl ⟨_, u, rfl, s0, hR, Below.refl _ _⟩⟩
     ·have g11 : ρ (.tmp 36) = .bool true := hd ⟨11, .guard⟩ (by simp) rfl 36 rfl
      have s3 : ρ (.tmp 3) = .int .i64 (z : Int) := (hρ 3 (by kernel_rfl)).trans rfl
      exact .inl ⟨(by show (match ρ (.tmp 36) with | .bool b => b == true | _ => false) = true; rw [g11]; rfl), .inl ⟨_, u, rfl, s3, hR, Below.refl _ _⟩⟩
     ·have g11 : ρ (.tmp 36) = .bool true := hd ⟨11, .guard⟩ (by simp) rfl 36 rfl
      have h17 : ρ (.tmp 42) = .slice (some ⟨bb, off, none⟩) n cap := hd ⟨17, .data⟩ (by simp) rfl 42 rfl
      have h18 : ρ (.tmp 43) = .int .i64 (z : Int) := hd ⟨18, .data⟩ (by simp) rfl 43 rfl
      exact .inl ⟨(by show (match ρ (.tmp 36) with | .bool b => b == true | _ => false) = true; rw [g11]; rfl), .inl ⟨.pointer (some ⟨bb, off + z * 7, none⟩), u, run_index_op rfl h17 h18 (by go_simp), rfl, hR, Below.refl _ _⟩⟩
     ·have g11 : ρ (.tmp 36) = .bool true := hd ⟨11, .guard⟩ (by simp) rfl 36 rfl
      have h19 : ρ (.tmp 44) = .pointer (some ⟨bb, off + z * 7, none⟩) := hd ⟨19, .data⟩ (by simp) rfl 44 rfl
      exact .inl ⟨(by show (match ρ (.tmp 36) with | .bool b => b == true | _ => false) = true; rw [g11]; rfl), .inl ⟨.pointer (some ⟨bb, off + z * 7 + 1, none⟩), u, run_field_op rfl h19 (by go_simp), rfl, hR, Below.refl _ _⟩⟩
     ·obtain ⟨q0, q1, q2, q3, p0, p1, p2, p3⟩ := CE.out u hR
      have g11 : ρ (.tmp 36) = .bool true := hd ⟨11, .guard⟩ (by simp) rfl 36 rfl
      have h20 : ρ (.tmp 45) = .pointer (some ⟨bb, off + z * 7 + 1, none⟩) := hd ⟨20, .data⟩ (by simp) rfl 45 rfl
      have hr : (Instr.loadAt 3 (.pointer (some ⟨bb, off + z * 7 + 1, none⟩))).run Tryz.prog u = .ok (.int .i64 (f z).s) u := by go_simp
      exact .inl ⟨(by show (match ρ (.tmp 36) with | .bool b => b == true | _ => false) = true; rw [g11]; rfl), .inl ⟨.int .i64 (f z).s, u, run_load_op rfl h20 hr, rfl, hR, Below.refl _ _⟩⟩
     ·have g11 : ρ (.tmp 36) = .bool true := hd ⟨11, .guard⟩ (by simp) rfl 36 rfl
      have h16 : ρ (.tmp 41) = .int .i64 (f y).s := hd ⟨16, .data⟩ (by simp) rfl 41 rfl
      have h21 : ρ (.tmp 46) = .int .i64 (f z).s := hd ⟨21, .data⟩ (by simp) rfl 46 rfl
      exact .inl ⟨(by show (match ρ (.tmp 36) with | .bool b => b == true | _ => false) = true; rw [g11]; rfl), .inl ⟨.bool true, u, run_bin_op rfl h16 h21 (by go_simp), rfl, hR, Below.refl _ _⟩⟩
     ·have h11 : ρ (.tmp 36) = .bool true := hd ⟨11, .data⟩ (by simp) rfl 36 rfl
      have h22 : ρ (.tmp 47) = .bool true := hd ⟨22, .data⟩ (by simp) rfl 47 rfl
      exact .inl ⟨rfl, .inl ⟨_, u, run_pick_op rfl h11, (by simpa using h22), hR, Below.refl _ _⟩⟩
     ·have h23 : ρ (.tmp 48) = .bool true := hd ⟨23, .data⟩ (by simp) rfl 48 rfl
      exact .inl ⟨rfl, .inl ⟨_, u, rfl, h23, hR, Below.refl _ _⟩⟩
     ·have g24 : ρ (.tmp 49) = .bool true := hd ⟨24, .guard⟩ (by simp) rfl 49 rfl
      have s0 : ρ (.tmp 0) = .slice (some ⟨bb, off, none⟩) n cap := (hρ 0 (by kernel_rfl)).trans rfl
      exact .inl ⟨(by show (match ρ (.tmp 49) with | .bool b => b == true | _ => false) = true; rw [g24]; rfl), .inl ⟨_, u, rfl, s0, hR, Below.refl _ _⟩⟩
     ·have g24 : ρ (.tmp 49) = .bool true := hd ⟨24, .guard⟩ (by simp) rfl 49 rfl
      have s4 : ρ (.tmp 4) = .int .i64 (y : Int) := (hρ 4 (by kernel_rfl)).trans rfl
      exact .inl ⟨(by show (match ρ (.tmp 49) with | .bool b => b == true | _ => false) = true; rw [g24]; rfl), .inl ⟨_, u, rfl, s4, hR, Below.refl _ _⟩⟩
     ·have g24 : ρ (.tmp 49) = .bool true := hd ⟨24, .guard⟩ (by simp) rfl 49 rfl
      have h25 : ρ (.tmp 50) = .slice (some ⟨bb, off, none⟩) n cap := hd ⟨25, .data⟩ (by simp) rfl 50 rfl
      have h26 : ρ (.tmp 51) = .int .i64 (y : Int) := hd ⟨26, .data⟩ (by simp) rfl 51 rfl
      exact .inl ⟨(by show (match ρ (.tmp 49) with | .bool b => b == true | _ => false) = true; rw [g24]; rfl), .inl ⟨.pointer (some ⟨bb, off + y * 7, none⟩), u, run_index_op rfl h25 h26 (by go_simp), rfl, hR, Below.refl _ _⟩⟩
     ·have g24 : ρ (.tmp 49) = .bool true := hd ⟨24, .guard⟩ (by simp) rfl 49 rfl
      have h27 : ρ (.tmp 52) = .pointer (some ⟨bb, off + y * 7, none⟩) := hd ⟨27, .data⟩ (by simp) rfl 52 rfl
      exact .inl ⟨(by show (match ρ (.tmp 49) with | .bool b => b == true | _ => false) = true; rw [g24]; rfl), .inl ⟨.pointer (some ⟨bb, off + y * 7 + 2, none⟩), u, run_field_op rfl h27 (by go_simp), rfl, hR, Below.refl _ _⟩⟩
     ·obtain ⟨q0, q1, q2, q3, p0, p1, p2, p3⟩ := CE.out u hR
      have g24 : ρ (.tmp 49) = .bool true := hd ⟨24, .guard⟩ (by simp) rfl 49 rfl
      have h28 : ρ (.tmp 53) = .pointer (some ⟨bb, off + y * 7 + 2, none⟩) := hd ⟨28, .data⟩ (by simp) rfl 53 rfl
      have hr : (Instr.loadAt 3 (.pointer (some ⟨bb, off + y * 7 + 2, none⟩))).run Tryz.prog u = .ok (.int .i64 (f y).lo) u := by go_simp
      exact .inl ⟨(by show (match ρ (.tmp 49) with | .bool b => b == true | _ => false) = true; rw [g24]; rfl), .inl ⟨.int .i64 (f y).lo, u, run_load_op rfl h28 hr, rfl, hR, Below.refl _ _⟩⟩
     ·have g24 : ρ (.tmp 49) = .bool true := hd ⟨24, .guard⟩ (by simp) rfl 49 rfl
      have s0 : ρ (.tmp 0) = .slice (some ⟨bb, off, none⟩) n cap := (hρ 0 (by kernel_rfl)).trans rfl
      exact .inl ⟨(by show (match ρ (.tmp 49) with | .bool b => b == true | _ => false) = true; rw [g24]; rfl), .inl ⟨_, u, rfl, s0, hR, Below.refl _ _⟩⟩
     ·have g24 : ρ (.tmp 49) = .bool true := hd ⟨24, .guard⟩ (by simp) rfl 49 rfl
      have s3 : ρ (.tmp 3) = .int .i64 (z : Int) := (hρ 3 (by kernel_rfl)).trans rfl
      exact .inl ⟨(by show (match ρ (.tmp 49) with | .bool b => b == true | _ => false) = true; rw [g24]; rfl), .inl ⟨_, u, rfl, s3, hR, Below.refl _ _⟩⟩
     ·have g24 : ρ (.tmp 49) = .bool true := hd ⟨24, .guard⟩ (by simp) rfl 49 rfl
      have h30 : ρ (.tmp 55) = .slice (some ⟨bb, off, none⟩) n cap := hd ⟨30, .data⟩ (by simp) rfl 55 rfl
      have h31 : ρ (.tmp 56) = .int .i64 (z : Int) := hd ⟨31, .data⟩ (by simp) rfl 56 rfl
      exact .inl ⟨(by show (match ρ (.tmp 49) with | .bool b => b == true | _ => false) = true; rw [g24]; rfl), .inl ⟨.pointer (some ⟨bb, off + z * 7, none⟩), u, run_index_op rfl h30 h31 (by go_simp), rfl, hR, Below.refl _ _⟩⟩
     ·have g24 : ρ (.tmp 49) = .bool true := hd ⟨24, .guard⟩ (by simp) rfl 49 rfl
      have h32 : ρ (.tmp 57) = .pointer (some ⟨bb, off + z * 7, none⟩) := hd ⟨32, .data⟩ (by simp) rfl 57 rfl
      exact .inl ⟨(by show (match ρ (.tmp 49) with | .bool b => b == true | _ => false) = true; rw [g24]; rfl), .inl ⟨.pointer (some ⟨bb, off + z * 7 + 3, none⟩), u, run_field_op rfl h32 (by go_simp), rfl, hR, Below.refl _ _⟩⟩
     ·obtain ⟨q0, q1, q2, q3, p0, p1, p2, p3⟩ := CE.out u hR
      have g24 : ρ (.tmp 49) = .bool true := hd ⟨24, .guard⟩ (by simp) rfl 49 rfl
      have h33 : ρ (.tmp 58) = .pointer (some ⟨bb, off + z * 7 + 3, none⟩) := hd ⟨33, .data⟩ (by simp) rfl 58 rfl
      have hr : (Instr.loadAt 3 (.pointer (some ⟨bb, off + z * 7 + 3, none⟩))).run Tryz.prog u = .ok (.int .i64 (f z).hi) u := by go_simp
      exact .inl ⟨(by show (match ρ (.tmp 49) with | .bool b => b == true | _ => false) = true; rw [g24]; rfl), .inl ⟨.int .i64 (f z).hi, u, run_load_op rfl h33 hr, rfl, hR, Below.refl _ _⟩⟩
     ·have g24 : ρ (.tmp 49) = .bool true := hd ⟨24, .guard⟩ (by simp) rfl 49 rfl
      have h29 : ρ (.tmp 54) = .int .i64 (f y).lo := hd ⟨29, .data⟩ (by simp) rfl 54 rfl
      have h34 : ρ (.tmp 59) = .int .i64 (f z).hi := hd ⟨34, .data⟩ (by simp) rfl 59 rfl
      exact .inl ⟨(by show (match ρ (.tmp 49) with | .bool b => b == true | _ => false) = true; rw [g24]; rfl), .inl ⟨.bool true, u, run_bin_op rfl h29 h34 (by go_simp), rfl, hR, Below.refl _ _⟩⟩
     ·have h24 : ρ (.tmp 49) = .bool true := hd ⟨24, .data⟩ (by simp) rfl 49 rfl
      have h35 : ρ (.tmp 60) = .bool true := hd ⟨35, .data⟩ (by simp) rfl 60 rfl
      exact .inl ⟨rfl, .inl ⟨_, u, run_pick_op rfl h24, (by simpa using h35), hR, Below.refl _ _⟩⟩
     ·have h36 : ρ (.tmp 61) = .bool true := hd ⟨36, .data⟩ (by simp) rfl 61 rfl
      exact .inl ⟨rfl, .inl ⟨_, u, rfl, h36, hR, Below.refl _ _⟩⟩
     ·have g37 : ρ (.tmp 62) = .bool true := hd ⟨37, .guard⟩ (by simp) rfl 62 rfl
      have s0 : ρ (.tmp 0) = .slice (some ⟨bb, off, none⟩) n cap := (hρ 0 (by kernel_rfl)).trans rfl
      exact .inl ⟨(by show (match ρ (.tmp 62) with | .bool b => b == true | _ => false) = true; rw [g37]; rfl), .inl ⟨_, u, rfl, s0, hR, Below.refl _ _⟩⟩
     ·have g37 : ρ (.tmp 62) = .bool true := hd ⟨37, .guard⟩ (by simp) rfl 62 rfl
      have s3 : ρ (.tmp 3) = .int .i64 (z : Int) := (hρ 3 (by kernel_rfl)).trans rfl
      exact .inl ⟨(by show (match ρ (.tmp 62) with | .bool b => b == true | _ => false) = true; rw [g37]; rfl), .inl ⟨_, u, rfl, s3, hR, Below.refl _ _⟩⟩
     ·have g37 : ρ (.tmp 62) = .bool true := hd ⟨37, .guard⟩ (by simp) rfl 62 rfl
      have h38 : ρ (.tmp 63) = .slice (some ⟨bb, off, none⟩) n cap := hd ⟨38, .data⟩ (by simp) rfl 63 rfl
      have h39 : ρ (.tmp 64) = .int .i64 (z : Int) := hd ⟨39, .data⟩ (by simp) rfl 64 rfl
      exact .inl ⟨(by show (match ρ (.tmp 62) with | .bool b => b == true | _ => false) = true; rw [g37]; rfl), .inl ⟨.pointer (some ⟨bb, off + z * 7, none⟩), u, run_index_op rfl h38 h39 (by go_simp), rfl, hR, Below.refl _ _⟩⟩
     ·have g37 : ρ (.tmp 62) = .bool true := hd ⟨37, .guard⟩ (by simp) rfl 62 rfl
      have h40 : ρ (.tmp 65) = .pointer (some ⟨bb, off + z * 7, none⟩) := hd ⟨40, .data⟩ (by simp) rfl 65 rfl
      exact .inl ⟨(by show (match ρ (.tmp 62) with | .bool b => b == true | _ => false) = true; rw [g37]; rfl), .inl ⟨.pointer (some ⟨bb, off + z * 7 + 2, none⟩), u, run_field_op rfl h40 (by go_simp), rfl, hR, Below.refl _ _⟩⟩
     ·obtain ⟨q0, q1, q2, q3, p0, p1, p2, p3⟩ := CE.out u hR
      have g37 : ρ (.tmp 62) = .bool true := hd ⟨37, .guard⟩ (by simp) rfl 62 rfl
      have h41 : ρ (.tmp 66) = .pointer (some ⟨bb, off + z * 7 + 2, none⟩) := hd ⟨41, .data⟩ (by simp) rfl 66 rfl
      have hr : (Instr.loadAt 3 (.pointer (some ⟨bb, off + z * 7 + 2, none⟩))).run Tryz.prog u = .ok (.int .i64 (f z).lo) u := by go_simp
      exact .inl ⟨(by show (match ρ (.tmp 62) with | .bool b => b == true | _ => false) = true; rw [g37]; rfl), .inl ⟨.int .i64 (f z).lo, u, run_load_op rfl h41 hr, rfl, hR, Below.refl _ _⟩⟩
     ·have g37 : ρ (.tmp 62) = .bool true := hd ⟨37, .guard⟩ (by simp) rfl 62 rfl
      have s0 : ρ (.tmp 0) = .slice (some ⟨bb, off, none⟩) n cap := (hρ 0 (by kernel_rfl)).trans rfl
      exact .inl ⟨(by show (match ρ (.tmp 62) with | .bool b => b == true | _ => false) = true; rw [g37]; rfl), .inl ⟨_, u, rfl, s0, hR, Below.refl _ _⟩⟩
     ·have g37 : ρ (.tmp 62) = .bool true := hd ⟨37, .guard⟩ (by simp) rfl 62 rfl
      have s4 : ρ (.tmp 4) = .int .i64 (y : Int) := (hρ 4 (by kernel_rfl)).trans rfl
      exact .inl ⟨(by show (match ρ (.tmp 62) with | .bool b => b == true | _ => false) = true; rw [g37]; rfl), .inl ⟨_, u, rfl, s4, hR, Below.refl _ _⟩⟩
     ·have g37 : ρ (.tmp 62) = .bool true := hd ⟨37, .guard⟩ (by simp) rfl 62 rfl
      have h43 : ρ (.tmp 68) = .slice (some ⟨bb, off, none⟩) n cap := hd ⟨43, .data⟩ (by simp) rfl 68 rfl
      have h44 : ρ (.tmp 69) = .int .i64 (y : Int) := hd ⟨44, .data⟩ (by simp) rfl 69 rfl
      exact .inl ⟨(by show (match ρ (.tmp 62) with | .bool b => b == true | _ => false) = true; rw [g37]; rfl), .inl ⟨.pointer (some ⟨bb, off + y * 7, none⟩), u, run_index_op rfl h43 h44 (by go_simp), rfl, hR, Below.refl _ _⟩⟩
     ·have g37 : ρ (.tmp 62) = .bool true := hd ⟨37, .guard⟩ (by simp) rfl 62 rfl
      have h45 : ρ (.tmp 70) = .pointer (some ⟨bb, off + y * 7, none⟩) := hd ⟨45, .data⟩ (by simp) rfl 70 rfl
      exact .inl ⟨(by show (match ρ (.tmp 62) with | .bool b => b == true | _ => false) = true; rw [g37]; rfl), .inl ⟨.pointer (some ⟨bb, off + y * 7 + 3, none⟩), u, run_field_op rfl h45 (by go_simp), rfl, hR, Below.refl _ _⟩⟩
     ·obtain ⟨q0, q1, q2, q3, p0, p1, p2, p3⟩ := CE.out u hR
      have g37 : ρ (.tmp 62) = .bool true := hd ⟨37, .guard⟩ (by simp) rfl 62 rfl
      have h46 : ρ (.tmp 71) = .pointer (some ⟨bb, off + y * 7 + 3, none⟩) := hd ⟨46, .data⟩ (by simp) rfl 71 rfl
      have hr : (Instr.loadAt 3 (.pointer (some ⟨bb, off + y * 7 + 3, none⟩))).run Tryz.prog u = .ok (.int .i64 (f y).hi) u := by go_simp
      exact .inl ⟨(by show (match ρ (.tmp 62) with | .bool b => b == true | _ => false) = true; rw [g37]; rfl), .inl ⟨.int .i64 (f y).hi, u, run_load_op rfl h46 hr, rfl, hR, Below.refl _ _⟩⟩
     ·have g37 : ρ (.tmp 62) = .bool true := hd ⟨37, .guard⟩ (by simp) rfl 62 rfl
      have h42 : ρ (.tmp 67) = .int .i64 (f z).lo := hd ⟨42, .data⟩ (by simp) rfl 67 rfl
      have h47 : ρ (.tmp 72) = .int .i64 (f y).hi := hd ⟨47, .data⟩ (by simp) rfl 72 rfl
      exact .inl ⟨(by show (match ρ (.tmp 62) with | .bool b => b == true | _ => false) = true; rw [g37]; rfl), .inl ⟨.bool true, u, run_bin_op rfl h42 h47 (by go_simp), rfl, hR, Below.refl _ _⟩⟩
     have h37 : ρ (.tmp 62) = .bool true := hd ⟨37, .data⟩ (by simp) rfl 62 rfl
     have h48 : ρ (.tmp 73) = .bool true := hd ⟨48, .data⟩ (by simp) rfl 73 rfl
     exact .inl ⟨rfl, .inl ⟨_, u, run_pick_op rfl h37, (by simpa using h48), hR, Below.refl _ _⟩⟩
   rw [decide_eq_false ho]
   have hno : b = false := by cases b with | false => rfl | true => exact absurd ((HB.out.1 rfl).2.1 z hlt) ho
   subst hno
   go_wp2
   go_ret
   exact ⟨rfl, B2⟩
  have hi : ¬ (z : Int) < (n : Int) := by omega
  have hyes : b = true := HB.out.2 ⟨by omega, fun k hk => HZ.out.1 k (by omega), fun i hi k hk => HZ.out.2 i (by omega) k hk⟩
  subst hyes
  clear hs
  go_wp2
  go_ret
  exact ⟨rfl, hbl⟩
end Go.Proofs.YtkfgijkkffbpmaaGreat
