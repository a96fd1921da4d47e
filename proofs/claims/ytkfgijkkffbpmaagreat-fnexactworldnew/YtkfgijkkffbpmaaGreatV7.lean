/- Texts that the proof needs, joined: Sr7 CpS Sr8 Q1 Ru2. -/
import Derived.Test.YtkfgijkkffbpmaaGreatV6
import Derived.Deep.Cut
import Derived.Deep.CutRange
import Derived.Deep.DeepCutAuto
import Derived.Test.YtkfgijkkffbpmaaGreatV1
import Derived.Laws.CopyOwn
import Derived.Test.YtkfgijkkffbpmaaGreatV2
set_option linter.unusedVariables false
set_option linter.unusedSimpArgs false
set_option maxHeartbeats 4000000
set_option maxRecDepth 20000
namespace Go.Proofs.YtkfgijkkffbpmaaGreat
open Go.RowKit
theorem symMerge_any : ∀ (D : Nat) (g n c a m b : Nat) (f : Nat -> Ru) (w0 w : World) (hb : Below w0.heap.size w0 w) (hg : w0.heap.size <= g) (hr : RowU w g n f) (h1 : a < m) (h2 : m < b) (hbn : b <= n) (hn : n <= 1000000) (sl : SortedOn f a m) (sr : SortedOn f m b) (hD : b - a <= D),
 Calls Tryz.prog 273 #[.slice (some ⟨g, 0, none⟩) n c, .int .i64 (a : Int), .int .i64 (m : Int), .int .i64 (b : Int), .func (.func 194) #[] #[]] w fun e w' => e = .returned (.tuple #[]) /\ ∃ f', RowU w' g n f' /\ PermIn a b f f' /\ SortedOn f' a b /\ Below w0.heap.size w0 w' := by
 intro D
 induction D with
 | zero => intro g n c a m b f w0 w hb hg hr h1 h2 hbn hn sl sr hD; omega
 | succ D ih =>
  intro g n c a m b f w0 w hb hg hr h1 h2 hbn hn sl sr hD
  by_cases hA : m = a + 1
  ·exact symMerge_up g n c a m b f w0 w hb hg hr h1 h2 hbn hn sl sr hA
  by_cases hB : b = m + 1
  ·exact symMerge_down g n c a m b f w0 w hb hg hr h1 h2 hbn hn sl sr hA hB
  have HIH : Hid (∀ (g n c a m b : Nat) (f : Nat -> Ru) (w0 w : World) (hb : Below w0.heap.size w0 w) (hg : w0.heap.size <= g) (hr : RowU w g n f) (h1 : a < m) (h2 : m < b) (hbn : b <= n) (hn : n <= 1000000) (sl : SortedOn f a m) (sr : SortedOn f m b) (hD : b - a <= D),
  Calls Tryz.prog 273 #[.slice (some ⟨g, 0, none⟩) n c, .int .i64 (a : Int), .int .i64 (m : Int), .int .i64 (b : Int), .func (.func 194) #[] #[]] w fun e w' => e = .returned (.tuple #[]) /\ ∃ f', RowU w' g n f' /\ PermIn a b f f' /\ SortedOn f' a b /\ Below w0.heap.size w0 w') := ih
  have HSS : Hid (SortedOn f a m /\ SortedOn f m b) := ⟨sl, sr⟩
  have HDD : Hid (b - a <= D + 1) := hD
  have HR0 : Hid (RowU w g n f /\ Below w0.heap.size w0 w) := ⟨hr, hb⟩
  have w1 : IntKind.i64.wrap ((m : Int) - a) = (m : Int) - a := by rw [IntKind.wrap_i64]; omega
  have e1' : ((m : Int) - a == 1) = false := by simp; omega
  have e3 : ¬ (m : Int) - a = 1 := by omega
  have w2 : IntKind.i64.wrap ((b : Int) - m) = (b : Int) - m := by rw [IntKind.wrap_i64]; omega
  have e4' : ((b : Int) - m == 1) = false := by simp; omega
  have e4 : ¬ (b : Int) - m = 1 := by omega
  obtain ⟨mid, hM⟩ : ∃ mid, mid = (a + b) / 2 := ⟨_, rfl⟩
  obtain ⟨nn, hN⟩ : ∃ nn, nn = mid + m := ⟨_, rfl⟩
  obtain ⟨pp, hP⟩ : ∃ pp, pp = mid + m - 1 := ⟨_, rfl⟩
  have hmid' : ((a : Int) + (b : Int)) / 2 = (mid : Int) := by omega
  have wn : IntKind.i64.wrap ((mid : Int) + (m : Int)) = (nn : Int) := by rw [IntKind.wrap_i64]; omega
  have wp' : IntKind.i64.wrap ((nn : Int) - 1) = (pp : Int) := by rw [IntKind.wrap_i64]; omega
  have HPP : Hid (nn = mid + m /\ pp = mid + m - 1) := ⟨hN, hP⟩
  by_cases hmid : mid < m
  ·have c0 : (mid : Int) < (m : Int) := by omega
   obtain ⟨s0, hs0⟩ : ∃ s0, s0 = mid + m - b := ⟨_, rfl⟩
   have ws : IntKind.i64.wrap ((nn : Int) - (b : Int)) = (s0 : Int) := by rw [IntKind.wrap_i64]; omega
   have HM : Hid (mid = (a + b) / 2 /\ s0 = mid + m - b /\ s0 <= mid /\ a <= s0 /\ mid < b /\ mid + m - b <= s0) := ⟨hM, hs0, by omega, by omega, by omega, by omega⟩
   clear sl sr hD hr hb ih hA hB hM hN hP hs0
   go_enter Tryz.func273, Tryz.ntmps273
   go_wp2
   go_loopw [20, 21] (fun i j wr => ∃ (p q : Nat), s0 <= p /\ p <= q /\ q <= mid /\ i = .int .i64 p /\ j = .int .i64 q /\ (p = s0 \/ leR (f (p - 1)) (f (mid + m - p))) /\ (q = mid \/ ltR (f (mid + m - q - 1)) (f q)) /\ RowU wr g n f /\ Below w0.heap.size w0 wr) (fun i j _ => (intOf j).toNat - (intOf i).toNat)
   case atStart => exact ⟨s0, mid, Nat.le_refl _, by have := HM.out; omega, Nat.le_refl _, rfl, rfl, .inl rfl, .inl rfl, HR0.out.1, HR0.out.2⟩
   case round =>
    clear HR0
    obtain ⟨p, q, hmp, hpq, hqb, rfl, rfl, i1, i2, hrow, hbl⟩ := hrel
    have HPQ : Hid ((p = s0 \/ leR (f (p - 1)) (f (mid + m - p))) /\ (q = mid \/ ltR (f (mid + m - q - 1)) (f q))) := ⟨i1, i2⟩
    clear i1 i2
    by_cases hlt : p < q
    ·have hi : (p : Int) < (q : Int) := by omega
     obtain ⟨t, ht⟩ : ∃ t, t = (p + q) / 2 := ⟨_, rfl⟩
     obtain ⟨x, hx0⟩ : ∃ x, x = mid + m - 1 - t := ⟨_, rfl⟩
     have ht' : ((p : Int) + (q : Int)) / 2 = (t : Int) := by omega
     have HT : Hid (p <= t /\ t < q /\ x = mid + m - 1 - t) := (⟨by omega, by omega, hx0⟩ : p <= t /\ t < q /\ x = mid + m - 1 - t)
     have htn2 : t < n := by have := HM.out; omega
     have hxn2 : x < n := by have := HM.out; omega
     have htn : (t : Int) < (n : Int) := by omega
     have hxn : (x : Int) < (n : Int) := by omega
     have wx : IntKind.i64.wrap ((pp : Int) - (t : Int)) = (x : Int) := by have := HM.out; have := HPP.out; rw [IntKind.wrap_i64]; omega
     have wt : IntKind.i64.wrap ((t : Int) + 1) = (t : Int) + 1 := by rw [IntKind.wrap_i64]; omega
     clear ht hx0
     obtain ⟨h, hh⟩ : ∃ h : Nat -> Ru, h = f := ⟨_, rfl⟩
     have HF : Hid (h = f) := hh
     have HROW : Hid (RowU wr g n h /\ Below w0.heap.size w0 wr) := ⟨by rw [hh]; exact hrow, hbl⟩
     clear hrow hbl
     by_cases hx : ltR (h x) (h t)
     ·have hc0 : cmpR (h x) (h t) < 0 := (cmpR_lt _ _).2 hx
      have HL : Hid (ltR (f x) (f t)) := by rw [<- hh]; exact hx
      clear hx hh
      go_wp2
      refine wp_region_any (by kernel_rfl) ?_
      refine wpAny_vals (fun u => Below wr.heap.size wr u) (fun i v u => match i with
       | 0 => v = .func (.func 194) #[] #[]
       | 1 => v = .slice (some ⟨g, 0, none⟩) n c
       | 2 => v = .int .i64 (pp : Int)
       | 3 => v = .int .i64 (t : Int)
       | 4 => v = .int .i64 (x : Int)
       | 5 => v = .pointer (some ⟨g, x * 7, none⟩)
       | 6 => v = .agg (ruc (h x))
       | 7 => v = .slice (some ⟨g, 0, none⟩) n c
       | 8 => v = .int .i64 (t : Int)
       | 9 => v = .pointer (some ⟨g, t * 7, none⟩)
       | 10 => v = .agg (ruc (h t))
       | 11 => v = .int .i64 (cmpR (h x) (h t))
       | 12 => v = .bool true
       | 13 => v = .bool false
       | _ => True) (by kernel_rfl) (by kernel_rfl) (fun _ _ _ _ h _ => h) (Below.refl _ _).drew ?_ ?_ _ _ rfl (by decide) (fun i => by simp [Array.getD]; try (split <;> rfl))
      ·intro vs u hR hall
       have e16 : vs 13 = .bool false := hall 13 (by simp)
       simp only [putsL]
       rw [e16]
       clear hall e16
       have HX : Hid (RowU u g n h /\ Below w0.heap.size w0 u) := ⟨HROW.out.1.below hR, bel_next HROW.out.2 hR⟩
       clear hR HROW
       go_simp
       go_wp2
       go_roundw
       case rel => (have := HT.out; have e := HF.out; subst e; exact ⟨p, t, by omega, by omega, by omega, rfl, rfl, HPQ.out.1, .inr (by rw [show mid + m - t - 1 = x by omega]; exact HL.out), HX.out.1, HX.out.2⟩)
       case measure => (have := HT.out; simp [intOf]; omega)
      intro u i o ρ hR ho hρ hc hf hd
      have hi : i < 14 := by
       have := (Array.getElem?_eq_some_iff.1 ho).1
       simpa using this
      obtain rfl | rfl | rfl | rfl | rfl | rfl | rfl | rfl | rfl | rfl | rfl | rfl | rfl | rfl : i = 0 \/ i = 1 \/ i = 2 \/ i = 3 \/ i = 4 \/ i = 5 \/ i = 6 \/ i = 7 \/ i = 8 \/ i = 9 \/ i = 10 \/ i = 11 \/ i = 12 \/ i = 13 := by omega
      all_goals (simp only [List.getElem?_toArray, List.getElem?_cons_zero, List.getElem?_cons_succ, Option.some.injEq] at ho; subst ho)
      ·have s4 : ρ (.tmp 4) = .func (.func 194) #[] #[] := (hρ 4 (by kernel_rfl)).trans rfl
       exact .inl ⟨rfl, .inl ⟨_, u, rfl, s4, hR, Below.refl _ _⟩⟩
      ·have s0 : ρ (.tmp 0) = .slice (some ⟨g, 0, none⟩) n c := (hρ 0 (by kernel_rfl)).trans rfl
       exact .inl ⟨rfl, .inl ⟨_, u, rfl, s0, hR, Below.refl _ _⟩⟩
      ·have s22 : ρ (.tmp 22) = .int .i64 (pp : Int) := (hρ 22 (by kernel_rfl)).trans rfl
       exact .inl ⟨rfl, .inl ⟨_, u, rfl, s22, hR, Below.refl _ _⟩⟩
      ·have s23 : ρ (.tmp 23) = .int .i64 (t : Int) := (hρ 23 (by kernel_rfl)).trans rfl
       exact .inl ⟨rfl, .inl ⟨_, u, rfl, s23, hR, Below.refl _ _⟩⟩
      ·have h2 : ρ (.tmp 160) = .int .i64 (pp : Int) := hd ⟨2, .data⟩ (by simp) rfl 160 rfl
       have h3 : ρ (.tmp 161) = .int .i64 (t : Int) := hd ⟨3, .data⟩ (by simp) rfl 161 rfl
       exact .inl ⟨rfl, .inl ⟨.int .i64 (x : Int), u, run_bin_op rfl h2 h3 (by go_simp), rfl, hR, Below.refl _ _⟩⟩
      ·have h1 : ρ (.tmp 159) = .slice (some ⟨g, 0, none⟩) n c := hd ⟨1, .data⟩ (by simp) rfl 159 rfl
       have h4 : ρ (.tmp 162) = .int .i64 (x : Int) := hd ⟨4, .data⟩ (by simp) rfl 162 rfl
       exact .inl ⟨rfl, .inl ⟨.pointer (some ⟨g, x * 7, none⟩), u, run_index_op rfl h1 h4 (by go_simp), rfl, hR, Below.refl _ _⟩⟩
      ·have R0 : RowU u g n h := HROW.out.1.below hR
       obtain ⟨d0, d1, d2, d3, d4, d5, d6⟩ := RowU.seven R0 (show x < n from by omega)
       clear R0
       have h5 : ρ (.tmp 163) = .pointer (some ⟨g, x * 7, none⟩) := hd ⟨5, .data⟩ (by simp) rfl 163 rfl
       have hr : (Instr.loadAt 110 (.pointer (some ⟨g, x * 7, none⟩))).run Tryz.prog u = .ok (.agg (ruc (h x))) u := by go_simp
       exact .inl ⟨rfl, .inl ⟨.agg (ruc (h x)), u, run_load_op rfl h5 hr, rfl, hR, Below.refl _ _⟩⟩
      ·have s0 : ρ (.tmp 0) = .slice (some ⟨g, 0, none⟩) n c := (hρ 0 (by kernel_rfl)).trans rfl
       exact .inl ⟨rfl, .inl ⟨_, u, rfl, s0, hR, Below.refl _ _⟩⟩
      ·have s23 : ρ (.tmp 23) = .int .i64 (t : Int) := (hρ 23 (by kernel_rfl)).trans rfl
       exact .inl ⟨rfl, .inl ⟨_, u, rfl, s23, hR, Below.refl _ _⟩⟩
      ·have h7 : ρ (.tmp 165) = .slice (some ⟨g, 0, none⟩) n c := hd ⟨7, .data⟩ (by simp) rfl 165 rfl
       have h8 : ρ (.tmp 166) = .int .i64 (t : Int) := hd ⟨8, .data⟩ (by simp) rfl 166 rfl
       exact .inl ⟨rfl, .inl ⟨.pointer (some ⟨g, t * 7, none⟩), u, run_index_op rfl h7 h8 (by go_simp), rfl, hR, Below.refl _ _⟩⟩
      ·have R0 : RowU u g n h := HROW.out.1.below hR
       obtain ⟨d0, d1, d2, d3, d4, d5, d6⟩ := RowU.seven R0 (show t < n from by omega)
       clear R0
       have h9 : ρ (.tmp 167) = .pointer (some ⟨g, t * 7, none⟩) := hd ⟨9, .data⟩ (by simp) rfl 167 rfl
       have hr : (Instr.loadAt 110 (.pointer (some ⟨g, t * 7, none⟩))).run Tryz.prog u = .ok (.agg (ruc (h t))) u := by go_simp
       exact .inl ⟨rfl, .inl ⟨.agg (ruc (h t)), u, run_load_op rfl h9 hr, rfl, hR, Below.refl _ _⟩⟩
      ·have h6 : ρ (.tmp 164) = .agg (ruc (h x)) := hd ⟨6, .data⟩ (by simp) rfl 164 rfl
       have h10 : ρ (.tmp 168) = .agg (ruc (h t)) := hd ⟨10, .data⟩ (by simp) rfl 168 rfl
       have h0 : ρ (.tmp 158) = .func (.func 194) #[] #[] := hd ⟨0, .data⟩ (by simp) rfl 158 rfl
       refine .inl ⟨rfl, .inr ⟨_, _, run_callv_op rfl h0 (args := #[.agg (ruc (h x)), .agg (ruc (h t))]) (by simp [h6, h10]) (by kernel_rfl), ?_⟩⟩
       refine (byPlaces_any (h x) (h t) _).mono ?_
       rintro e u' ⟨rfl, b'⟩
       exact ⟨_, rfl, rfl, bel_next hR b', b'⟩
      ·have h11 : ρ (.tmp 169) = .int .i64 (cmpR (h x) (h t)) := hd ⟨11, .data⟩ (by simp) rfl 169 rfl
       exact .inl ⟨rfl, .inl ⟨.bool true, u, run_bin_op rfl h11 (hc _) (by go_simp), rfl, hR, Below.refl _ _⟩⟩
      have h12 : ρ (.tmp 170) = .bool true := hd ⟨12, .data⟩ (by simp) rfl 170 rfl
      exact .inl ⟨rfl, .inl ⟨.bool false, u, run_un_op rfl h12 (by go_simp), rfl, hR, Below.refl _ _⟩⟩
     have hc0 : ¬ cmpR (h x) (h t) < 0 := fun e => hx ((cmpR_lt _ _).1 e)
     have HL : Hid (leR (f t) (f x)) := by rw [<- hh]; exact hx
     clear hx hh
     go_wp2
     refine wp_region_any (by kernel_rfl) ?_
     refine wpAny_vals (fun u => Below wr.heap.size wr u) (fun i v u => match i with
      | 0 => v = .func (.func 194) #[] #[]
      | 1 => v = .slice (some ⟨g, 0, none⟩) n c
      | 2 => v = .int .i64 (pp : Int)
      | 3 => v = .int .i64 (t : Int)
      | 4 => v = .int .i64 (x : Int)
      | 5 => v = .pointer (some ⟨g, x * 7, none⟩)
      | 6 => v = .agg (ruc (h x))
      | 7 => v = .slice (some ⟨g, 0, none⟩) n c
      | 8 => v = .int .i64 (t : Int)
      | 9 => v = .pointer (some ⟨g, t * 7, none⟩)
      | 10 => v = .agg (ruc (h t))
      | 11 => v = .int .i64 (cmpR (h x) (h t))
      | 12 => v = .bool false
      | 13 => v = .bool true
      | _ => True) (by kernel_rfl) (by kernel_rfl) (fun _ _ _ _ h _ => h) (Below.refl _ _).drew ?_ ?_ _ _ rfl (by decide) (fun i => by simp [Array.getD]; try (split <;> rfl))
     ·intro vs u hR hall
      have e16 : vs 13 = .bool true := hall 13 (by simp)
      simp only [putsL]
      rw [e16]
      clear hall e16
      have HX : Hid (RowU u g n h /\ Below w0.heap.size w0 u) := ⟨HROW.out.1.below hR, bel_next HROW.out.2 hR⟩
      clear hR HROW
      go_simp
      go_wp2
      go_roundw
      case rel => (have := HT.out; have e := HF.out; subst e; exact ⟨t + 1, q, by omega, by omega, by omega, by go_num, rfl, .inr (by rw [Nat.add_sub_cancel, show mid + m - (t + 1) = x by omega]; exact HL.out), HPQ.out.2, HX.out.1, HX.out.2⟩)
      case measure => (have := HT.out; simp [intOf]; omega)
     intro u i o ρ hR ho hρ hc hf hd
     have hi : i < 14 := by
      have := (Array.getElem?_eq_some_iff.1 ho).1
      simpa using this
     obtain rfl | rfl | rfl | rfl | rfl | rfl | rfl | rfl | rfl | rfl | rfl | rfl | rfl | rfl : i = 0 \/ i = 1 \/ i = 2 \/ i = 3 \/ i = 4 \/ i = 5 \/ i = 6 \/ i = 7 \/ i = 8 \/ i = 9 \/ i = 10 \/ i = 11 \/ i = 12 \/ i = 13 := by omega
     all_goals (simp only [List.getElem?_toArray, List.getElem?_cons_zero, List.getElem?_cons_succ, Option.some.injEq] at ho; subst ho)
     ·have s4 : ρ (.tmp 4) = .func (.func 194) #[] #[] := (hρ 4 (by kernel_rfl)).trans rfl
      exact .inl ⟨rfl, .inl ⟨_, u, rfl, s4, hR, Below.refl _ _⟩⟩
     ·have s0 : ρ (.tmp 0) = .slice (some ⟨g, 0, none⟩) n c := (hρ 0 (by kernel_rfl)).trans rfl
      exact .inl ⟨rfl, .inl ⟨_, u, rfl, s0, hR, Below.refl _ _⟩⟩
     ·have s22 : ρ (.tmp 22) = .int .i64 (pp : Int) := (hρ 22 (by kernel_rfl)).trans rfl
      exact .inl ⟨rfl, .inl ⟨_, u, rfl, s22, hR, Below.refl _ _⟩⟩
     ·have s23 : ρ (.tmp 23) = .int .i64 (t : Int) := (hρ 23 (by kernel_rfl)).trans rfl
      exact .inl ⟨rfl, .inl ⟨_, u, rfl, s23, hR, Below.refl _ _⟩⟩
     ·have h2 : ρ (.tmp 160) = .int .i64 (pp : Int) := hd ⟨2, .data⟩ (by simp) rfl 160 rfl
      have h3 : ρ (.tmp 161) = .int .i64 (t : Int) := hd ⟨3, .data⟩ (by simp) rfl 161 rfl
      exact .inl ⟨rfl, .inl ⟨.int .i64 (x : Int), u, run_bin_op rfl h2 h3 (by go_simp), rfl, hR, Below.refl _ _⟩⟩
     ·have h1 : ρ (.tmp 159) = .slice (some ⟨g, 0, none⟩) n c := hd ⟨1, .data⟩ (by simp) rfl 159 rfl
      have h4 : ρ (.tmp 162) = .int .i64 (x : Int) := hd ⟨4, .data⟩ (by simp) rfl 162 rfl
      exact .inl ⟨rfl, .inl ⟨.pointer (some ⟨g, x * 7, none⟩), u, run_index_op rfl h1 h4 (by go_simp), rfl, hR, Below.refl _ _⟩⟩
     ·have R0 : RowU u g n h := HROW.out.1.below hR
      obtain ⟨d0, d1, d2, d3, d4, d5, d6⟩ := RowU.seven R0 (show x < n from by omega)
      clear R0
      have h5 : ρ (.tmp 163) = .pointer (some ⟨g, x * 7, none⟩) := hd ⟨5, .data⟩ (by simp) rfl 163 rfl
      have hr : (Instr.loadAt 110 (.pointer (some ⟨g, x * 7, none⟩))).run Tryz.prog u = .ok (.agg (ruc (h x))) u := by go_simp
      exact .inl ⟨rfl, .inl ⟨.agg (ruc (h x)), u, run_load_op rfl h5 hr, rfl, hR, Below.refl _ _⟩⟩
     ·have s0 : ρ (.tmp 0) = .slice (some ⟨g, 0, none⟩) n c := (hρ 0 (by kernel_rfl)).trans rfl
      exact .inl ⟨rfl, .inl ⟨_, u, rfl, s0, hR, Below.refl _ _⟩⟩
     ·have s23 : ρ (.tmp 23) = .int .i64 (t : Int) := (hρ 23 (by kernel_rfl)).trans rfl
      exact .inl ⟨rfl, .inl ⟨_, u, rfl, s23, hR, Below.refl _ _⟩⟩
     ·have h7 : ρ (.tmp 165) = .slice (some ⟨g, 0, none⟩) n c := hd ⟨7, .data⟩ (by simp) rfl 165 rfl
      have h8 : ρ (.tmp 166) = .int .i64 (t : Int) := hd ⟨8, .data⟩ (by simp) rfl 166 rfl
      exact .inl ⟨rfl, .inl ⟨.pointer (some ⟨g, t * 7, none⟩), u, run_index_op rfl h7 h8 (by go_simp), rfl, hR, Below.refl _ _⟩⟩
     ·have R0 : RowU u g n h := HROW.out.1.below hR
      obtain ⟨d0, d1, d2, d3, d4, d5, d6⟩ := RowU.seven R0 (show t < n from by omega)
      clear R0
      have h9 : ρ (.tmp 167) = .pointer (some ⟨g, t * 7, none⟩) := hd ⟨9, .data⟩ (by simp) rfl 167 rfl
      have hr : (Instr.loadAt 110 (.pointer (some ⟨g, t * 7, none⟩))).run Tryz.prog u = .ok (.agg (ruc (h t))) u := by go_simp
      exact .inl ⟨rfl, .inl ⟨.agg (ruc (h t)), u, run_load_op rfl h9 hr, rfl, hR, Below.refl _ _⟩⟩
     ·have h6 : ρ (.tmp 164) = .agg (ruc (h x)) := hd ⟨6, .data⟩ (by simp) rfl 164 rfl
      have h10 : ρ (.tmp 168) = .agg (ruc (h t)) := hd ⟨10, .data⟩ (by simp) rfl 168 rfl
      have h0 : ρ (.tmp 158) = .func (.func 194) #[] #[] := hd ⟨0, .data⟩ (by simp) rfl 158 rfl
      refine .inl ⟨rfl, .inr ⟨_, _, run_callv_op rfl h0 (args := #[.agg (ruc (h x)), .agg (ruc (h t))]) (by simp [h6, h10]) (by kernel_rfl), ?_⟩⟩
      refine (byPlaces_any (h x) (h t) _).mono ?_
      rintro e u' ⟨rfl, b'⟩
      exact ⟨_, rfl, rfl, bel_next hR b', b'⟩
     ·have h11 : ρ (.tmp 169) = .int .i64 (cmpR (h x) (h t)) := hd ⟨11, .data⟩ (by simp) rfl 169 rfl
      exact .inl ⟨rfl, .inl ⟨.bool false, u, run_bin_op rfl h11 (hc _) (by go_simp), rfl, hR, Below.refl _ _⟩⟩
     have h12 : ρ (.tmp 170) = .bool false := hd ⟨12, .data⟩ (by simp) rfl 170 rfl
     exact .inl ⟨rfl, .inl ⟨.bool true, u, run_un_op rfl h12 (by go_simp), rfl, hR, Below.refl _ _⟩⟩
    have hi : ¬ (p : Int) < (q : Int) := by omega
    obtain rfl : p = q := by omega
    have HC : Hid (Cutd f a m b mid p) := by
     have hM := HM.out
     refine ⟨hM.1, by omega, by omega, by omega, ⟨fun _ => ⟨by omega, by omega⟩, fun _ => ⟨by omega, by omega⟩⟩, ?_, ?_⟩
     ·rcases HPQ.out.1 with e0 | e0
      ·exact .inl ⟨hmid, by omega⟩
      exact .inr (.inr e0)
     rcases HPQ.out.2 with e0 | e0
     ·exact .inl ⟨hmid, by omega⟩
     exact .inr (.inr e0)
    obtain ⟨e, he⟩ : ∃ e, e = mid + m - p := ⟨_, rfl⟩
    have we : IntKind.i64.wrap ((nn : Int) - (p : Int)) = (e : Int) := by have := HM.out; have := HPP.out; rw [IntKind.wrap_i64]; omega
    have HE : Hid (e = mid + m - p) := he
    have HIN : Hid (a <= p /\ p <= m /\ m <= e /\ e <= b /\ p <= mid /\ mid <= e /\ a <= mid /\ mid < b /\ a < mid) := by
     have := HC.out.in'
     have := HM.out
     show _ /\ _
     omega
    have HR1 : Hid (RowU wr g n f /\ Below w0.heap.size w0 wr) := ⟨hrow, hbl⟩
    clear hrow hbl he HPQ
    obtain ⟨b1, hb1⟩ : ∃ b1 : Bool, b1 = decide (p < m /\ m < e) := ⟨_, rfl⟩
    have HB1 : Hid (b1 = decide (p < m /\ m < e)) := hb1
    clear hb1
    go_upto_region 39 with fail
    go_cut [185] from 178 to 185 (fun sv wx => sv = .bool b1 /\ wx = wr)
    case first =>
     by_cases c1 : p < m
     ·have d1 : (p : Int) < (m : Int) := by omega
      by_cases c2 : m < e
      ·have d2 : (m : Int) < (e : Int) := by omega
       go_wp2_with fail
       go_meet
       exact ⟨by rw [HB1.out, decide_eq_true ⟨c1, c2⟩], rfl⟩
      have d2 : ¬ (m : Int) < (e : Int) := by omega
      go_wp2_with fail
      go_meet
      exact ⟨by rw [HB1.out, decide_eq_false (fun h => c2 h.2)], rfl⟩
     have d1 : ¬ (p : Int) < (m : Int) := by omega
     go_wp2_with fail
     go_meet
     exact ⟨by rw [HB1.out, decide_eq_false (fun h => c1 h.1)], rfl⟩
    case rest =>
    obtain ⟨rfl, rfl⟩ := hcut
    go_upto_if 185 with fail
    go_cut [] (fun wx => RowU wx g n (fun k => f (rtI p m e k)) /\ Below w0.heap.size w0 wx)
    case first =>
     cases b1 with
     | true =>
      have c1 := of_decide_eq_true HB1.out.symm
      go_wp2_with fail
      refine (rotate_any g n c p m e f w0 _ HR1.out.2 hg HR1.out.1 c1.1 c1.2 (by have := HIN.out; omega) hn).mono ?_
      rintro ee w1 ⟨rfl, R1, B1⟩
      have HX : Hid (RowU w1 g n (fun k => f (rtI p m e k)) /\ Below w0.heap.size w0 w1) := ⟨R1, B1⟩
      clear HR1 R1 B1
      go_wp2_with fail
      go_meet
      exact HX.out
     | false =>
      have c1 := of_decide_eq_false HB1.out.symm
      have HX : Hid (RowU _ g n (fun k => f (rtI p m e k)) /\ Below w0.heap.size w0 _) := ⟨RowU.ext HR1.out.1 (fun k => congrArg f (by have := HIN.out; unfold rtI; (repeat' split) <;> omega)), HR1.out.2⟩
      clear HR1
      go_wp2_with fail
      go_meet
      exact HX.out
    case rest =>
    obtain ⟨RC, BC⟩ := hcut
    have HR2 : Hid (RowU wc g n (fun k => f (rtI p m e k)) /\ Below w0.heap.size w0 wc) := ⟨RC, BC⟩
    have HRUN : Hid (SortedOn (fun k => f (rtI p m e k)) a p /\ SortedOn (fun k => f (rtI p m e k)) p mid /\ SortedOn (fun k => f (rtI p m e k)) mid e /\ SortedOn (fun k => f (rtI p m e k)) e b) := by
     have := HC.out.runs HSS.out.1 HSS.out.2
     rw [<- HE.out] at this
     exact this
    clear RC BC HR1
    obtain ⟨b2, hb2⟩ : ∃ b2 : Bool, b2 = decide (a < p /\ p < mid) := ⟨_, rfl⟩
    have HB2 : Hid (b2 = decide (a < p /\ p < mid)) := hb2
    clear hb2
    obtain ⟨W2, hW2⟩ : ∃ W2, W2 = wc := ⟨_, rfl⟩
    rw [<- hW2] at HR2 ⊢
    clear hW2
    go_upto_region 41 with fail
    go_cut [199] from 192 to 199 (fun sv wx => sv = .bool b2 /\ wx = W2)
    case first =>
     by_cases c1 : a < p
     ·have d1 : (a : Int) < (p : Int) := by omega
      by_cases c2 : p < mid
      ·have d2 : (p : Int) < (mid : Int) := by omega
       go_wp2_with fail
       go_meet
       exact ⟨by rw [HB2.out, decide_eq_true ⟨c1, c2⟩], rfl⟩
      have d2 : ¬ (p : Int) < (mid : Int) := by omega
      go_wp2_with fail
      go_meet
      exact ⟨by rw [HB2.out, decide_eq_false (fun h => c2 h.2)], rfl⟩
     have d1 : ¬ (a : Int) < (p : Int) := by omega
     go_wp2_with fail
     go_meet
     exact ⟨by rw [HB2.out, decide_eq_false (fun h => c1 h.1)], rfl⟩
    case rest =>
    obtain ⟨rfl, rfl⟩ := hcut
    go_upto_if 199 with fail
    go_cut [] (fun wx => ∃ f1, RowU wx g n f1 /\ PermIn a mid (fun k => f (rtI p m e k)) f1 /\ SortedOn f1 a mid /\ Below w0.heap.size w0 wx)
    case first =>
     cases b2 with
     | true =>
      have c1 := of_decide_eq_true HB2.out.symm
      go_wp2_with fail
      refine (HIH.out g n c a p mid (fun k => f (rtI p m e k)) w0 _ HR2.out.2 hg HR2.out.1 c1.1 c1.2 (by have := HIN.out; omega) hn HRUN.out.1 HRUN.out.2.1 (by have := HIN.out; have := HDD.out; omega)).mono ?_
      rintro ee w1 ⟨rfl, f1, R1, P1, S1, B1⟩
      have HX : Hid (∃ f1, RowU w1 g n f1 /\ PermIn a mid (fun k => f (rtI p m e k)) f1 /\ SortedOn f1 a mid /\ Below w0.heap.size w0 w1) := ⟨f1, R1, P1, S1, B1⟩
      clear HR2 R1 B1 P1 S1
      go_wp2_with fail
      go_meet
      exact HX.out
     | false =>
      have c1 := of_decide_eq_false HB2.out.symm
      have HSO : Hid (SortedOn (fun k => f (rtI p m e k)) a mid) := (by
       have hI := HIN.out
       have h8 := HRUN.out.1
       have h9 := HRUN.out.2.1
       by_cases e9 : mid = p
       ·rw [e9]; exact h8
       rw [show a = p by omega]; exact h9)
      have HX : Hid (∃ f1, RowU _ g n f1 /\ PermIn a mid (fun k => f (rtI p m e k)) f1 /\ SortedOn f1 a mid /\ Below w0.heap.size w0 _) := ⟨_, HR2.out.1, PermIn.refl _ _ _, HSO.out, HR2.out.2⟩
      clear HR2
      go_wp2_with fail
      go_meet
      exact HX.out
    case rest =>
    obtain ⟨f1, R1, P1, S1, B1⟩ := hcut
    have HR3 : Hid (RowU wc g n f1 /\ PermIn a mid (fun k => f (rtI p m e k)) f1 /\ SortedOn f1 a mid /\ Below w0.heap.size w0 wc) := ⟨R1, P1, S1, B1⟩
    have HRU : Hid (SortedOn f1 mid e /\ SortedOn f1 e b) := by
     have hI := HIN.out
     refine ⟨fun x y hx hxy hy => ?_, fun x y hx hxy hy => ?_⟩
     ·rw [P1.out (.inr hx), P1.out (.inr (by omega))]; exact HRUN.out.2.2.1 x y hx hxy hy
     rw [P1.out (.inr (by omega)), P1.out (.inr (by omega))]; exact HRUN.out.2.2.2 x y hx hxy hy
    have HFIN : Hid (∀ f2, PermIn mid b f1 f2 -> SortedOn f2 mid b -> PermIn a b f f2 /\ SortedOn f2 a b) := by
     intro f2 P2 S2
     have hI := HIN.out
     refine ⟨((PermIn.rot f (show p <= m by omega) (show m <= e by omega)).mono (by omega) (by omega)).trans ((P1.mono (Nat.le_refl _) (by omega)).trans (P2.mono (by omega) (Nat.le_refl _))), sorted_halves (by omega) (by omega) (fun x y hx hx' hy hy' => ?_) P1 S1 P2 S2⟩
     have h9 := HC.out.cross HSS.out.1 HSS.out.2 hx hx' hy hy'
     rw [<- HE.out] at h9
     exact h9
    clear R1 P1 S1 B1 HR2 HRUN
    by_cases c1 : mid < e
    ·have d1 : (mid : Int) < (e : Int) := by omega
     by_cases c2 : e < b
     ·have d2 : (e : Int) < (b : Int) := by omega
      go_wp2_with fail
      refine (HIH.out g n c mid e b f1 w0 _ HR3.out.2.2.2 hg HR3.out.1 c1 c2 hbn hn HRU.out.1 HRU.out.2 (by have := HIN.out; have := HDD.out; omega)).mono ?_
      rintro ee w1 ⟨rfl, f2, R2, P2, S2, B2⟩
      have HX : Hid (∃ f', RowU w1 g n f' /\ PermIn a b f f' /\ SortedOn f' a b /\ Below w0.heap.size w0 w1) := ⟨f2, R2, (HFIN.out f2 P2 S2).1, (HFIN.out f2 P2 S2).2, B2⟩
      clear R2 P2 S2 B2 HR3 HFIN HRU
      go_wp2
      refine bodyPost_end (v := .tuple #[]) (by simp [results, Tryz.results273, go_sem]) rfl ⟨rfl, HX.out⟩
     have d2 : ¬ (e : Int) < (b : Int) := by omega
     have HX : Hid (∃ f', RowU wc g n f' /\ PermIn a b f f' /\ SortedOn f' a b /\ Below w0.heap.size w0 wc) := (by
      have h8 : SortedOn f1 mid b := by have := HIN.out; rw [show b = e by omega]; exact HRU.out.1
      exact ⟨f1, HR3.out.1, (HFIN.out f1 (PermIn.refl _ _ _) h8).1, (HFIN.out f1 (PermIn.refl _ _ _) h8).2, HR3.out.2.2.2⟩)
     clear HR3 HFIN HRU
     go_wp2
     refine bodyPost_end (v := .tuple #[]) (by simp [results, Tryz.results273, go_sem]) rfl ⟨rfl, HX.out⟩
    have d1 : ¬ (mid : Int) < (e : Int) := by omega
    have HX : Hid (∃ f', RowU wc g n f' /\ PermIn a b f f' /\ SortedOn f' a b /\ Below w0.heap.size w0 wc) := (by
     have h8 : SortedOn f1 mid b := by have := HIN.out; rw [show mid = e by omega]; exact HRU.out.2
     exact ⟨f1, HR3.out.1, (HFIN.out f1 (PermIn.refl _ _ _) h8).1, (HFIN.out f1 (PermIn.refl _ _ _) h8).2, HR3.out.2.2.2⟩)
    clear HR3 HFIN HRU
    go_wp2
    refine bodyPost_end (v := .tuple #[]) (by simp [results, Tryz.results273, go_sem]) rfl ⟨rfl, HX.out⟩
  have c0 : ¬ (mid : Int) < (m : Int) := by omega
  have HM : Hid (mid = (a + b) / 2 /\ a <= m /\ mid < b /\ mid + m - a <= b) := ⟨hM, by omega, by omega, by omega⟩
  clear sl sr hD hr hb ih hA hB hM hN hP
  go_enter Tryz.func273, Tryz.ntmps273
  go_wp2
  go_loopw [20, 21] (fun i j wr => ∃ (p q : Nat), a <= p /\ p <= q /\ q <= m /\ i = .int .i64 p /\ j = .int .i64 q /\ (p = a \/ leR (f (p - 1)) (f (mid + m - p))) /\ (q = m \/ ltR (f (mid + m - q - 1)) (f q)) /\ RowU wr g n f /\ Below w0.heap.size w0 wr) (fun i j _ => (intOf j).toNat - (intOf i).toNat)
  case atStart => exact ⟨a, m, Nat.le_refl _, by have := HM.out; omega, Nat.le_refl _, rfl, rfl, .inl rfl, .inl rfl, HR0.out.1, HR0.out.2⟩
  case round =>
   clear HR0
   obtain ⟨p, q, hmp, hpq, hqb, rfl, rfl, i1, i2, hrow, hbl⟩ := hrel
   have HPQ : Hid ((p = a \/ leR (f (p - 1)) (f (mid + m - p))) /\ (q = m \/ ltR (f (mid + m - q - 1)) (f q))) := ⟨i1, i2⟩
   clear i1 i2
   by_cases hlt : p < q
   ·have hi : (p : Int) < (q : Int) := by omega
    obtain ⟨t, ht⟩ : ∃ t, t = (p + q) / 2 := ⟨_, rfl⟩
    obtain ⟨x, hx0⟩ : ∃ x, x = mid + m - 1 - t := ⟨_, rfl⟩
    have ht' : ((p : Int) + (q : Int)) / 2 = (t : Int) := by omega
    have HT : Hid (p <= t /\ t < q /\ x = mid + m - 1 - t) := (⟨by omega, by omega, hx0⟩ : p <= t /\ t < q /\ x = mid + m - 1 - t)
    have htn2 : t < n := by have := HM.out; omega
    have hxn2 : x < n := by have := HM.out; omega
    have htn : (t : Int) < (n : Int) := by omega
    have hxn : (x : Int) < (n : Int) := by omega
    have wx : IntKind.i64.wrap ((pp : Int) - (t : Int)) = (x : Int) := by have := HM.out; have := HPP.out; rw [IntKind.wrap_i64]; omega
    have wt : IntKind.i64.wrap ((t : Int) + 1) = (t : Int) + 1 := by rw [IntKind.wrap_i64]; omega
    clear ht hx0
    obtain ⟨h, hh⟩ : ∃ h : Nat -> Ru, h = f := ⟨_, rfl⟩
    have HF : Hid (h = f) := hh
    have HROW : Hid (RowU wr g n h /\ Below w0.heap.size w0 wr) := ⟨by rw [hh]; exact hrow, hbl⟩
    clear hrow hbl
    by_cases hx : ltR (h x) (h t)
    ·have hc0 : cmpR (h x) (h t) < 0 := (cmpR_lt _ _).2 hx
     have HL : Hid (ltR (f x) (f t)) := by rw [<- hh]; exact hx
     clear hx hh
     go_wp2
     refine wp_region_any (by kernel_rfl) ?_
     refine wpAny_vals (fun u => Below wr.heap.size wr u) (fun i v u => match i with
      | 0 => v = .func (.func 194) #[] #[]
      | 1 => v = .slice (some ⟨g, 0, none⟩) n c
      | 2 => v = .int .i64 (pp : Int)
      | 3 => v = .int .i64 (t : Int)
      | 4 => v = .int .i64 (x : Int)
      | 5 => v = .pointer (some ⟨g, x * 7, none⟩)
      | 6 => v = .agg (ruc (h x))
      | 7 => v = .slice (some ⟨g, 0, none⟩) n c
      | 8 => v = .int .i64 (t : Int)
      | 9 => v = .pointer (some ⟨g, t * 7, none⟩)
      | 10 => v = .agg (ruc (h t))
      | 11 => v = .int .i64 (cmpR (h x) (h t))
      | 12 => v = .bool true
      | 13 => v = .bool false
      | _ => True) (by kernel_rfl) (by kernel_rfl) (fun _ _ _ _ h _ => h) (Below.refl _ _).drew ?_ ?_ _ _ rfl (by decide) (fun i => by simp [Array.getD]; try (split <;> rfl))
     ·intro vs u hR hall
      have e16 : vs 13 = .bool false := hall 13 (by simp)
      simp only [putsL]
      rw [e16]
      clear hall e16
      have HX : Hid (RowU u g n h /\ Below w0.heap.size w0 u) := ⟨HROW.out.1.below hR, bel_next HROW.out.2 hR⟩
      clear hR HROW
      go_simp
      go_wp2
      go_roundw
      case rel => (have := HT.out; have e := HF.out; subst e; exact ⟨p, t, by omega, by omega, by omega, rfl, rfl, HPQ.out.1, .inr (by rw [show mid + m - t - 1 = x by omega]; exact HL.out), HX.out.1, HX.out.2⟩)
      case measure => (have := HT.out; simp [intOf]; omega)
     intro u i o ρ hR ho hρ hc hf hd
     have hi : i < 14 := by
      have := (Array.getElem?_eq_some_iff.1 ho).1
      simpa using this
     obtain rfl | rfl | rfl | rfl | rfl | rfl | rfl | rfl | rfl | rfl | rfl | rfl | rfl | rfl : i = 0 \/ i = 1 \/ i = 2 \/ i = 3 \/ i = 4 \/ i = 5 \/ i = 6 \/ i = 7 \/ i = 8 \/ i = 9 \/ i = 10 \/ i = 11 \/ i = 12 \/ i = 13 := by omega
     all_goals (simp only [List.getElem?_toArray, List.getElem?_cons_zero, List.getElem?_cons_succ, Option.some.injEq] at ho; subst ho)
     ·have s4 : ρ (.tmp 4) = .func (.func 194) #[] #[] := (hρ 4 (by kernel_rfl)).trans rfl
      exact .inl ⟨rfl, .inl ⟨_, u, rfl, s4, hR, Below.refl _ _⟩⟩
     ·have s0 : ρ (.tmp 0) = .slice (some ⟨g, 0, none⟩) n c := (hρ 0 (by kernel_rfl)).trans rfl
      exact .inl ⟨rfl, .inl ⟨_, u, rfl, s0, hR, Below.refl _ _⟩⟩
     ·have s22 : ρ (.tmp 22) = .int .i64 (pp : Int) := (hρ 22 (by kernel_rfl)).trans rfl
      exact .inl ⟨rfl, .inl ⟨_, u, rfl, s22, hR, Below.refl _ _⟩⟩
     ·have s23 : ρ (.tmp 23) = .int .i64 (t : Int) := (hρ 23 (by kernel_rfl)).trans rfl
      exact .inl ⟨rfl, .inl ⟨_, u, rfl, s23, hR, Below.refl _ _⟩⟩
     ·have h2 : ρ (.tmp 160) = .int .i64 (pp : Int) := hd ⟨2, .data⟩ (by simp) rfl 160 rfl
      have h3 : ρ (.tmp 161) = .int .i64 (t : Int) := hd ⟨3, .data⟩ (by simp) rfl 161 rfl
      exact .inl ⟨rfl, .inl ⟨.int .i64 (x : Int), u, run_bin_op rfl h2 h3 (by go_simp), rfl, hR, Below.refl _ _⟩⟩
     ·have h1 : ρ (.tmp 159) = .slice (some ⟨g, 0, none⟩) n c := hd ⟨1, .data⟩ (by simp) rfl 159 rfl
      have h4 : ρ (.tmp 162) = .int .i64 (x : Int) := hd ⟨4, .data⟩ (by simp) rfl 162 rfl
      exact .inl ⟨rfl, .inl ⟨.pointer (some ⟨g, x * 7, none⟩), u, run_index_op rfl h1 h4 (by go_simp), rfl, hR, Below.refl _ _⟩⟩
     ·have R0 : RowU u g n h := HROW.out.1.below hR
      obtain ⟨d0, d1, d2, d3, d4, d5, d6⟩ := RowU.seven R0 (show x < n from by omega)
      clear R0
      have h5 : ρ (.tmp 163) = .pointer (some ⟨g, x * 7, none⟩) := hd ⟨5, .data⟩ (by simp) rfl 163 rfl
      have hr : (Instr.loadAt 110 (.pointer (some ⟨g, x * 7, none⟩))).run Tryz.prog u = .ok (.agg (ruc (h x))) u := by go_simp
      exact .inl ⟨rfl, .inl ⟨.agg (ruc (h x)), u, run_load_op rfl h5 hr, rfl, hR, Below.refl _ _⟩⟩
     ·have s0 : ρ (.tmp 0) = .slice (some ⟨g, 0, none⟩) n c := (hρ 0 (by kernel_rfl)).trans rfl
      exact .inl ⟨rfl, .inl ⟨_, u, rfl, s0, hR, Below.refl _ _⟩⟩
     ·have s23 : ρ (.tmp 23) = .int .i64 (t : Int) := (hρ 23 (by kernel_rfl)).trans rfl
      exact .inl ⟨rfl, .inl ⟨_, u, rfl, s23, hR, Below.refl _ _⟩⟩
     ·have h7 : ρ (.tmp 165) = .slice (some ⟨g, 0, none⟩) n c := hd ⟨7, .data⟩ (by simp) rfl 165 rfl
      have h8 : ρ (.tmp 166) = .int .i64 (t : Int) := hd ⟨8, .data⟩ (by simp) rfl 166 rfl
      exact .inl ⟨rfl, .inl ⟨.pointer (some ⟨g, t * 7, none⟩), u, run_index_op rfl h7 h8 (by go_simp), rfl, hR, Below.refl _ _⟩⟩
     ·have R0 : RowU u g n h := HROW.out.1.below hR
      obtain ⟨d0, d1, d2, d3, d4, d5, d6⟩ := RowU.seven R0 (show t < n from by omega)
      clear R0
      have h9 : ρ (.tmp 167) = .pointer (some ⟨g, t * 7, none⟩) := hd ⟨9, .data⟩ (by simp) rfl 167 rfl
      have hr : (Instr.loadAt 110 (.pointer (some ⟨g, t * 7, none⟩))).run Tryz.prog u = .ok (.agg (ruc (h t))) u := by go_simp
      exact .inl ⟨rfl, .inl ⟨.agg (ruc (h t)), u, run_load_op rfl h9 hr, rfl, hR, Below.refl _ _⟩⟩
     ·have h6 : ρ (.tmp 164) = .agg (ruc (h x)) := hd ⟨6, .data⟩ (by simp) rfl 164 rfl
      have h10 : ρ (.tmp 168) = .agg (ruc (h t)) := hd ⟨10, .data⟩ (by simp) rfl 168 rfl
      have h0 : ρ (.tmp 158) = .func (.func 194) #[] #[] := hd ⟨0, .data⟩ (by simp) rfl 158 rfl
      refine .inl ⟨rfl, .inr ⟨_, _, run_callv_op rfl h0 (args := #[.agg (ruc (h x)), .agg (ruc (h t))]) (by simp [h6, h10]) (by kernel_rfl), ?_⟩⟩
      refine (byPlaces_any (h x) (h t) _).mono ?_
      rintro e u' ⟨rfl, b'⟩
      exact ⟨_, rfl, rfl, bel_next hR b', b'⟩
     ·have h11 : ρ (.tmp 169) = .int .i64 (cmpR (h x) (h t)) := hd ⟨11, .data⟩ (by simp) rfl 169 rfl
      exact .inl ⟨rfl, .inl ⟨.bool true, u, run_bin_op rfl h11 (hc _) (by go_simp), rfl, hR, Below.refl _ _⟩⟩
     have h12 : ρ (.tmp 170) = .bool true := hd ⟨12, .data⟩ (by simp) rfl 170 rfl
     exact .inl ⟨rfl, .inl ⟨.bool false, u, run_un_op rfl h12 (by go_simp), rfl, hR, Below.refl _ _⟩⟩
    have hc0 : ¬ cmpR (h x) (h t) < 0 := fun e => hx ((cmpR_lt _ _).1 e)
    have HL : Hid (leR (f t) (f x)) := by rw [<- hh]; exact hx
    clear hx hh
    go_wp2
    refine wp_region_any (by kernel_rfl) ?_
    refine wpAny_vals (fun u => Below wr.heap.size wr u) (fun i v u => match i with
     | 0 => v = .func (.func 194) #[] #[]
     | 1 => v = .slice (some ⟨g, 0, none⟩) n c
     | 2 => v = .int .i64 (pp : Int)
     | 3 => v = .int .i64 (t : Int)
     | 4 => v = .int .i64 (x : Int)
     | 5 => v = .pointer (some ⟨g, x * 7, none⟩)
     | 6 => v = .agg (ruc (h x))
     | 7 => v = .slice (some ⟨g, 0, none⟩) n c
     | 8 => v = .int .i64 (t : Int)
     | 9 => v = .pointer (some ⟨g, t * 7, none⟩)
     | 10 => v = .agg (ruc (h t))
     | 11 => v = .int .i64 (cmpR (h x) (h t))
     | 12 => v = .bool false
     | 13 => v = .bool true
     | _ => True) (by kernel_rfl) (by kernel_rfl) (fun _ _ _ _ h _ => h) (Below.refl _ _).drew ?_ ?_ _ _ rfl (by decide) (fun i => by simp [Array.getD]; try (split <;> rfl))
    ·intro vs u hR hall
     have e16 : vs 13 = .bool true := hall 13 (by simp)
     simp only [putsL]
     rw [e16]
     clear hall e16
     have HX : Hid (RowU u g n h /\ Below w0.heap.size w0 u) := ⟨HROW.out.1.below hR, bel_next HROW.out.2 hR⟩
     clear hR HROW
     go_simp
     go_wp2
     go_roundw
     case rel => (have := HT.out; have e := HF.out; subst e; exact ⟨t + 1, q, by omega, by omega, by omega, by go_num, rfl, .inr (by rw [Nat.add_sub_cancel, show mid + m - (t + 1) = x by omega]; exact HL.out), HPQ.out.2, HX.out.1, HX.out.2⟩)
     case measure => (have := HT.out; simp [intOf]; omega)
    intro u i o ρ hR ho hρ hc hf hd
    have hi : i < 14 := by
     have := (Array.getElem?_eq_some_iff.1 ho).1
     simpa using this
    obtain rfl | rfl | rfl | rfl | rfl | rfl | rfl | rfl | rfl | rfl | rfl | rfl | rfl | rfl : i = 0 \/ i = 1 \/ i = 2 \/ i = 3 \/ i = 4 \/ i = 5 \/ i = 6 \/ i = 7 \/ i = 8 \/ i = 9 \/ i = 10 \/ i = 11 \/ i = 12 \/ i = 13 := by omega
    all_goals (simp only [List.getElem?_toArray, List.getElem?_cons_zero, List.getElem?_cons_succ, Option.some.injEq] at ho; subst ho)
    ·have s4 : ρ (.tmp 4) = .func (.func 194) #[] #[] := (hρ 4 (by kernel_rfl)).trans rfl
     exact .inl ⟨rfl, .inl ⟨_, u, rfl, s4, hR, Below.refl _ _⟩⟩
    ·have s0 : ρ (.tmp 0) = .slice (some ⟨g, 0, none⟩) n c := (hρ 0 (by kernel_rfl)).trans rfl
     exact .inl ⟨rfl, .inl ⟨_, u, rfl, s0, hR, Below.refl _ _⟩⟩
    ·have s22 : ρ (.tmp 22) = .int .i64 (pp : Int) := (hρ 22 (by kernel_rfl)).trans rfl
     exact .inl ⟨rfl, .inl ⟨_, u, rfl, s22, hR, Below.refl _ _⟩⟩
    ·have s23 : ρ (.tmp 23) = .int .i64 (t : Int) := (hρ 23 (by kernel_rfl)).trans rfl
     exact .inl ⟨rfl, .inl ⟨_, u, rfl, s23, hR, Below.refl _ _⟩⟩
    ·have h2 : ρ (.tmp 160) = .int .i64 (pp : Int) := hd ⟨2, .data⟩ (by simp) rfl 160 rfl
     have h3 : ρ (.tmp 161) = .int .i64 (t : Int) := hd ⟨3, .data⟩ (by simp) rfl 161 rfl
     exact .inl ⟨rfl, .inl ⟨.int .i64 (x : Int), u, run_bin_op rfl h2 h3 (by go_simp), rfl, hR, Below.refl _ _⟩⟩
    ·have h1 : ρ (.tmp 159) = .slice (some ⟨g, 0, none⟩) n c := hd ⟨1, .data⟩ (by simp) rfl 159 rfl
     have h4 : ρ (.tmp 162) = .int .i64 (x : Int) := hd ⟨4, .data⟩ (by simp) rfl 162 rfl
     exact .inl ⟨rfl, .inl ⟨.pointer (some ⟨g, x * 7, none⟩), u, run_index_op rfl h1 h4 (by go_simp), rfl, hR, Below.refl _ _⟩⟩
    ·have R0 : RowU u g n h := HROW.out.1.below hR
     obtain ⟨d0, d1, d2, d3, d4, d5, d6⟩ := RowU.seven R0 (show x < n from by omega)
     clear R0
     have h5 : ρ (.tmp 163) = .pointer (some ⟨g, x * 7, none⟩) := hd ⟨5, .data⟩ (by simp) rfl 163 rfl
     have hr : (Instr.loadAt 110 (.pointer (some ⟨g, x * 7, none⟩))).run Tryz.prog u = .ok (.agg (ruc (h x))) u := by go_simp
     exact .inl ⟨rfl, .inl ⟨.agg (ruc (h x)), u, run_load_op rfl h5 hr, rfl, hR, Below.refl _ _⟩⟩
    ·have s0 : ρ (.tmp 0) = .slice (some ⟨g, 0, none⟩) n c := (hρ 0 (by kernel_rfl)).trans rfl
     exact .inl ⟨rfl, .inl ⟨_, u, rfl, s0, hR, Below.refl _ _⟩⟩
    ·have s23 : ρ (.tmp 23) = .int .i64 (t : Int) := (hρ 23 (by kernel_rfl)).trans rfl
     exact .inl ⟨rfl, .inl ⟨_, u, rfl, s23, hR, Below.refl _ _⟩⟩
    ·have h7 : ρ (.tmp 165) = .slice (some ⟨g, 0, none⟩) n c := hd ⟨7, .data⟩ (by simp) rfl 165 rfl
     have h8 : ρ (.tmp 166) = .int .i64 (t : Int) := hd ⟨8, .data⟩ (by simp) rfl 166 rfl
     exact .inl ⟨rfl, .inl ⟨.pointer (some ⟨g, t * 7, none⟩), u, run_index_op rfl h7 h8 (by go_simp), rfl, hR, Below.refl _ _⟩⟩
    ·have R0 : RowU u g n h := HROW.out.1.below hR
     obtain ⟨d0, d1, d2, d3, d4, d5, d6⟩ := RowU.seven R0 (show t < n from by omega)
     clear R0
     have h9 : ρ (.tmp 167) = .pointer (some ⟨g, t * 7, none⟩) := hd ⟨9, .data⟩ (by simp) rfl 167 rfl
     have hr : (Instr.loadAt 110 (.pointer (some ⟨g, t * 7, none⟩))).run Tryz.prog u = .ok (.agg (ruc (h t))) u := by go_simp
     exact .inl ⟨rfl, .inl ⟨.agg (ruc (h t)), u, run_load_op rfl h9 hr, rfl, hR, Below.refl _ _⟩⟩
    ·have h6 : ρ (.tmp 164) = .agg (ruc (h x)) := hd ⟨6, .data⟩ (by simp) rfl 164 rfl
     have h10 : ρ (.tmp 168) = .agg (ruc (h t)) := hd ⟨10, .data⟩ (by simp) rfl 168 rfl
     have h0 : ρ (.tmp 158) = .func (.func 194) #[] #[] := hd ⟨0, .data⟩ (by simp) rfl 158 rfl
     refine .inl ⟨rfl, .inr ⟨_, _, run_callv_op rfl h0 (args := #[.agg (ruc (h x)), .agg (ruc (h t))]) (by simp [h6, h10]) (by kernel_rfl), ?_⟩⟩
     refine (byPlaces_any (h x) (h t) _).mono ?_
     rintro e u' ⟨rfl, b'⟩
     exact ⟨_, rfl, rfl, bel_next hR b', b'⟩
    ·have h11 : ρ (.tmp 169) = .int .i64 (cmpR (h x) (h t)) := hd ⟨11, .data⟩ (by simp) rfl 169 rfl
     exact .inl ⟨rfl, .inl ⟨.bool false, u, run_bin_op rfl h11 (hc _) (by go_simp), rfl, hR, Below.refl _ _⟩⟩
    have h12 : ρ (.tmp 170) = .bool false := hd ⟨12, .data⟩ (by simp) rfl 170 rfl
    exact .inl ⟨rfl, .inl ⟨.bool true, u, run_un_op rfl h12 (by go_simp), rfl, hR, Below.refl _ _⟩⟩
   have hi : ¬ (p : Int) < (q : Int) := by omega
   obtain rfl : p = q := by omega
   have HC : Hid (Cutd f a m b mid p) := by
    have hM := HM.out
    refine ⟨hM.1, by omega, by omega, by omega, ⟨fun _ => ⟨by omega, by omega⟩, fun _ => ⟨by omega, by omega⟩⟩, ?_, ?_⟩
    ·rcases HPQ.out.1 with e0 | e0
     ·exact .inr (.inl ⟨by omega, e0⟩)
     exact .inr (.inr e0)
    rcases HPQ.out.2 with e0 | e0
    ·exact .inr (.inl ⟨by omega, e0⟩)
    exact .inr (.inr e0)
   obtain ⟨e, he⟩ : ∃ e, e = mid + m - p := ⟨_, rfl⟩
   have we : IntKind.i64.wrap ((nn : Int) - (p : Int)) = (e : Int) := by have := HM.out; have := HPP.out; rw [IntKind.wrap_i64]; omega
   have HE : Hid (e = mid + m - p) := he
   have HIN : Hid (a <= p /\ p <= m /\ m <= e /\ e <= b /\ p <= mid /\ mid <= e /\ a <= mid /\ mid < b /\ a < mid) := by
    have := HC.out.in'
    have := HM.out
    show _ /\ _
    omega
   have HR1 : Hid (RowU wr g n f /\ Below w0.heap.size w0 wr) := ⟨hrow, hbl⟩
   clear hrow hbl he HPQ
   obtain ⟨b1, hb1⟩ : ∃ b1 : Bool, b1 = decide (p < m /\ m < e) := ⟨_, rfl⟩
   have HB1 : Hid (b1 = decide (p < m /\ m < e)) := hb1
   clear hb1
   go_upto_region 39 with fail
   go_cut [185] from 178 to 185 (fun sv wx => sv = .bool b1 /\ wx = wr)
   case first =>
    by_cases c1 : p < m
    ·have d1 : (p : Int) < (m : Int) := by omega
     by_cases c2 : m < e
     ·have d2 : (m : Int) < (e : Int) := by omega
      go_wp2_with fail
      go_meet
      exact ⟨by rw [HB1.out, decide_eq_true ⟨c1, c2⟩], rfl⟩
     have d2 : ¬ (m : Int) < (e : Int) := by omega
     go_wp2_with fail
     go_meet
     exact ⟨by rw [HB1.out, decide_eq_false (fun h => c2 h.2)], rfl⟩
    have d1 : ¬ (p : Int) < (m : Int) := by omega
    go_wp2_with fail
    go_meet
    exact ⟨by rw [HB1.out, decide_eq_false (fun h => c1 h.1)], rfl⟩
   case rest =>
   obtain ⟨rfl, rfl⟩ := hcut
   go_upto_if 185 with fail
   go_cut [] (fun wx => RowU wx g n (fun k => f (rtI p m e k)) /\ Below w0.heap.size w0 wx)
   case first =>
    cases b1 with
    | true =>
     have c1 := of_decide_eq_true HB1.out.symm
     go_wp2_with fail
     refine (rotate_any g n c p m e f w0 _ HR1.out.2 hg HR1.out.1 c1.1 c1.2 (by have := HIN.out; omega) hn).mono ?_
     rintro ee w1 ⟨rfl, R1, B1⟩
     have HX : Hid (RowU w1 g n (fun k => f (rtI p m e k)) /\ Below w0.heap.size w0 w1) := ⟨R1, B1⟩
     clear HR1 R1 B1
     go_wp2_with fail
     go_meet
     exact HX.out
    | false =>
     have c1 := of_decide_eq_false HB1.out.symm
     have HX : Hid (RowU _ g n (fun k => f (rtI p m e k)) /\ Below w0.heap.size w0 _) := ⟨RowU.ext HR1.out.1 (fun k => congrArg f (by have := HIN.out; unfold rtI; (repeat' split) <;> omega)), HR1.out.2⟩
     clear HR1
     go_wp2_with fail
     go_meet
     exact HX.out
   case rest =>
   obtain ⟨RC, BC⟩ := hcut
   have HR2 : Hid (RowU wc g n (fun k => f (rtI p m e k)) /\ Below w0.heap.size w0 wc) := ⟨RC, BC⟩
   have HRUN : Hid (SortedOn (fun k => f (rtI p m e k)) a p /\ SortedOn (fun k => f (rtI p m e k)) p mid /\ SortedOn (fun k => f (rtI p m e k)) mid e /\ SortedOn (fun k => f (rtI p m e k)) e b) := by
    have := HC.out.runs HSS.out.1 HSS.out.2
    rw [<- HE.out] at this
    exact this
   clear RC BC HR1
   obtain ⟨b2, hb2⟩ : ∃ b2 : Bool, b2 = decide (a < p /\ p < mid) := ⟨_, rfl⟩
   have HB2 : Hid (b2 = decide (a < p /\ p < mid)) := hb2
   clear hb2
   obtain ⟨W2, hW2⟩ : ∃ W2, W2 = wc := ⟨_, rfl⟩
   rw [<- hW2] at HR2 ⊢
   clear hW2
   go_upto_region 41 with fail
   go_cut [199] from 192 to 199 (fun sv wx => sv = .bool b2 /\ wx = W2)
   case first =>
    by_cases c1 : a < p
    ·have d1 : (a : Int) < (p : Int) := by omega
     by_cases c2 : p < mid
     ·have d2 : (p : Int) < (mid : Int) := by omega
      go_wp2_with fail
      go_meet
      exact ⟨by rw [HB2.out, decide_eq_true ⟨c1, c2⟩], rfl⟩
     have d2 : ¬ (p : Int) < (mid : Int) := by omega
     go_wp2_with fail
     go_meet
     exact ⟨by rw [HB2.out, decide_eq_false (fun h => c2 h.2)], rfl⟩
    have d1 : ¬ (a : Int) < (p : Int) := by omega
    go_wp2_with fail
    go_meet
    exact ⟨by rw [HB2.out, decide_eq_false (fun h => c1 h.1)], rfl⟩
   case rest =>
   obtain ⟨rfl, rfl⟩ := hcut
   go_upto_if 199 with fail
   go_cut [] (fun wx => ∃ f1, RowU wx g n f1 /\ PermIn a mid (fun k => f (rtI p m e k)) f1 /\ SortedOn f1 a mid /\ Below w0.heap.size w0 wx)
   case first =>
    cases b2 with
    | true =>
     have c1 := of_decide_eq_true HB2.out.symm
     go_wp2_with fail
     refine (HIH.out g n c a p mid (fun k => f (rtI p m e k)) w0 _ HR2.out.2 hg HR2.out.1 c1.1 c1.2 (by have := HIN.out; omega) hn HRUN.out.1 HRUN.out.2.1 (by have := HIN.out; have := HDD.out; omega)).mono ?_
     rintro ee w1 ⟨rfl, f1, R1, P1, S1, B1⟩
     have HX : Hid (∃ f1, RowU w1 g n f1 /\ PermIn a mid (fun k => f (rtI p m e k)) f1 /\ SortedOn f1 a mid /\ Below w0.heap.size w0 w1) := ⟨f1, R1, P1, S1, B1⟩
     clear HR2 R1 B1 P1 S1
     go_wp2_with fail
     go_meet
     exact HX.out
    | false =>
     have c1 := of_decide_eq_false HB2.out.symm
     have HSO : Hid (SortedOn (fun k => f (rtI p m e k)) a mid) := (by
      have hI := HIN.out
      have h8 := HRUN.out.1
      have h9 := HRUN.out.2.1
      by_cases e9 : mid = p
      ·rw [e9]; exact h8
      rw [show a = p by omega]; exact h9)
     have HX : Hid (∃ f1, RowU _ g n f1 /\ PermIn a mid (fun k => f (rtI p m e k)) f1 /\ SortedOn f1 a mid /\ Below w0.heap.size w0 _) := ⟨_, HR2.out.1, PermIn.refl _ _ _, HSO.out, HR2.out.2⟩
     clear HR2
     go_wp2_with fail
     go_meet
     exact HX.out
   case rest =>
   obtain ⟨f1, R1, P1, S1, B1⟩ := hcut
   have HR3 : Hid (RowU wc g n f1 /\ PermIn a mid (fun k => f (rtI p m e k)) f1 /\ SortedOn f1 a mid /\ Below w0.heap.size w0 wc) := ⟨R1, P1, S1, B1⟩
   have HRU : Hid (SortedOn f1 mid e /\ SortedOn f1 e b) := by
    have hI := HIN.out
    refine ⟨fun x y hx hxy hy => ?_, fun x y hx hxy hy => ?_⟩
    ·rw [P1.out (.inr hx), P1.out (.inr (by omega))]; exact HRUN.out.2.2.1 x y hx hxy hy
    rw [P1.out (.inr (by omega)), P1.out (.inr (by omega))]; exact HRUN.out.2.2.2 x y hx hxy hy
   have HFIN : Hid (∀ f2, PermIn mid b f1 f2 -> SortedOn f2 mid b -> PermIn a b f f2 /\ SortedOn f2 a b) := by
    intro f2 P2 S2
    have hI := HIN.out
    refine ⟨((PermIn.rot f (show p <= m by omega) (show m <= e by omega)).mono (by omega) (by omega)).trans ((P1.mono (Nat.le_refl _) (by omega)).trans (P2.mono (by omega) (Nat.le_refl _))), sorted_halves (by omega) (by omega) (fun x y hx hx' hy hy' => ?_) P1 S1 P2 S2⟩
    have h9 := HC.out.cross HSS.out.1 HSS.out.2 hx hx' hy hy'
    rw [<- HE.out] at h9
    exact h9
   clear R1 P1 S1 B1 HR2 HRUN
   by_cases c1 : mid < e
   ·have d1 : (mid : Int) < (e : Int) := by omega
    by_cases c2 : e < b
    ·have d2 : (e : Int) < (b : Int) := by omega
     go_wp2_with fail
     refine (HIH.out g n c mid e b f1 w0 _ HR3.out.2.2.2 hg HR3.out.1 c1 c2 hbn hn HRU.out.1 HRU.out.2 (by have := HIN.out; have := HDD.out; omega)).mono ?_
     rintro ee w1 ⟨rfl, f2, R2, P2, S2, B2⟩
     have HX : Hid (∃ f', RowU w1 g n f' /\ PermIn a b f f' /\ SortedOn f' a b /\ Below w0.heap.size w0 w1) := ⟨f2, R2, (HFIN.out f2 P2 S2).1, (HFIN.out f2 P2 S2).2, B2⟩
     clear R2 P2 S2 B2 HR3 HFIN HRU
     go_wp2
     refine bodyPost_end (v := .tuple #[]) (by simp [results, Tryz.results273, go_sem]) rfl ⟨rfl, HX.out⟩
    have d2 : ¬ (e : Int) < (b : Int) := by omega
    have HX : Hid (∃ f', RowU wc g n f' /\ PermIn a b f f' /\ SortedOn f' a b /\ Below w0.heap.size w0 wc) := (by
     have h8 : SortedOn f1 mid b := by have := HIN.out; rw [show b = e by omega]; exact HRU.out.1
     exact ⟨f1, HR3.out.1, (HFIN.out f1 (PermIn.refl _ _ _) h8).1, (HFIN.out f1 (PermIn.refl _ _ _) h8).2, HR3.out.2.2.2⟩)
    clear HR3 HFIN HRU
    go_wp2
    refine bodyPost_end (v := .tuple #[]) (by simp [results, Tryz.results273, go_sem]) rfl ⟨rfl, HX.out⟩
   have d1 : ¬ (mid : Int) < (e : Int) := by omega
   have HX : Hid (∃ f', RowU wc g n f' /\ PermIn a b f f' /\ SortedOn f' a b /\ Below w0.heap.size w0 wc) := (by
    have h8 : SortedOn f1 mid b := by have := HIN.out; rw [show mid = e by omega]; exact HRU.out.2
    exact ⟨f1, HR3.out.1, (HFIN.out f1 (PermIn.refl _ _ _) h8).1, (HFIN.out f1 (PermIn.refl _ _ _) h8).2, HR3.out.2.2.2⟩)
   clear HR3 HFIN HRU
   go_wp2
   refine bodyPost_end (v := .tuple #[]) (by simp [results, Tryz.results273, go_sem]) rfl ⟨rfl, HX.out⟩
end Go.Proofs.YtkfgijkkffbpmaaGreat
namespace Go.Proofs.YtkfgijkkffbpmaaGreat
open Go.RowKit
theorem wpList_copy_run {P : Program} {w w' : World} {ops : Array Oper} {rest : List Oper} {o : Oper} {a : Act} {Q : Exit -> Act -> World -> Prop} (hgd : o.guard = none) (d s : Operand) (dT sT : TypeId)
 (ho : o.op = .call { callee := .builtin .copy, args := #[d, s], argTypes := #[dT, sT] }) (vd vs : Value) (hd : a.eval d = vd) (hs : a.eval s = vs) (v : Value)
 (hrun : (Builtin.copy_ #[dT, sT] o.type #[vd, vs]).run P w = .ok v w')
 (h : wpList P ops Q rest (a.put o.dst v) w') : wpList P ops Q (o :: rest) a w := by
 refine wpList_plain hgd fun K hK => ?_
 unfold Oper.wp
 simp [execOp, ho, resolve, invoke, builtin, hd, hs, hrun, Result.andThen]
 exact hK _ _ h
theorem run_copy_st {P : Program} (w : World) (dT sT ty elem : TypeId) (g n dCap sCap s : Nat) (a : Addr) (cur : Array Value) (t : TypeId) (cs : List Value)
 (hu : P.underlying dT = some (.slice elem)) (hs : (P.info? elem).map (·.size) = some s)
 (hg : w.heap[g]? = some (.cells cur t (0, 0))) (hl0 : cs.length = n * s)
 (hsrc : ∀ j v, cs[j]? = some v -> w.cell? (a.add j) = some v) (hfit : cs.length = cur.size) (h1 : ∀ v ∈ cs, v.oneCell' = true) :
 (Builtin.copy_ #[dT, sT] ty #[.slice (some ⟨g, 0, none⟩) n dCap, .slice (some a) n sCap]).run P w = .ok (goInt n) (w.setRow g cs.toArray) := by
 have hl := run_loadCells_list (P := P) w a cs hsrc
 have hst := run_storeCells_at P g 0 t cs 0 cur w hg (by omega) h1
 have e : (cur.toList.take (0 + 0) ++ cs ++ cur.toList.drop (0 + 0 + cs.length)) = cs := by
  rw [List.drop_of_length_le (by simp; omega)]
  simp
 rw [e] at hst
 cases hq : P.info? elem with
 | none => simp [hq] at hs
 | some i =>
  have hi : i.size = s := by simpa [hq] using hs
  rw [hl0] at hl
  simp [Builtin.copy_, run_underlying hu, Builtin.lenOf, Builtin.firstCells, sizeOf, typeInfo, hq, hi, hl, hst]
theorem run_copy_st0 {P : Program} (w : World) (dT sT ty elem : TypeId) (d a : Option Addr) (dCap sCap s : Nat) (hu : P.underlying dT = some (.slice elem)) (hs : (P.info? elem).map (·.size) = some s) :
 (Builtin.copy_ #[dT, sT] ty #[.slice d 0 dCap, .slice a 0 sCap]).run P w = .ok (goInt 0) w := by
 cases hq : P.info? elem with
 | none => simp [hq] at hs
 | some i =>
  have hl : ∀ (x : Addr), (loadCells x 0).run P w = .ok #[] w := fun x => by simpa using run_loadCells_list (P := P) w x [] (by simp)
  cases d <;> cases a <;> simp [Builtin.copy_, run_underlying hu, Builtin.lenOf, Builtin.firstCells, sizeOf, typeInfo, hq, storeCells, hl]
def flatS (s n : Nat) (F : Nat -> List Value) : List Value := (List.range (n * s)).map (fun i => (F (i / s)).getD (i % s) undef)
theorem flatS_length (s n : Nat) (F : Nat -> List Value) : (flatS s n F).length = n * s := by simp [flatS]
theorem flatS_at {s n : Nat} {F : Nat -> List Value} {k j : Nat} (hk : k < n) (hj : j < s) (hF : (F k).length = s) : (flatS s n F)[k * s + j]? = (F k)[j]? := by
 have hin : k * s + j < n * s := by
  have : (k + 1) * s <= n * s := Nat.mul_le_mul_right _ hk
  rw [Nat.add_mul, Nat.one_mul] at this
  omega
 have e1 : (k * s + j) / s = k := by rw [Nat.mul_comm, Nat.mul_add_div (by omega), Nat.div_eq_of_lt hj, Nat.add_zero]
 have e2 : (k * s + j) % s = j := by rw [Nat.add_comm, Nat.add_mul_mod_self_right, Nat.mod_eq_of_lt hj]
 simp [flatS, hin, e1, e2, hF, hj]
theorem RowS.ofFlat {w : World} {g : Nat} {t : TypeId} {s n : Nat} {F : Nat -> List Value} (h : w.heap[g]? = some (.cells (flatS s n F).toArray t (0, 0))) (hF : ∀ k, k < n -> (F k).length = s) : RowS w g t s n F :=
 ⟨_, h, by simp [flatS_length], fun k hk j hj => by rw [List.getElem?_toArray]; exact flatS_at hk hj (hF k hk)⟩
theorem flatS_src {w : World} {b off s n : Nat} {F : Nat -> List Value} (hs0 : 0 < s) (hF : ∀ k, k < n -> (F k).length = s) (hc : ∀ k, k < n -> ∀ j, j < s -> w.cell? ⟨b, off + k * s + j, none⟩ = (F k)[j]?) :
 ∀ j v, (flatS s n F)[j]? = some v -> w.cell? ((⟨b, off, none⟩ : Addr).add j) = some v := by
 intro j v hv
 have hj : j < n * s := by
  have := (List.getElem?_eq_some_iff.1 hv).1
  simpa [flatS_length] using this
 have hk : j / s < n := Nat.div_lt_of_lt_mul (by rw [Nat.mul_comm]; exact hj)
 have hm : j % s < s := Nat.mod_lt _ hs0
 have e : j / s * s + j % s = j := by rw [Nat.mul_comm]; exact Nat.div_add_mod j s
 have e1 : (⟨b, off, none⟩ : Addr).add j = ⟨b, off + j / s * s + j % s, none⟩ := by
  rw [Nat.add_assoc, e]
  unfold Addr.add
  split
  ·rename_i h0; subst h0; rfl
  rfl
 rw [e1, hc _ hk _ hm, <- flatS_at hk hm (hF _ hk), e]
 exact hv
theorem flatS_mem {s n : Nat} {F : Nat -> List Value} {P : Value -> Prop} (hs0 : 0 < s) (hF : ∀ k, k < n -> (F k).length = s) (h : ∀ k, k < n -> ∀ v ∈ F k, P v) : ∀ v ∈ flatS s n F, P v := by
 intro v hv
 obtain ⟨i, hi, rfl⟩ := List.mem_map.1 hv
 have hi' : i < n * s := List.mem_range.1 hi
 have hk : i / s < n := Nat.div_lt_of_lt_mul (by rw [Nat.mul_comm]; exact hi')
 have hm : i % s < s := Nat.mod_lt _ hs0
 refine h _ hk _ ?_
 have e := hF _ hk
 rw [List.getD_eq_getElem?_getD, List.getElem?_eq_getElem (by omega)]
 simp
end Go.Proofs.YtkfgijkkffbpmaaGreat
namespace Go.Proofs.YtkfgijkkffbpmaaGreat
open Go.RowKit
theorem szU110 : (Tryz.prog.info? 110).map (·.size) = some 7 := by kernel_rfl
theorem copyOfU (a : Option Addr) (n cap : Nat) (f : Nat -> Ru) (w : World) (hs : SlU w a n f) (hl : n <= 2000000) :
 Calls Tryz.prog 60 #[.slice a n cap] w fun e w' => e = .returned (.slice (some ⟨w.heap.size, 0, none⟩) n n) /\ RowU w' w.heap.size n f /\ Below w.heap.size w w' := by
 have hmk := run_make_st (P := Tryz.prog) 33 110 (.agg (ruc ⟨0, 0, 0, 0, 0, 0, 0⟩)) 7 56 Tryz.underlying33 Tryz.info110 .i64 .i64 n (by omega) (by omega)
 obtain ⟨W, hW⟩ : ∃ W, W = w.alloc (.cells (madeCells (Value.agg (ruc ⟨0, 0, 0, 0, 0, 0, 0⟩)).cells (n * 7)) 110) := ⟨_, rfl⟩
 have b0 : Below w.heap.size w W := by rw [hW]; exact (Below.refl _ w).alloc (Nat.le_refl _) _
 have hh : W.heap[w.heap.size]? = some (.cells (madeCells (Value.agg (ruc ⟨0, 0, 0, 0, 0, 0, 0⟩)).cells (n * 7)) 110 (0, 0)) := by rw [hW]; show (w.heap.push _)[w.heap.size]? = _; simp
 have hs1 := SlS.below hs b0
 have HRUN : Hid (∃ w2, (Builtin.copy_ #[33, 33] 3 #[.slice (some ⟨w.heap.size, 0, none⟩) n n, .slice a n cap]).run Tryz.prog W = .ok (goInt n) w2 /\ RowU w2 w.heap.size n f /\ Below w.heap.size w w2) := by
  rcases hs1 with h0 | ⟨b, off, rfl, hlt, hc⟩
  ·subst h0
   exact ⟨W, run_copy_st0 W _ _ _ 110 _ _ _ _ 7 Tryz.underlying33 szU110, ⟨_, hh, by simp [madeCells], fun k hk => by omega⟩, b0⟩
  have hF : ∀ k, k < n -> (rul (f k)).length = 7 := fun _ _ => rfl
  refine ⟨_, run_copy_st W _ _ _ 110 w.heap.size n n cap 7 ⟨b, off, none⟩ _ 110 (flatS 7 n (fun k => rul (f k))) Tryz.underlying33 szU110 hh (flatS_length _ _ _) (flatS_src (by decide) hF hc) (by rw [flatS_length, size_madeCells]) (flatS_mem (by decide) hF (fun k _ v hv => by simp at hv; rcases hv with rfl | rfl | rfl | rfl | rfl | rfl | rfl <;> rfl)), ?_, below_setRow b0 (Nat.le_refl _) _⟩
  exact RowS.ofFlat (by exact setRow_heap W w.heap.size _ _ 110 _ hh) hF
 clear hs hs1 hh
 obtain ⟨w2, hr2, R2, B2⟩ := HRUN.out
 have HR : Hid ((Builtin.copy_ #[33, 33] 3 #[.slice (some ⟨w.heap.size, 0, none⟩) n n, .slice a n cap]).run Tryz.prog W = .ok (goInt n) w2) := hr2
 have HX : Hid (RowU w2 w.heap.size n f /\ Below w.heap.size w w2) := ⟨R2, B2⟩
 clear HRUN hr2 R2 B2 b0
 rw [hW] at HR
 go_enter Tryz.func60, Tryz.ntmps60
 go_wp2_with (refine wpList_copy_run rfl (.tmp 7) (.tmp 8) 33 33 rfl _ _ rfl rfl _ HR.out ?_)
 go_ret
 exact ⟨rfl, HX.out⟩
theorem stable_any (g n c : Nat) (f : Nat -> Ru) (w0 w : World) (hb : Below w0.heap.size w0 w) (hg : w0.heap.size <= g) (hr : RowU w g n f) (hn : n <= 24) :
 Calls Tryz.prog 264 #[.slice (some ⟨g, 0, none⟩) n c, .int .i64 (n : Int), .func (.func 194) #[] #[]] w fun e w' => e = .returned (.tuple #[]) /\ ∃ f', RowU w' g n f' /\ PermIn 0 n f f' /\ SortedOn f' 0 n /\ Below w0.heap.size w0 w' := by
 by_cases h20 : 20 <= n
 ·have d1 : (20 : Int) <= (n : Int) := by omega
  have d2 : ¬ (40 : Int) <= (n : Int) := by omega
  go_enter Tryz.func264, Tryz.ntmps264
  go_wp2
  refine wp_loop_rounds 2 ?_
  rw [rounds_succ]
  go_wp2_with fail
  refine (insertion_any g n c 0 20 f w0 _ hb hg hr h20 (by omega) (by omega)).mono ?_
  rintro e w1 ⟨rfl, f1, R1, P1, S1, B1⟩
  clear hr hb
  go_wp2
  rw [rounds_succ]
  go_wp2_with fail
  refine (insertion_any g n c 20 n f1 w0 _ B1 hg R1 (Nat.le_refl _) (by omega) h20).mono ?_
  rintro e w2 ⟨rfl, f2, R2, P2, S2, B2⟩
  have PP : PermIn 0 n f f2 := (P1.mono (Nat.le_refl _) h20).trans (P2.mono (by omega) (Nat.le_refl _))
  have SL : SortedOn f2 0 20 := fun i j h1 h2 h3 => by rw [P2.out (.inl (by omega)), P2.out (.inl h3)]; exact S1 i j h1 h2 h3
  clear R1 B1 P1 P2 S1
  by_cases h21 : 20 < n
  ·have d3 : (20 : Int) < (n : Int) := by omega
   have d4 : ¬ (40 : Int) < (n : Int) := by omega
   go_wp2
   refine wp_loop_rounds 2 ?_
   rw [rounds_succ]
   go_wp2
   refine wp_loop_rounds 1 ?_
   rw [rounds_succ]
   go_wp2_with fail
   refine (symMerge_any n g n c 0 20 n f2 w0 _ B2 hg R2 (by omega) h21 (Nat.le_refl _) (by omega) SL S2 (by omega)).mono ?_
   rintro e w3 ⟨rfl, f3, R3, P3, S3, B3⟩
   have HX : Hid (∃ f', RowU w3 g n f' /\ PermIn 0 n f f' /\ SortedOn f' 0 n /\ Below w0.heap.size w0 w3) := ⟨f3, R3, PP.trans P3, S3, B3⟩
   clear R2 B2 PP SL S2 R3 B3 P3 S3
   go_wp2
   rw [rounds_succ]
   go_wp2
   refine bodyPost_end (v := .tuple #[]) (by simp [results, Tryz.results264, go_sem]) rfl ⟨rfl, HX.out⟩
  have d3 : ¬ (20 : Int) < (n : Int) := by omega
  have HX : Hid (∃ f', RowU w2 g n f' /\ PermIn 0 n f f' /\ SortedOn f' 0 n /\ Below w0.heap.size w0 w2) := ⟨f2, R2, PP, (by rw [show n = 20 by omega]; exact SL), B2⟩
  clear R2 B2 PP SL S2
  go_wp2
  refine wp_loop_rounds 1 ?_
  rw [rounds_succ]
  go_wp2
  refine bodyPost_end (v := .tuple #[]) (by simp [results, Tryz.results264, go_sem]) rfl ⟨rfl, HX.out⟩
 have d1 : ¬ (20 : Int) <= (n : Int) := by omega
 have d3 : ¬ (20 : Int) < (n : Int) := by omega
 go_enter Tryz.func264, Tryz.ntmps264
 go_wp2
 refine wp_loop_rounds 1 ?_
 rw [rounds_succ]
 go_wp2_with fail
 refine (insertion_any g n c 0 n f w0 _ hb hg hr (Nat.le_refl _) (by omega) (by omega)).mono ?_
 rintro e w1 ⟨rfl, f1, R1, P1, S1, B1⟩
 have HX : Hid (∃ f', RowU w1 g n f' /\ PermIn 0 n f f' /\ SortedOn f' 0 n /\ Below w0.heap.size w0 w1) := ⟨f1, R1, P1, S1, B1⟩
 clear R1 B1 P1 S1 hr hb
 go_wp2
 refine wp_loop_rounds 1 ?_
 rw [rounds_succ]
 go_wp2
 refine bodyPost_end (v := .tuple #[]) (by simp [results, Tryz.results264, go_sem]) rfl ⟨rfl, HX.out⟩
theorem sortStable_any (g n c : Nat) (f : Nat -> Ru) (w0 w : World) (hb : Below w0.heap.size w0 w) (hg : w0.heap.size <= g) (hr : RowU w g n f) (hn : n <= 24) :
 Calls Tryz.prog 244 #[.slice (some ⟨g, 0, none⟩) n c, .func (.func 194) #[] #[]] w fun e w' => e = .returned (.tuple #[]) /\ ∃ f', RowU w' g n f' /\ PermIn 0 n f f' /\ SortedOn f' 0 n /\ Below w0.heap.size w0 w' := by
 go_enter Tryz.func244, Tryz.ntmps244
 go_wp2_with fail
 refine (stable_any g n c f w0 _ hb hg hr hn).mono ?_
 rintro e w1 ⟨rfl, hx⟩
 have HX : Hid _ := hx
 clear hx hr hb
 go_wp2
 refine bodyPost_end (v := .tuple #[]) (by simp [results, Tryz.results244, go_sem]) rfl ⟨rfl, HX.out⟩
theorem sortedBy_any (a : Option Addr) (n cap : Nat) (f : Nat -> Ru) (w : World) (hs : SlU w a n f) (hn : n <= 24) :
 Calls Tryz.prog 193 #[.slice a n cap, .func (.func 194) #[] #[]] w fun e w' => e = .returned (.slice (some ⟨w.heap.size, 0, none⟩) n n) /\ ∃ f', RowU w' w.heap.size n f' /\ PermIn 0 n f f' /\ SortedOn f' 0 n /\ Below w.heap.size w w' := by
 go_enter Tryz.func193, Tryz.ntmps193
 go_wp2_with fail
 refine (copyOfU a n cap f _ hs (by omega)).mono ?_
 rintro e w1 ⟨rfl, R1, B1⟩
 clear hs
 go_wp2_with fail
 refine (sortStable_any w.heap.size n n f w _ B1 (Nat.le_refl _) R1 hn).mono ?_
 rintro e w2 ⟨rfl, hx⟩
 have HX : Hid _ := hx
 clear hx R1 B1
 go_wp2
 go_ret
 exact ⟨rfl, HX.out⟩
end Go.Proofs.YtkfgijkkffbpmaaGreat
namespace Go.Proofs.YtkfgijkkffbpmaaGreat
open Go.RowKit
def inB (x lo hi : Int) : Bool := decide (lo <= x /\ x <= hi)
def allW (ws : List Int) : Bool := decide (∀ k, k < ws.length -> 0 <= ws.getD k 0 /\ ws.getD k 0 <= 65535)
def fitB (p n : Int) : Bool := decide (0 <= p /\ p <= 65535 /\ p + n <= 65536)
def rnB (p n most : Int) : Bool := decide (1 <= n /\ n <= most /\ 0 <= p /\ p + n <= 65536)
def zrB (n w b a : Bool) (nn : Int) (l1 l2 : Nat) (wa : Int) : Bool := (n || decide (nn = 0)) && ((w || decide (l1 = 0)) && ((b || decide (l2 = 0)) && (a || decide (wa = 0))))
theorem l1In_any (x lo hi : Int) (w : World) (b : Bool) (hb : inB x lo hi = b) : Calls Tryz.prog 45 #[.int .i64 x, .int .i64 lo, .int .i64 hi] w fun e w' => e = .returned (.bool b) /\ w' = w := by
 subst hb
 unfold inB
 by_cases h1 : lo <= x
 ·by_cases h2 : x <= hi
  ·rw [decide_eq_true (show lo <= x /\ x <= hi from ⟨h1, h2⟩)]
   go_enter Tryz.func45, Tryz.ntmps45
   go_wp2
   go_ret
   exact ⟨rfl, rfl⟩
  rw [decide_eq_false (show ¬ (lo <= x /\ x <= hi) from fun h => h2 h.2)]
  go_enter Tryz.func45, Tryz.ntmps45
  go_wp2
  go_ret
  exact ⟨rfl, rfl⟩
 rw [decide_eq_false (show ¬ (lo <= x /\ x <= hi) from fun h => h1 h.1)]
 go_enter Tryz.func45, Tryz.ntmps45
 go_wp2
 go_ret
 exact ⟨rfl, rfl⟩
theorem isWord_any (x : Int) (w : World) (b : Bool) (hb : inB x 0 65535 = b) : Calls Tryz.prog 191 #[.int .i64 x] w fun e w' => e = .returned (.bool b) /\ w' = w := by
 subst hb
 unfold inB
 by_cases h1 : 0 <= x
 ·by_cases h2 : x <= 65535
  ·rw [decide_eq_true (show 0 <= x /\ x <= 65535 from ⟨h1, h2⟩)]
   go_enter Tryz.func191, Tryz.ntmps191
   go_wp2
   go_ret
   exact ⟨rfl, rfl⟩
  rw [decide_eq_false (show ¬ (0 <= x /\ x <= 65535) from fun h => h2 h.2)]
  go_enter Tryz.func191, Tryz.ntmps191
  go_wp2
  go_ret
  exact ⟨rfl, rfl⟩
 rw [decide_eq_false (show ¬ (0 <= x /\ x <= 65535) from fun h => h1 h.1)]
 go_enter Tryz.func191, Tryz.ntmps191
 go_wp2
 go_ret
 exact ⟨rfl, rfl⟩
theorem allW_bad {zs : List Int} {k : Nat} (h : k < zs.length) (hb : ¬ (0 <= zs.getD k 0 /\ zs.getD k 0 <= 65535)) : allW zs = false := by
 unfold allW; exact decide_eq_false (fun hh => hb (hh k h))
theorem allW_good {zs : List Int} (hb : ∀ k, k < zs.length -> 0 <= zs.getD k 0 /\ zs.getD k 0 <= 65535) : allW zs = true := by
 unfold allW; exact decide_eq_true hb
theorem l3Words_any (a : Option Addr) (n cap : Nat) (zs : List Int) (w : World) (hn : n = zs.length) (hs : SlI w a zs) (hl : zs.length <= 2000000) (b : Bool) (hb : allW zs = b) :
 Calls Tryz.prog 198 #[.slice a n cap] w fun e w' => e = .returned (.bool b) /\ w' = w := by
 subst hn
 go_enter Tryz.func198, Tryz.ntmps198
 go_wp2
 go_loop [3] (fun i => ∃ k : Nat, k <= zs.length /\ i = .int .i64 k /\ ∀ j, j < k -> 0 <= zs.getD j 0 /\ zs.getD j 0 <= 65535) (fun i => zs.length - (intOf i).toNat)
 case atStart => exact ⟨0, Nat.zero_le _, rfl, fun j hj => absurd hj (Nat.not_lt_zero _)⟩
 case round =>
  obtain ⟨k, hk, rfl, hg⟩ := hrel
  have HG : Hid (∀ j, j < k -> 0 <= zs.getD j 0 /\ zs.getD j 0 <= 65535) := hg
  clear hg
  by_cases hlt : k < zs.length
  ·obtain ⟨bb, off, rfl, _, hc⟩ := cell_atI hs hlt
   have hi : (k : Int) < (zs.length : Int) := by omega
   obtain ⟨x, hx⟩ : ∃ x, x = zs.getD k 0 := ⟨_, rfl⟩
   have HX : Hid (x = zs.getD k 0) := hx
   rw [<- hx] at hc
   clear hs hx
   by_cases h1 : 0 <= x
   ·by_cases h2 : x <= 65535
    ·go_wp2_with (go_at_call 45; go_in)
     go_round
     case rel =>
      first
       | exact ⟨k + 1, by omega, by go_num, fun j hj => by
        by_cases e : j = k
        ·subst e; rw [<- HX.out]; exact ⟨h1, h2⟩
        exact HG.out j (by omega)⟩
       | exact ⟨_, _, ⟨k + 1, by omega, by go_num, fun j hj => by
        by_cases e : j = k
        ·subst e; rw [<- HX.out]; exact ⟨h1, h2⟩
        exact HG.out j (by omega)⟩, rfl, rfl⟩
     case measure => simp [intOf]; omega
    have hf := allW_bad hlt (by rw [<- HX.out]; exact fun h => h2 h.2)
    rw [hf] at hb
    subst hb
    go_wp2_with (go_at_call 45; go_in)
    go_ret
    exact ⟨rfl, rfl⟩
   have hf := allW_bad hlt (by rw [<- HX.out]; exact fun h => h1 h.1)
   rw [hf] at hb
   subst hb
   go_wp2_with (go_at_call 45; go_in)
   go_ret
   exact ⟨rfl, rfl⟩
  have hf := allW_good (zs := zs) (fun j hj => HG.out j (by omega))
  rw [hf] at hb
  subst hb
  clear hs
  go_wp2
  go_ret
  exact ⟨rfl, rfl⟩
theorem areWords_any (a : Option Addr) (n cap : Nat) (zs : List Int) (w : World) (hn : n = zs.length) (hs : SlI w a zs) (hl : zs.length <= 2000000) (b : Bool) (hb : allW zs = b) :
 Calls Tryz.prog 203 #[.slice a n cap] w fun e w' => e = .returned (.bool b) /\ w' = w := by
 subst hn
 go_enter Tryz.func203, Tryz.ntmps203
 go_wp2
 go_loop [7] (fun i => ∃ k : Nat, k <= zs.length /\ i = .int .i64 k /\ ∀ j, j < k -> 0 <= zs.getD j 0 /\ zs.getD j 0 <= 65535) (fun i => zs.length - (intOf i).toNat)
 case atStart => exact ⟨0, Nat.zero_le _, rfl, fun j hj => absurd hj (Nat.not_lt_zero _)⟩
 case round =>
  obtain ⟨k, hk, rfl, hg⟩ := hrel
  have HG : Hid (∀ j, j < k -> 0 <= zs.getD j 0 /\ zs.getD j 0 <= 65535) := hg
  clear hg
  by_cases hlt : k < zs.length
  ·obtain ⟨bb, off, rfl, _, hc⟩ := cell_atI hs hlt
   have hi : (k : Int) < (zs.length : Int) := by omega
   obtain ⟨x, hx⟩ : ∃ x, x = zs.getD k 0 := ⟨_, rfl⟩
   have HX : Hid (x = zs.getD k 0) := hx
   rw [<- hx] at hc
   clear hs hx
   by_cases h1 : 0 <= x
   ·by_cases h2 : x <= 65535
    ·go_wp2_with (go_at_call 191; go_in)
     go_round
     case rel =>
      first
       | exact ⟨k + 1, by omega, by go_num, fun j hj => by
        by_cases e : j = k
        ·subst e; rw [<- HX.out]; exact ⟨h1, h2⟩
        exact HG.out j (by omega)⟩
       | exact ⟨_, _, ⟨k + 1, by omega, by go_num, fun j hj => by
        by_cases e : j = k
        ·subst e; rw [<- HX.out]; exact ⟨h1, h2⟩
        exact HG.out j (by omega)⟩, rfl, rfl⟩
     case measure => simp [intOf]; omega
    have hf := allW_bad hlt (by rw [<- HX.out]; exact fun h => h2 h.2)
    rw [hf] at hb
    subst hb
    go_wp2_with (go_at_call 191; go_in)
    go_ret
    exact ⟨rfl, rfl⟩
   have hf := allW_bad hlt (by rw [<- HX.out]; exact fun h => h1 h.1)
   rw [hf] at hb
   subst hb
   go_wp2_with (go_at_call 191; go_in)
   go_ret
   exact ⟨rfl, rfl⟩
  have hf := allW_good (zs := zs) (fun j hj => HG.out j (by omega))
  rw [hf] at hb
  subst hb
  clear hs
  go_wp2
  go_ret
  exact ⟨rfl, rfl⟩
end Go.Proofs.YtkfgijkkffbpmaaGreat
namespace Go.Proofs.YtkfgijkkffbpmaaGreat
open Go.RowKit
def hasR (r : Ru) (un sp pl : Int) : Bool := decide (r.u = un) && decide (r.s = sp) && decide (r.lo <= pl) && decide (pl <= r.hi)
def atFrom (f : Nat -> Ru) (un sp pl : Int) (n k : Nat) : Int :=
 if h : k < n then (if hasR (f k) un sp pl = true then (k : Int) else atFrom f un sp pl n (k + 1)) else -1
termination_by n - k
abbrev atR (f : Nat -> Ru) (n : Nat) (un sp pl : Int) : Int := atFrom f un sp pl n 0
theorem has_any (r : Ru) (un sp pl : Int) (w : World) :
 Calls Tryz.prog 195 #[.agg (ruc r), .int .i64 un, .int .i64 sp, .int .i64 pl] w fun e w' => e = .returned (.bool (hasR r un sp pl)) /\ Below w.heap.size w w' := by
 unfold hasR
 by_cases h1 : r.u = un
 ·by_cases h2 : r.s = sp
  ·by_cases h3 : r.lo <= pl
   ·by_cases h4 : pl <= r.hi
    ·skip
     have e : (decide (r.u = un) && decide (r.s = sp) && decide (r.lo <= pl) && decide (pl <= r.hi)) = true := by simp [h1, h2, h3, h4]
     rw [e]
     clear e
     go_enter Tryz.func195, Tryz.ntmps195
     go_wp2
     go_ret
     exact ⟨rfl, (Below.refl _ w).alloc (Nat.le_refl _) _⟩
    skip
    have e : (decide (r.u = un) && decide (r.s = sp) && decide (r.lo <= pl) && decide (pl <= r.hi)) = false := by simp [h1, h2, h3, h4]
    rw [e]
    clear e
    go_enter Tryz.func195, Tryz.ntmps195
    go_wp2
    go_ret
    exact ⟨rfl, (Below.refl _ w).alloc (Nat.le_refl _) _⟩
   skip
   have e : (decide (r.u = un) && decide (r.s = sp) && decide (r.lo <= pl) && decide (pl <= r.hi)) = false := by simp [h1, h2, h3]
   rw [e]
   clear e
   go_enter Tryz.func195, Tryz.ntmps195
   go_wp2
   go_ret
   exact ⟨rfl, (Below.refl _ w).alloc (Nat.le_refl _) _⟩
  skip
  have e : (decide (r.u = un) && decide (r.s = sp) && decide (r.lo <= pl) && decide (pl <= r.hi)) = false := by simp [h1, h2]
  rw [e]
  clear e
  go_enter Tryz.func195, Tryz.ntmps195
  go_wp2
  go_ret
  exact ⟨rfl, (Below.refl _ w).alloc (Nat.le_refl _) _⟩
 skip
 have e : (decide (r.u = un) && decide (r.s = sp) && decide (r.lo <= pl) && decide (pl <= r.hi)) = false := by simp [h1]
 rw [e]
 clear e
 go_enter Tryz.func195, Tryz.ntmps195
 go_wp2
 go_ret
 exact ⟨rfl, (Below.refl _ w).alloc (Nat.le_refl _) _⟩
def Tri (w : World) (g1 g2 g3 : Nat) (un sp pl : Int) : Prop :=
 Box w g1 3 (.int .i64 un) /\ Box w g2 3 (.int .i64 sp) /\ Box w g3 3 (.int .i64 pl)
end Go.Proofs.YtkfgijkkffbpmaaGreat
