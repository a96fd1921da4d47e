/- Parts of the proof. -/
import Derived.Test.YtplaoagcedgdfaaGreatZq18
import Derived.Test.YtplaoagcedgdfaaGreatZq10
set_option linter.unusedVariables false
set_option linter.unusedSimpArgs false
set_option maxHeartbeats 4000000
set_option maxRecDepth 20000
namespace Go.Proofs.YtplaoagcedgdfaaGreat
open Go.RowKit Go.Proofs.Tryz
theorem fv (g n c a b : Nat) (f : Nat -> Ru) (w0 w : World) (hb : Below w0.heap.size w0 w) (hg : w0.heap.size <= g) (hr : az w g n f) (hbn : b <= n) (hn : n <= 1000000) (ha : a <= n) :
 Calls prog 253 #[.slice (some ⟨g, 0, none⟩) n c, .int .i64 (a : Int), .int .i64 (b : Int), .func (.func 164) #[] #[]] w fun e w' => e = .returned (.tuple #[]) /\ ∃ f', az w' g n f' /\ aH a b f f' /\ aC f' a b /\ Below w0.heap.size w0 w' := by
 have wa : IntKind.i64.wrap ((a : Int) + 1) = ((a + 1 : Nat) : Int) := by rw [IntKind.wrap_i64]; omega
 go_enter func253, ntmps253
 go_wp2
 go_loopw [8] (fun i wr => ∃ (k : Nat) (h : Nat -> Ru), a < k /\ (k <= b \/ k = a + 1) /\ i = .int .i64 k /\ az wr g n h /\ aH a b f h /\ aC h a k /\ Below w0.heap.size w0 wr) (fun i _ => b - (intOf i).toNat)
 case atStart => exact ⟨a + 1, f, by omega, .inr rfl, by first | rfl | simp, hr, aH.refl _ _ _, fun p q h1 h2 h3 => by omega, hb⟩
 case round =>
  obtain ⟨k, h0, hk, hkb, rfl, hrow0, hp0, hso, hbl0⟩ := hrel
  by_cases hlt : k < b
  ·have hi : (k : Int) < (b : Int) := by omega
   have HS0 : Hid (az wr g n h0 /\ aH a b f h0 /\ aC h0 a k /\ Below w0.heap.size w0 wr) := ⟨hrow0, hp0, hso, hbl0⟩
   clear hrow0 hp0 hso hbl0 hr hb hkb
   go_wp2
   go_loopw [9] (fun i wr => ∃ (j : Nat) (h : Nat -> Ru), a <= j /\ j <= k /\ i = .int .i64 j /\ az wr g n h /\ aH a b f h /\ gh h a k j /\ Below w0.heap.size w0 wr) (fun i _ => (intOf i).toNat)
   case atStart => exact ⟨k, h0, by omega, Nat.le_refl _, rfl, HS0.out.1, HS0.out.2.1, gh.start HS0.out.2.2.1, HS0.out.2.2.2⟩
   case round =>
    clear HS0
    obtain ⟨j, h, hja, hjk, rfl, hrow, hp, hI, hbl⟩ := hrel
    have HROW : Hid (az wr g n h /\ Below w0.heap.size w0 wr) := ⟨hrow, hbl⟩
    have HP : Hid (aH a b f h) := hp
    have HI : Hid (gh h a k j) := hI
    clear hrow hbl hp hI
    by_cases hj : a < j
    ·have hj' : (a : Int) < (j : Int) := by omega
     obtain ⟨m, hm⟩ : ∃ m, j = m + 1 := ⟨j - 1, by omega⟩
     have wm : IntKind.i64.wrap ((j : Int) - 1) = (m : Int) := by rw [IntKind.wrap_i64]; omega
     have hjn : (j : Int) < (n : Int) := by omega
     have hmn : (m : Int) < (n : Int) := by omega
     have hIJ : ¬ j = m := by omega
     have hJI : ¬ m = j := by omega
     have HM : Hid (j = m + 1) := hm
     by_cases hx : cm (h j) (h m)
     ·have hc0 : bV (h j) (h m) < 0 := (dI _ _).2 hx
      have HL : Hid (cm (h j) (h (j - 1))) := by rw [show j - 1 = m by omega]; exact hx
      clear hx hm
      go_wp2
      refine wp_region_any (by kernel_rfl) ?_
      refine aX (fun u => Below wr.heap.size wr u) (fun i v u => match i with
       | 0 => v = .int .i64 (j : Int)
       | 1 => v = .int .i64 (a : Int)
       | 2 => v = .bool true
       | 3 => v = .bool true
       | 4 => v = .func (.func 164) #[] #[]
       | 5 => v = .slice (some ⟨g, 0, none⟩) n c
       | 6 => v = .int .i64 (j : Int)
       | 7 => v = .pointer (some ⟨g, j * 7, none⟩)
       | 8 => v = .agg (aS (h j))
       | 9 => v = .slice (some ⟨g, 0, none⟩) n c
       | 10 => v = .int .i64 (j : Int)
       | 11 => v = .int .i64 (m : Int)
       | 12 => v = .pointer (some ⟨g, m * 7, none⟩)
       | 13 => v = .agg (aS (h m))
       | 14 => v = .int .i64 (bV (h j) (h m))
       | 15 => v = .bool true
       | 16 => v = .bool true
       | _ => True) (by kernel_rfl) (by kernel_rfl) (fun _ _ _ _ h _ => h) (Below.refl _ _).drew ?_ ?_ _ _ rfl (by decide) (fun i => by simp [Array.getD]; try (split <;> rfl))
      ·intro vs u hR hall
       have e16 : vs 16 = .bool true := hall 16 (by simp)
       simp only [bm]
       rw [e16]
       clear hall e16
       have HROW2 : Hid (az u g n h /\ Below w0.heap.size w0 u) := ⟨HROW.out.1.below hR, ak HROW.out.2 hR⟩
       clear hR HROW
       go_simp
       go_wp2
       refine wp_region_any (by kernel_rfl) ?_
       refine fD (fun l u => az u g n (fun k => if l 15 = true /\ k = j then h m else if l 17 = true /\ k = m then h j else h k) /\ Below w0.heap.size w0 u) (fun _ _ => True) (fun i v u => match i with
        | 0 => v = .slice (some ⟨g, 0, none⟩) n c
        | 1 => v = .int .i64 (j : Int)
        | 2 => v = .slice (some ⟨g, 0, none⟩) n c
        | 3 => v = .int .i64 (j : Int)
        | 4 => v = .int .i64 (m : Int)
        | 5 => v = .slice (some ⟨g, 0, none⟩) n c
        | 6 => v = .int .i64 (j : Int)
        | 7 => v = .int .i64 (m : Int)
        | 8 => v = .pointer (some ⟨g, m * 7, none⟩)
        | 9 => v = .agg (aS (h m))
        | 10 => v = .slice (some ⟨g, 0, none⟩) n c
        | 11 => v = .int .i64 (j : Int)
        | 12 => v = .pointer (some ⟨g, j * 7, none⟩)
        | 13 => v = .agg (aS (h j))
        | 14 => v = .pointer (some ⟨g, j * 7, none⟩)
        | 16 => v = .pointer (some ⟨g, m * 7, none⟩)
        | _ => True) (by kernel_rfl) (by kernel_rfl) (fun _ _ _ _ h _ => h) (fun _ => trivial) ⟨aG.congr (aG.below HROW2.out.1 (Below.refl _ _).drew) (fun k _ => by simp), HROW2.out.2.drew⟩ ?_ ?_ _ _ rfl (by decide) (fun i => by simp [Array.getD]; try (split <;> rfl))
       ·intro vs u hR _
        have R2 : az u g n (fun k => h (cL j m k)) := hR.1.congr (fun k _ => congrArg cT (by by_cases e1 : k = j <;> by_cases e2 : k = m <;> simp [cL, e1, e2, hJI, hIJ]))
        have B2 := hR.2
        have HX : Hid (az u g n (fun k => h (cL j m k)) /\ Below w0.heap.size w0 u) := ⟨R2, B2⟩
        clear R2 B2 hR HROW2
        simp only [bm]
        go_simp
        go_wp2
        go_roundw
        case rel => exact ⟨m, _, (by have := HM.out; omega), (by have := HM.out; omega), by first | rfl | go_num, HX.out.1, HP.out.trans (aH.swap _ (by omega) (by omega) (by have := HM.out; omega) (by have := HM.out; omega)), (by have := HI.out.step hj hjk HL.out; rw [show j - 1 = m by have := HM.out; omega] at this; exact this), HX.out.2⟩
        case measure => (have := HM.out; simp [intOf]; omega)
       intro u i o ρ l hR ho hli hcl hρ hc hf hd hv
       have hi : i < 18 := by
        have := (Array.getElem?_eq_some_iff.1 ho).1
        simpa using this
       obtain rfl | rfl | rfl | rfl | rfl | rfl | rfl | rfl | rfl | rfl | rfl | rfl | rfl | rfl | rfl | rfl | rfl | rfl : i = 0 \/ i = 1 \/ i = 2 \/ i = 3 \/ i = 4 \/ i = 5 \/ i = 6 \/ i = 7 \/ i = 8 \/ i = 9 \/ i = 10 \/ i = 11 \/ i = 12 \/ i = 13 \/ i = 14 \/ i = 15 \/ i = 16 \/ i = 17 := by omega
       all_goals (simp only [List.getElem?_toArray, List.getElem?_cons_zero, List.getElem?_cons_succ, Option.some.injEq] at ho; subst ho)
       ·exact yr rfl (hρ 0 (by kernel_rfl)) (by simpa [aN] using hR) trivial
       ·exact yr rfl (hρ 9 (by kernel_rfl)) (by simpa [aN] using hR) trivial
       ·exact yr rfl (hρ 0 (by kernel_rfl)) (by simpa [aN] using hR) trivial
       ·exact yr rfl (hρ 9 (by kernel_rfl)) (by simpa [aN] using hR) trivial
       ·have h3 : ρ (.tmp 40) = .int .i64 (j : Int) := hv 3 40 rfl (hd ⟨3, .data⟩ (by simp) rfl)
        exact yr (aD rfl h3 (hc _) (by go_simp)) rfl (by simpa [aN] using hR) trivial
       ·exact yr rfl (hρ 0 (by kernel_rfl)) (by simpa [aN] using hR) trivial
       ·exact yr rfl (hρ 9 (by kernel_rfl)) (by simpa [aN] using hR) trivial
       ·have h6 : ρ (.tmp 43) = .int .i64 (j : Int) := hv 6 43 rfl (hd ⟨6, .data⟩ (by simp) rfl)
        exact yr (aD rfl h6 (hc _) (by go_simp)) rfl (by simpa [aN] using hR) trivial
       ·have h5 : ρ (.tmp 42) = .slice (some ⟨g, 0, none⟩) n c := hv 5 42 rfl (hd ⟨5, .data⟩ (by simp) rfl)
        have h7 : ρ (.tmp 44) = .int .i64 (m : Int) := hv 7 44 rfl (hd ⟨7, .data⟩ (by simp) rfl)
        exact yr (au rfl h5 h7 (by go_simp)) rfl (by simpa [aN] using hR) trivial
       ·have n1 : l 15 = false := (by cases hx : l 15; (rfl); (have h1 := hcl 15 _ rfl hx ⟨9, .data⟩ (by simp) rfl; rw [hli] at h1; cases h1))
        have n2 : l 17 = false := (by cases hx : l 17; (rfl); (have h1 := hcl 17 _ rfl hx ⟨9, .phase⟩ (by simp) rfl; rw [hli] at h1; cases h1))
        have R0 : az u g n h := hR.1.congr (fun k _ => by simp [n1, n2])
        obtain ⟨d0, d1, d2, d3, d4, d5, d6⟩ := az.seven R0 (show m < n from by omega)
        clear R0
        have h8 : ρ (.tmp 45) = .pointer (some ⟨g, m * 7, none⟩) := hv 8 45 rfl (hd ⟨8, .data⟩ (by simp) rfl)
        exact yr (ai rfl h8 (by go_simp)) rfl (by simpa [aN] using hR) trivial
       ·exact yr rfl (hρ 0 (by kernel_rfl)) (by simpa [aN] using hR) trivial
       ·exact yr rfl (hρ 9 (by kernel_rfl)) (by simpa [aN] using hR) trivial
       ·have h10 : ρ (.tmp 47) = .slice (some ⟨g, 0, none⟩) n c := hv 10 47 rfl (hd ⟨10, .data⟩ (by simp) rfl)
        have h11 : ρ (.tmp 48) = .int .i64 (j : Int) := hv 11 48 rfl (hd ⟨11, .data⟩ (by simp) rfl)
        exact yr (au rfl h10 h11 (by go_simp)) rfl (by simpa [aN] using hR) trivial
       ·have n1 : l 15 = false := (by cases hx : l 15; (rfl); (have h1 := hcl 15 _ rfl hx ⟨13, .phase⟩ (by simp) rfl; rw [hli] at h1; cases h1))
        have n2 : l 17 = false := (by cases hx : l 17; (rfl); (have h1 := hcl 17 _ rfl hx ⟨13, .data⟩ (by simp) rfl; rw [hli] at h1; cases h1))
        have R0 : az u g n h := hR.1.congr (fun k _ => by simp [n1, n2])
        obtain ⟨d0, d1, d2, d3, d4, d5, d6⟩ := az.seven R0 (show j < n from by omega)
        clear R0
        have h12 : ρ (.tmp 49) = .pointer (some ⟨g, j * 7, none⟩) := hv 12 49 rfl (hd ⟨12, .data⟩ (by simp) rfl)
        exact yr (ai rfl h12 (by go_simp)) rfl (by simpa [aN] using hR) trivial
       ·have h0 : ρ (.tmp 37) = .slice (some ⟨g, 0, none⟩) n c := hv 0 37 rfl (hd ⟨0, .data⟩ (by simp) rfl)
        have h1 : ρ (.tmp 38) = .int .i64 (j : Int) := hv 1 38 rfl (hd ⟨1, .data⟩ (by simp) rfl)
        exact yr (au rfl h0 h1 (by go_simp)) rfl (by simpa [aN] using hR) trivial
       ·obtain ⟨d0, d1, d2, d3, d4, d5, d6⟩ := az.seven hR.1 (show j < n from by omega)
        have f0 := aG.fro hR.1 (j * 7)
        have f1 := aG.fro hR.1 (j * 7 + 1)
        have f2 := aG.fro hR.1 (j * 7 + 2)
        have f3 := aG.fro hR.1 (j * 7 + 3)
        have f4 := aG.fro hR.1 (j * 7 + 4)
        have f5 := aG.fro hR.1 (j * 7 + 5)
        have f6 := aG.fro hR.1 (j * 7 + 6)
        have h14 : ρ (.tmp 51) = .pointer (some ⟨g, j * 7, none⟩) := hv 14 51 rfl (hd ⟨14, .data⟩ (by simp) rfl)
        have h9 : ρ (.tmp 46) = .agg (aS (h m)) := hv 9 46 rfl (hd ⟨9, .data⟩ (by simp) rfl)
        have hr : (Instr.storeAt 102 (.pointer (some ⟨g, j * 7, none⟩)) (.agg (aS (h m)))).run prog u = .ok () ((((((((u).setCell ⟨g, j * 7, none⟩ (.int .i64 (h m).u)).setCell ⟨g, j * 7 + 1, none⟩ (.int .i64 (h m).s)).setCell ⟨g, j * 7 + 2, none⟩ (.int .i64 (h m).lo)).setCell ⟨g, j * 7 + 3, none⟩ (.int .i64 (h m).hi)).setCell ⟨g, j * 7 + 4, none⟩ (.int .i64 (h m).p)).setCell ⟨g, j * 7 + 5, none⟩ (.int .i64 (h m).t)).setCell ⟨g, j * 7 + 6, none⟩ (.int .i64 (h m).sh)) := by go_simp
        have hR2 := aG.set hR.1 (show j < n from by omega) (cT (h m)) rfl
        have hB2 := bp (g := g) hg (cT (h m)) u (j * 7) hR.2
        exact .inl ⟨rfl, .inr (.inr ⟨rfl, _, cC rfl h14 h9 hr, ⟨hR2.congr (fun k _ => by by_cases e : k = j <;> simp [aN, e, hIJ, hJI]), hB2⟩, trivial⟩)⟩
       ·have h2 : ρ (.tmp 39) = .slice (some ⟨g, 0, none⟩) n c := hv 2 39 rfl (hd ⟨2, .data⟩ (by simp) rfl)
        have h4 : ρ (.tmp 41) = .int .i64 (m : Int) := hv 4 41 rfl (hd ⟨4, .data⟩ (by simp) rfl)
        exact yr (au rfl h2 h4 (by go_simp)) rfl (by simpa [aN] using hR) trivial
       obtain ⟨d0, d1, d2, d3, d4, d5, d6⟩ := az.seven hR.1 (show m < n from by omega)
       have f0 := aG.fro hR.1 (m * 7)
       have f1 := aG.fro hR.1 (m * 7 + 1)
       have f2 := aG.fro hR.1 (m * 7 + 2)
       have f3 := aG.fro hR.1 (m * 7 + 3)
       have f4 := aG.fro hR.1 (m * 7 + 4)
       have f5 := aG.fro hR.1 (m * 7 + 5)
       have f6 := aG.fro hR.1 (m * 7 + 6)
       have h16 : ρ (.tmp 52) = .pointer (some ⟨g, m * 7, none⟩) := hv 16 52 rfl (hd ⟨16, .data⟩ (by simp) rfl)
       have h13 : ρ (.tmp 50) = .agg (aS (h j)) := hv 13 50 rfl (hd ⟨13, .data⟩ (by simp) rfl)
       have hr : (Instr.storeAt 102 (.pointer (some ⟨g, m * 7, none⟩)) (.agg (aS (h j)))).run prog u = .ok () ((((((((u).setCell ⟨g, m * 7, none⟩ (.int .i64 (h j).u)).setCell ⟨g, m * 7 + 1, none⟩ (.int .i64 (h j).s)).setCell ⟨g, m * 7 + 2, none⟩ (.int .i64 (h j).lo)).setCell ⟨g, m * 7 + 3, none⟩ (.int .i64 (h j).hi)).setCell ⟨g, m * 7 + 4, none⟩ (.int .i64 (h j).p)).setCell ⟨g, m * 7 + 5, none⟩ (.int .i64 (h j).t)).setCell ⟨g, m * 7 + 6, none⟩ (.int .i64 (h j).sh)) := by go_simp
       have hR2 := aG.set hR.1 (show m < n from by omega) (cT (h j)) rfl
       have hB2 := bp (g := g) hg (cT (h j)) u (m * 7) hR.2
       exact .inl ⟨rfl, .inr (.inr ⟨rfl, _, cC rfl h16 h13 hr, ⟨hR2.congr (fun k _ => by by_cases e : k = m <;> simp [aN, e, hIJ, hJI]), hB2⟩, trivial⟩)⟩
      intro u i o ρ hR ho hρ hc hf hd
      have hi : i < 17 := by
       have := (Array.getElem?_eq_some_iff.1 ho).1
       simpa using this
      obtain rfl | rfl | rfl | rfl | rfl | rfl | rfl | rfl | rfl | rfl | rfl | rfl | rfl | rfl | rfl | rfl | rfl : i = 0 \/ i = 1 \/ i = 2 \/ i = 3 \/ i = 4 \/ i = 5 \/ i = 6 \/ i = 7 \/ i = 8 \/ i = 9 \/ i = 10 \/ i = 11 \/ i = 12 \/ i = 13 \/ i = 14 \/ i = 15 \/ i = 16 := by omega
      all_goals (simp only [List.getElem?_toArray, List.getElem?_cons_zero, List.getElem?_cons_succ, Option.some.injEq] at ho; subst ho)
      ·exact yr rfl (hρ 9 (by kernel_rfl)) hR
      ·exact yr rfl (hρ 1 (by kernel_rfl)) hR
      ·have h0 : ρ (.tmp 18) = .int .i64 (j : Int) := dq hd 0 18
       have h1 : ρ (.tmp 19) = .int .i64 (a : Int) := dq hd 1 19
       exact yr (aD rfl h0 h1 (by go_simp)) rfl hR
      ·have h2 : ρ (.tmp 20) = .bool true := dq hd 2 20
       exact yr rfl h2 hR
      ·exact yq hd 3 21 rfl (hρ 3 (by kernel_rfl)) hR
      ·exact yq hd 3 21 rfl (hρ 0 (by kernel_rfl)) hR
      ·exact yq hd 3 21 rfl (hρ 9 (by kernel_rfl)) hR
      ·have h5 : ρ (.tmp 23) = .slice (some ⟨g, 0, none⟩) n c := dq hd 5 23
       have h6 : ρ (.tmp 24) = .int .i64 (j : Int) := dq hd 6 24
       exact yq hd 3 21 (au rfl h5 h6 (by go_simp)) rfl hR
      ·have R0 : az u g n h := HROW.out.1.below hR
       obtain ⟨d0, d1, d2, d3, d4, d5, d6⟩ := az.seven R0 (show j < n from by omega)
       clear R0
       have h7 : ρ (.tmp 25) = .pointer (some ⟨g, j * 7, none⟩) := dq hd 7 25
       exact yq hd 3 21 (ai rfl h7 (by go_simp)) rfl hR
      ·exact yq hd 3 21 rfl (hρ 0 (by kernel_rfl)) hR
      ·exact yq hd 3 21 rfl (hρ 9 (by kernel_rfl)) hR
      ·have h10 : ρ (.tmp 28) = .int .i64 (j : Int) := dq hd 10 28
       exact yq hd 3 21 (aD rfl h10 (hc _) (by go_simp)) rfl hR
      ·have h9 : ρ (.tmp 27) = .slice (some ⟨g, 0, none⟩) n c := dq hd 9 27
       have h11 : ρ (.tmp 29) = .int .i64 (m : Int) := dq hd 11 29
       exact yq hd 3 21 (au rfl h9 h11 (by go_simp)) rfl hR
      ·have R0 : az u g n h := HROW.out.1.below hR
       obtain ⟨d0, d1, d2, d3, d4, d5, d6⟩ := az.seven R0 (show m < n from by omega)
       clear R0
       have h12 : ρ (.tmp 30) = .pointer (some ⟨g, m * 7, none⟩) := dq hd 12 30
       exact yq hd 3 21 (ai rfl h12 (by go_simp)) rfl hR
      ·have g3 : ρ (.tmp 21) = .bool true := gq hd 3 21
       have h8 : ρ (.tmp 26) = .agg (aS (h j)) := dq hd 8 26
       have h13 : ρ (.tmp 31) = .agg (aS (h m)) := dq hd 13 31
       have h4 : ρ (.tmp 22) = .func (.func 164) #[] #[] := dq hd 4 22
       refine .inl ⟨(by show (match ρ (.tmp 21) with | .bool b => b == true | _ => false) = true; rw [g3]; rfl), .inr ⟨_, _, cn rfl h4 (args := #[.agg (aS (h j)), .agg (aS (h m))]) (by simp [h8, h13]) (by kernel_rfl), ?_⟩⟩
       refine (cq (h j) (h m) _).mono ?_
       rintro e u' ⟨rfl, b'⟩
       exact ⟨_, rfl, rfl, ak hR b', b'⟩
      ·have h14 : ρ (.tmp 32) = .int .i64 (bV (h j) (h m)) := dq hd 14 32
       exact yq hd 3 21 (aD rfl h14 (hc _) (by go_simp)) rfl hR
      have h3 : ρ (.tmp 21) = .bool true := dq hd 3 21
      have h15 : ρ (.tmp 33) = .bool true := dq hd 15 33
      exact yr (aA rfl h3) (by simpa using h15) hR
     have hc0 : ¬ bV (h j) (h m) < 0 := fun e => hx ((dI _ _).1 e)
     have HL : Hid (¬ cm (h j) (h (j - 1))) := by rw [show j - 1 = m by omega]; exact hx
     clear hx hm
     go_wp2
     refine wp_region_any (by kernel_rfl) ?_
     refine aX (fun u => Below wr.heap.size wr u) (fun i v u => match i with
      | 0 => v = .int .i64 (j : Int)
      | 1 => v = .int .i64 (a : Int)
      | 2 => v = .bool true
      | 3 => v = .bool true
      | 4 => v = .func (.func 164) #[] #[]
      | 5 => v = .slice (some ⟨g, 0, none⟩) n c
      | 6 => v = .int .i64 (j : Int)
      | 7 => v = .pointer (some ⟨g, j * 7, none⟩)
      | 8 => v = .agg (aS (h j))
      | 9 => v = .slice (some ⟨g, 0, none⟩) n c
      | 10 => v = .int .i64 (j : Int)
      | 11 => v = .int .i64 (m : Int)
      | 12 => v = .pointer (some ⟨g, m * 7, none⟩)
      | 13 => v = .agg (aS (h m))
      | 14 => v = .int .i64 (bV (h j) (h m))
      | 15 => v = .bool false
      | 16 => v = .bool false
      | _ => True) (by kernel_rfl) (by kernel_rfl) (fun _ _ _ _ h _ => h) (Below.refl _ _).drew ?_ ?_ _ _ rfl (by decide) (fun i => by simp [Array.getD]; try (split <;> rfl))
     ·intro vs u hR hall
      have e16 : vs 16 = .bool false := hall 16 (by simp)
      simp only [bm]
      rw [e16]
      clear hall e16
      have RX : az u g n h := HROW.out.1.below hR
      have BX := ak HROW.out.2 hR
      have HX : Hid (az u g n h /\ aH a b f h /\ aC h a (k + 1) /\ Below w0.heap.size w0 u) := ⟨RX, HP.out, HI.out.fin hjk (.inr HL.out), BX⟩
      clear RX BX hR HROW HP HI
      go_simp
      go_wp2
      go_roundw
      case rel => exact ⟨k + 1, h, by omega, by omega, by go_num, HX.out.1, HX.out.2.1, HX.out.2.2.1, HX.out.2.2.2⟩
      case measure => simp [intOf]; omega
     intro u i o ρ hR ho hρ hc hf hd
     have hi : i < 17 := by
      have := (Array.getElem?_eq_some_iff.1 ho).1
      simpa using this
     obtain rfl | rfl | rfl | rfl | rfl | rfl | rfl | rfl | rfl | rfl | rfl | rfl | rfl | rfl | rfl | rfl | rfl : i = 0 \/ i = 1 \/ i = 2 \/ i = 3 \/ i = 4 \/ i = 5 \/ i = 6 \/ i = 7 \/ i = 8 \/ i = 9 \/ i = 10 \/ i = 11 \/ i = 12 \/ i = 13 \/ i = 14 \/ i = 15 \/ i = 16 := by omega
     all_goals (simp only [List.getElem?_toArray, List.getElem?_cons_zero, List.getElem?_cons_succ, Option.some.injEq] at ho; subst ho)
     ·exact yr rfl (hρ 9 (by kernel_rfl)) hR
     ·exact yr rfl (hρ 1 (by kernel_rfl)) hR
     ·have h0 : ρ (.tmp 18) = .int .i64 (j : Int) := dq hd 0 18
      have h1 : ρ (.tmp 19) = .int .i64 (a : Int) := dq hd 1 19
      exact yr (aD rfl h0 h1 (by go_simp)) rfl hR
     ·have h2 : ρ (.tmp 20) = .bool true := dq hd 2 20
      exact yr rfl h2 hR
     ·exact yq hd 3 21 rfl (hρ 3 (by kernel_rfl)) hR
     ·exact yq hd 3 21 rfl (hρ 0 (by kernel_rfl)) hR
     ·exact yq hd 3 21 rfl (hρ 9 (by kernel_rfl)) hR
     ·have h5 : ρ (.tmp 23) = .slice (some ⟨g, 0, none⟩) n c := dq hd 5 23
      have h6 : ρ (.tmp 24) = .int .i64 (j : Int) := dq hd 6 24
      exact yq hd 3 21 (au rfl h5 h6 (by go_simp)) rfl hR
     ·have R0 : az u g n h := HROW.out.1.below hR
      obtain ⟨d0, d1, d2, d3, d4, d5, d6⟩ := az.seven R0 (show j < n from by omega)
      clear R0
      have h7 : ρ (.tmp 25) = .pointer (some ⟨g, j * 7, none⟩) := dq hd 7 25
      exact yq hd 3 21 (ai rfl h7 (by go_simp)) rfl hR
     ·exact yq hd 3 21 rfl (hρ 0 (by kernel_rfl)) hR
     ·exact yq hd 3 21 rfl (hρ 9 (by kernel_rfl)) hR
     ·have h10 : ρ (.tmp 28) = .int .i64 (j : Int) := dq hd 10 28
      exact yq hd 3 21 (aD rfl h10 (hc _) (by go_simp)) rfl hR
     ·have h9 : ρ (.tmp 27) = .slice (some ⟨g, 0, none⟩) n c := dq hd 9 27
      have h11 : ρ (.tmp 29) = .int .i64 (m : Int) := dq hd 11 29
      exact yq hd 3 21 (au rfl h9 h11 (by go_simp)) rfl hR
     ·have R0 : az u g n h := HROW.out.1.below hR
      obtain ⟨d0, d1, d2, d3, d4, d5, d6⟩ := az.seven R0 (show m < n from by omega)
      clear R0
      have h12 : ρ (.tmp 30) = .pointer (some ⟨g, m * 7, none⟩) := dq hd 12 30
      exact yq hd 3 21 (ai rfl h12 (by go_simp)) rfl hR
     ·have g3 : ρ (.tmp 21) = .bool true := gq hd 3 21
      have h8 : ρ (.tmp 26) = .agg (aS (h j)) := dq hd 8 26
      have h13 : ρ (.tmp 31) = .agg (aS (h m)) := dq hd 13 31
      have h4 : ρ (.tmp 22) = .func (.func 164) #[] #[] := dq hd 4 22
      refine .inl ⟨(by show (match ρ (.tmp 21) with | .bool b => b == true | _ => false) = true; rw [g3]; rfl), .inr ⟨_, _, cn rfl h4 (args := #[.agg (aS (h j)), .agg (aS (h m))]) (by simp [h8, h13]) (by kernel_rfl), ?_⟩⟩
      refine (cq (h j) (h m) _).mono ?_
      rintro e u' ⟨rfl, b'⟩
      exact ⟨_, rfl, rfl, ak hR b', b'⟩
     ·have h14 : ρ (.tmp 32) = .int .i64 (bV (h j) (h m)) := dq hd 14 32
      exact yq hd 3 21 (aD rfl h14 (hc _) (by go_simp)) rfl hR
     have h3 : ρ (.tmp 21) = .bool true := dq hd 3 21
     have h15 : ρ (.tmp 33) = .bool false := dq hd 15 33
     exact yr (aA rfl h3) (by simpa using h15) hR
    have hj' : ¬ (a : Int) < (j : Int) := by omega
    go_wp2
    refine wp_region_any (by kernel_rfl) ?_
    refine aX (fun u => Below wr.heap.size wr u) (fun i v u => match i with
     | 0 => v = .int .i64 (j : Int)
     | 1 => v = .int .i64 (a : Int)
     | 2 => v = .bool false
     | 3 => v = .bool false
     | 4 => v = undef
     | 5 => v = undef
     | 6 => v = undef
     | 7 => v = undef
     | 8 => v = undef
     | 9 => v = undef
     | 10 => v = undef
     | 11 => v = undef
     | 12 => v = undef
     | 13 => v = undef
     | 14 => v = undef
     | 15 => v = undef
     | 16 => v = .bool false
     | _ => True) (by kernel_rfl) (by kernel_rfl) (fun _ _ _ _ h _ => h) (Below.refl _ _).drew ?_ ?_ _ _ rfl (by decide) (fun i => by simp [Array.getD]; try (split <;> rfl))
    ·intro vs u hR hall
     have e16 : vs 16 = .bool false := hall 16 (by simp)
     simp only [bm]
     rw [e16]
     clear hall e16
     have RX : az u g n h := HROW.out.1.below hR
     have BX := ak HROW.out.2 hR
     have HX : Hid (az u g n h /\ aH a b f h /\ aC h a (k + 1) /\ Below w0.heap.size w0 u) := ⟨RX, HP.out, HI.out.fin hjk (.inl (by omega)), BX⟩
     clear RX BX hR HROW HP HI
     go_simp
     go_wp2
     go_roundw
     case rel => exact ⟨k + 1, h, by omega, by omega, by go_num, HX.out.1, HX.out.2.1, HX.out.2.2.1, HX.out.2.2.2⟩
     case measure => simp [intOf]; omega
    intro u i o ρ hR ho hρ hc hf hd
    have hi : i < 17 := by
     have := (Array.getElem?_eq_some_iff.1 ho).1
     simpa using this
    obtain rfl | rfl | rfl | rfl | rfl | rfl | rfl | rfl | rfl | rfl | rfl | rfl | rfl | rfl | rfl | rfl | rfl : i = 0 \/ i = 1 \/ i = 2 \/ i = 3 \/ i = 4 \/ i = 5 \/ i = 6 \/ i = 7 \/ i = 8 \/ i = 9 \/ i = 10 \/ i = 11 \/ i = 12 \/ i = 13 \/ i = 14 \/ i = 15 \/ i = 16 := by omega
    all_goals (simp only [List.getElem?_toArray, List.getElem?_cons_zero, List.getElem?_cons_succ, Option.some.injEq] at ho; subst ho)
    ·exact yr rfl (hρ 9 (by kernel_rfl)) hR
    ·exact yr rfl (hρ 1 (by kernel_rfl)) hR
    ·have h0 : ρ (.tmp 18) = .int .i64 (j : Int) := dq hd 0 18
     have h1 : ρ (.tmp 19) = .int .i64 (a : Int) := dq hd 1 19
     exact yr (aD rfl h0 h1 (by go_simp)) rfl hR
    ·have h2 : ρ (.tmp 20) = .bool false := dq hd 2 20
     exact yr rfl h2 hR
    ·exact aj (.bool false) hd 3 21
    ·exact aj (.bool false) hd 3 21
    ·exact aj (.bool false) hd 3 21
    ·exact aj (.bool false) hd 3 21
    ·exact aj (.bool false) hd 3 21
    ·exact aj (.bool false) hd 3 21
    ·exact aj (.bool false) hd 3 21
    ·exact aj (.bool false) hd 3 21
    ·exact aj (.bool false) hd 3 21
    ·exact aj (.bool false) hd 3 21
    ·exact aj (.bool false) hd 3 21
    ·exact aj (.bool false) hd 3 21
    have h3 : ρ (.tmp 21) = .bool false := dq hd 3 21
    exact yr (aA rfl h3) (by simpa using hc _) hR
  have hi : ¬ (k : Int) < (b : Int) := by omega
  have HS0 : Hid (az wr g n h0 /\ aH a b f h0 /\ aC h0 a b /\ Below w0.heap.size w0 wr) := ⟨hrow0, hp0, fun p q h1 h2 h3 => hso p q h1 h2 (by omega), hbl0⟩
  clear hrow0 hp0 hso hbl0 hr hb
  go_wp2
  refine bodyPost_end (v := .tuple #[]) (by simp [results, results253, go_sem]) rfl ⟨rfl, h0, HS0.out⟩
end Go.Proofs.YtplaoagcedgdfaaGreat
namespace Go.Proofs.YtplaoagcedgdfaaGreat
open Go.Proofs.Tryz
theorem aH.of {a b : Nat} {f : Nat -> Ru} (σ τ : Nat -> Nat) (h1 : ∀ k, (k < a \/ b <= k) -> σ k = k /\ τ k = k) (h2 : ∀ k, a <= k -> k < b -> a <= σ k /\ σ k < b /\ a <= τ k /\ τ k < b) (h3 : ∀ k, τ (σ k) = k /\ σ (τ k) = k) : aH a b f (fun k => f (σ k)) :=
 ⟨σ, τ, h1, h2, h3, fun _ => rfl⟩
def ed (a b m k : Nat) : Nat := if a <= k /\ k < a + m then k - a + b else if b <= k /\ k < b + m then k - b + a else k
theorem rb (a b k : Nat) : ed a b 0 k = k := by unfold ed; rw [if_neg (by omega), if_neg (by omega)]
theorem rc {a b i : Nat} (h : a + i < b) (k : Nat) : ed a b i (cL (a + i) (b + i) k) = ed a b (i + 1) k := by
 unfold ed cL
 repeat' split
 all_goals omega
def aY (a m b k : Nat) : Nat := if a <= k /\ k < a + (b - m) then k + (m - a) else if a + (b - m) <= k /\ k < b then k - (b - m) else k
theorem uD {m i j : Nat} (h : j < i) (hi : i <= m) (hj : 0 < j) (k : Nat) : ed (m - i) m j (aY (m - (i - j)) m (m + j) k) = aY (m - i) m (m + j) k := by
 unfold ed aY
 repeat' split
 all_goals omega
theorem uE {m i j : Nat} (h : i < j) (hi : i <= m) (h0 : 0 < i) (k : Nat) : ed (m - i) (m + j - i) i (aY (m - i) m (m + (j - i)) k) = aY (m - i) m (m + j) k := by
 unfold ed aY
 repeat' split
 all_goals omega
theorem uF {m i : Nat} (hi : i <= m) (k : Nat) : ed (m - i) m i k = aY (m - i) m (m + i) k := by
 unfold ed aY
 repeat' split
 all_goals omega
theorem tn {a m b : Nat} (h1 : a <= m) (h2 : m <= b) (k : Nat) : aY a (a + (b - m)) b (aY a m b k) = k /\ aY a m b (aY a (a + (b - m)) b k) = k := by
 unfold aY
 constructor
 all_goals (repeat' split)
 all_goals omega
theorem aH.rot {a m b : Nat} (f : Nat -> Ru) (h1 : a <= m) (h2 : m <= b) : aH a b f (fun k => f (aY a m b k)) := by
 refine aH.of (aY a m b) (aY a (a + (b - m)) b) (fun k hk => ?_) (fun k ha hb => ?_) (tn h1 h2)
 ·unfold aY
  constructor
  all_goals (repeat' split)
  all_goals omega
 unfold aY
 refine ⟨?_, ?_, ?_, ?_⟩
 all_goals (repeat' split)
 all_goals omega
def cu (a i k : Nat) : Nat := if a <= k /\ k + 1 < i then k + 1 else if k + 1 = i /\ a <= k then a else k
def cZ (i e k : Nat) : Nat := if i < k /\ k < e then k - 1 else if k = i /\ i < e then e - 1 else k
theorem pH (a k : Nat) : cu a (a + 1) k = k := by
 unfold cu
 repeat' split
 all_goals omega
theorem rg {a k : Nat} (h : a <= k) (x : Nat) : cu a (k + 1) (cL k (k + 1) x) = cu a (k + 1 + 1) x := by
 unfold cu cL
 repeat' split
 all_goals omega
theorem pI (m k : Nat) : cZ m (m + 1) k = k := by
 unfold cZ
 repeat' split
 all_goals omega
theorem rh {k m : Nat} (h : 0 < k) (hm : k <= m) (x : Nat) : cZ k (m + 1) (cL k (k - 1) x) = cZ (k - 1) (m + 1) x := by
 unfold cZ cL
 repeat' split
 all_goals omega
theorem mj {a i : Nat} (h : a < i) (k : Nat) : cZ a i (cu a i k) = k /\ cu a i (cZ a i k) = k := by
 unfold cu cZ
 constructor
 all_goals (repeat' split)
 all_goals omega
theorem aH.up {a i b : Nat} (f : Nat -> Ru) (h : a < i) (hi : i <= b) : aH a b f (fun k => f (cu a i k)) := by
 refine aH.of (cu a i) (cZ a i) (fun k hk => ?_) (fun k ha hb => ?_) (mj h)
 ·unfold cu cZ
  constructor
  all_goals (repeat' split)
  all_goals omega
 unfold cu cZ
 refine ⟨?_, ?_, ?_, ?_⟩
 all_goals (repeat' split)
 all_goals omega
theorem aH.down {a i e b : Nat} (f : Nat -> Ru) (h : i < e) (ha : a <= i) (hi : e <= b) : aH a b f (fun k => f (cZ i e k)) := by
 refine aH.mono ?_ ha hi
 refine aH.of (cZ i e) (cu i e) (fun k hk => ?_) (fun k ha hb => ?_) (fun k => ⟨(mj h k).2, (mj h k).1⟩)
 ·unfold cu cZ
  constructor
  all_goals (repeat' split)
  all_goals omega
 unfold cu cZ
 refine ⟨?_, ?_, ?_, ?_⟩
 all_goals (repeat' split)
 all_goals omega
theorem pJ {f : Nat -> Ru} {a b i : Nat} (hs : aC f (a + 1) b) (h1 : a + 1 <= i) (h2 : i <= b) (hl : i = a + 1 \/ cm (f (i - 1)) (f a)) (hr : i = b \/ ¬ cm (f i) (f a)) : aC (fun k => f (cu a i k)) a b := by
 intro x y hx hxy hy
 show cE (f (cu a i x)) (f (cu a i y))
 by_cases x1 : x + 1 < i
 ·have ex : cu a i x = x + 1 := by unfold cu; rw [if_pos (by omega)]
  rw [ex]
  by_cases y1 : y + 1 < i
  ·have ey : cu a i y = y + 1 := by unfold cu; rw [if_pos (by omega)]
   rw [ey]
   exact hs.le (by omega) (by omega) (by omega)
  by_cases y2 : y + 1 = i
  ·have ey : cu a i y = a := by unfold cu; rw [if_neg (by omega), if_pos (by omega)]
   rw [ey]
   rcases hl with hl | hl
   ·omega
   exact (hs.le (by omega) (show x + 1 <= i - 1 by omega) (by omega)).trans hl.le
  have ey : cu a i y = y := by unfold cu; rw [if_neg (by omega), if_neg (by omega)]
  rw [ey]
  exact hs.le (by omega) (by omega) (by omega)
 by_cases x2 : x + 1 = i
 ·have ex : cu a i x = a := by unfold cu; rw [if_neg (by omega), if_pos (by omega)]
  have ey : cu a i y = y := by unfold cu; rw [if_neg (by omega), if_neg (by omega)]
  rw [ex, ey]
  rcases hr with hr | hr
  ·omega
  have e1 : cE (f a) (f i) := hr
  exact e1.trans (hs.le (by omega) (by omega) (by omega))
 have ex : cu a i x = x := by unfold cu; rw [if_neg (by omega), if_neg (by omega)]
 have ey : cu a i y = y := by unfold cu; rw [if_neg (by omega), if_neg (by omega)]
 rw [ex, ey]
 exact hs.le (by omega) (by omega) (by omega)
theorem m6 {f : Nat -> Ru} {a m i : Nat} (hs : aC f a m) (h1 : a <= i) (h2 : i <= m) (hl : i = a \/ ¬ cm (f m) (f (i - 1))) (hr : i = m \/ cm (f m) (f i)) : aC (fun k => f (cZ i (m + 1) k)) a (m + 1) := by
 intro x y hx hxy hy
 show cE (f (cZ i (m + 1) x)) (f (cZ i (m + 1) y))
 have lo : ∀ z, z < i -> cZ i (m + 1) z = z := fun z hz => by unfold cZ; rw [if_neg (by omega), if_neg (by omega)]
 have at' : cZ i (m + 1) i = m := by unfold cZ; rw [if_neg (by omega), if_pos (by omega)]; omega
 have hi' : ∀ z, i < z -> z < m + 1 -> cZ i (m + 1) z = z - 1 := fun z h1 h2 => by unfold cZ; rw [if_pos (by omega)]
 by_cases y1 : y < i
 ·rw [lo x (by omega), lo y y1]
  exact hs.le hx (by omega) (by omega)
 by_cases y2 : y = i
 ·subst y2
  rw [lo x hxy, at']
  rcases hl with hl | hl
  ·omega
  have e1 : cE (f (y - 1)) (f m) := hl
  exact (hs.le hx (by omega) (by omega)).trans e1
 rw [hi' y (by omega) hy]
 by_cases x1 : x < i
 ·rw [lo x x1]
  exact hs.le hx (by omega) (by omega)
 by_cases x2 : x = i
 ·subst x2
  rw [at']
  rcases hr with hr | hr
  ·omega
  exact hr.le.trans (hs.le (by omega) (by omega) (by omega))
 rw [hi' x (by omega) (by omega)]
 exact hs.le (by omega) (by omega) (by omega)
structure Cutd (f : Nat -> Ru) (a m b mid s : Nat) : Prop where
 hm : mid = (a + b) / 2
 am : a <= m
 mb : m <= b
 ab : a < b
 lo : (mid < m -> mid + m - b <= s /\ s <= mid) /\ (m <= mid -> a <= s /\ s <= m)
 p1 : (mid < m /\ s = mid + m - b) \/ (m <= mid /\ s = a) \/ cE (f (s - 1)) (f (mid + m - s))
 p2 : (mid < m /\ s = mid) \/ (m <= mid /\ s = m) \/ cm (f (mid + m - s - 1)) (f s)
theorem Cutd.in' {f : Nat -> Ru} {a m b mid s : Nat} (h : Cutd f a m b mid s) : a <= s /\ s <= m /\ m <= mid + m - s /\ mid + m - s <= b /\ s <= mid /\ mid <= mid + m - s /\ a <= mid /\ mid < b /\ s <= mid + m := by
 obtain ⟨h1, h2, h3, h4, h5, _, _⟩ := h
 omega
theorem Cutd.cross {f : Nat -> Ru} {a m b mid s : Nat} (h : Cutd f a m b mid s) (sl : aC f a m) (sr : aC f m b) {x y : Nat} (hx : a <= x) (hx' : x < mid) (hy : mid <= y) (hy' : y < b) :
 cE (f (aY s m (mid + m - s) x)) (f (aY s m (mid + m - s) y)) := by
 obtain ⟨i1, i2, i3, i4, i5, i6, i7, i8, i9⟩ := h.in'
 have h1 := h.hm
 have h4 := h.ab
 have lo := h.lo
 by_cases x1 : x < s
 ·have ex : aY s m (mid + m - s) x = x := by unfold aY; rw [if_neg (by omega), if_neg (by omega)]
  rw [ex]
  by_cases y1 : y < mid + m - s
  ·have ey : aY s m (mid + m - s) y = y - (mid + m - s - m) := by unfold aY; rw [if_neg (by omega), if_pos (by omega)]
   rw [ey]
   exact sl.le hx (by omega) (by omega)
  have ey : aY s m (mid + m - s) y = y := by unfold aY; rw [if_neg (by omega), if_neg (by omega)]
  rw [ey]
  rcases h.p1 with p | p | p
  ·omega
  ·omega
  exact ((sl.le hx (show x <= s - 1 by omega) (by omega)).trans p).trans (sr.le (by omega) (by omega) hy')
 have ex : aY s m (mid + m - s) x = x + (m - s) := by unfold aY; rw [if_pos (by omega)]
 rw [ex]
 by_cases y1 : y < mid + m - s
 ·have ey : aY s m (mid + m - s) y = y - (mid + m - s - m) := by unfold aY; rw [if_neg (by omega), if_pos (by omega)]
  rw [ey]
  rcases h.p2 with p | p | p
  ·omega
  ·omega
  exact ((sr.le (by omega) (show x + (m - s) <= mid + m - s - 1 by omega) (by omega)).trans p.le).trans (sl.le (by omega) (by omega) (by omega))
 have ey : aY s m (mid + m - s) y = y := by unfold aY; rw [if_neg (by omega), if_neg (by omega)]
 rw [ey]
 exact sr.le (by omega) (by omega) hy'
theorem Cutd.runs {f : Nat -> Ru} {a m b mid s : Nat} (h : Cutd f a m b mid s) (sl : aC f a m) (sr : aC f m b) :
 aC (fun k => f (aY s m (mid + m - s) k)) a s /\ aC (fun k => f (aY s m (mid + m - s) k)) s mid /\ aC (fun k => f (aY s m (mid + m - s) k)) mid (mid + m - s) /\ aC (fun k => f (aY s m (mid + m - s) k)) (mid + m - s) b := by
 obtain ⟨i1, i2, i3, i4, i5, i6, i7, i8, i9⟩ := h.in'
 have e1 : ∀ k, k < s -> aY s m (mid + m - s) k = k := fun k hk => by unfold aY; rw [if_neg (by omega), if_neg (by omega)]
 have e2 : ∀ k, s <= k -> k < mid -> aY s m (mid + m - s) k = k + (m - s) := fun k h1 h2 => by unfold aY; rw [if_pos (by omega)]
 have e3 : ∀ k, mid <= k -> k < mid + m - s -> aY s m (mid + m - s) k = k - (mid + m - s - m) := fun k h1 h2 => by unfold aY; rw [if_neg (by omega), if_pos (by omega)]
 have e4 : ∀ k, mid + m - s <= k -> aY s m (mid + m - s) k = k := fun k h1 => by unfold aY; rw [if_neg (by omega), if_neg (by omega)]
 refine ⟨fun x y hx hxy hy => ?_, fun x y hx hxy hy => ?_, fun x y hx hxy hy => ?_, fun x y hx hxy hy => ?_⟩
 ·show cE (f (aY _ _ _ x)) (f (aY _ _ _ y)); rw [e1 x (by omega), e1 y hy]; exact sl.le hx (by omega) (by omega)
 ·show cE (f (aY _ _ _ x)) (f (aY _ _ _ y)); rw [e2 x hx (by omega), e2 y (by omega) hy]; exact sr.le (by omega) (by omega) (by omega)
 ·show cE (f (aY _ _ _ x)) (f (aY _ _ _ y)); rw [e3 x hx (by omega), e3 y (by omega) hy]; exact sl.le (by omega) (by omega) (by omega)
 show cE (f (aY _ _ _ x)) (f (aY _ _ _ y)); rw [e4 x hx, e4 y (by omega)]; exact sr.le (by omega) (by omega) (by omega)
theorem ia {g g1 g2 : Nat -> Ru} {a mid b : Nat} (h1 : a <= mid) (h2 : mid <= b) (hc : ∀ x y, a <= x -> x < mid -> mid <= y -> y < b -> cE (g x) (g y)) (p1 : aH a mid g g1) (s1 : aC g1 a mid) (p2 : aH mid b g1 g2) (s2 : aC g2 mid b) : aC g2 a b := by
 intro x y hx hxy hy
 by_cases y1 : y < mid
 ·rw [p2.out (.inl (by omega)), p2.out (.inl y1)]
  exact s1 x y hx hxy y1
 by_cases x1 : mid <= x
 ·exact s2 x y x1 hxy hy
 rw [p2.out (.inl (by omega))]
 obtain ⟨j, j1, j2, ej⟩ := p2.from' (k := y) (by omega) hy
 obtain ⟨i, i1, i2, ei⟩ := p1.from' (k := x) hx (by omega)
 rw [ej, ei, p1.out (.inr j1)]
 exact hc i j i1 i2 j1 j2
end Go.Proofs.YtplaoagcedgdfaaGreat
namespace Go.Proofs.YtplaoagcedgdfaaGreat
open Go.RowKit Go.Proofs.Tryz
theorem az.ext {w : World} {g n : Nat} {f f' : Nat -> Ru} (h : az w g n f) (e : ∀ k, f k = f' k) : az w g n f' := aG.congr h (fun k _ => by rw [e k])
theorem fw (g n c a b m : Nat) (f : Nat -> Ru) (w0 w : World) (hb : Below w0.heap.size w0 w) (hg : w0.heap.size <= g) (hr : az w g n f) (hab : a + m <= b) (hbn : b + m <= n) (hn : n <= 1000000) :
 Calls prog 264 #[.slice (some ⟨g, 0, none⟩) n c, .int .i64 (a : Int), .int .i64 (b : Int), .int .i64 (m : Int), .func (.func 164) #[] #[]] w fun e w' => e = .returned (.tuple #[]) /\ az w' g n (fun k => f (ed a b m k)) /\ Below w0.heap.size w0 w' := by
 go_enter func264, ntmps264
 go_wp2
 go_loopw [10] (fun i wr => ∃ (k : Nat), k <= m /\ i = .int .i64 k /\ az wr g n (fun x => f (ed a b k x)) /\ Below w0.heap.size w0 wr) (fun i _ => m - (intOf i).toNat)
 case atStart => exact ⟨0, by omega, rfl, az.ext hr (fun k => by rw [rb]), hb⟩
 case round =>
  obtain ⟨z, hz, rfl, hrow, hbl⟩ := hrel
  obtain ⟨h, hh⟩ : ∃ h : Nat -> Ru, h = fun x => f (ed a b z x) := ⟨_, rfl⟩
  rw [<- hh] at hrow
  have HH : Hid (h = fun x => f (ed a b z x)) := hh
  have HROW : Hid (az wr g n h /\ Below w0.heap.size w0 wr) := ⟨hrow, hbl⟩
  clear hrow hbl hh hr hb
  by_cases hlt : z < m
  ·have hi' : (z : Int) < (m : Int) := by omega
   obtain ⟨p, hp⟩ : ∃ p, p = a + z := ⟨_, rfl⟩
   obtain ⟨q, hq⟩ : ∃ q, q = b + z := ⟨_, rfl⟩
   have wp' : IntKind.i64.wrap ((a : Int) + (z : Int)) = (p : Int) := by rw [IntKind.wrap_i64]; omega
   have wq' : IntKind.i64.wrap ((b : Int) + (z : Int)) = (q : Int) := by rw [IntKind.wrap_i64]; omega
   have hpn : (p : Int) < (n : Int) := by omega
   have hqn : (q : Int) < (n : Int) := by omega
   have hIJ : ¬ p = q := by omega
   have hJI : ¬ q = p := by omega
   have HP : Hid (p = a + z /\ q = b + z) := ⟨hp, hq⟩
   have hpn2 : p < n := by omega
   have hqn2 : q < n := by omega
   clear hp hq
   go_wp2
   refine wp_region_any (by kernel_rfl) ?_
   refine fD (fun l u => az u g n (fun k => if l 21 = true /\ k = p then h q else if l 23 = true /\ k = q then h p else h k) /\ Below w0.heap.size w0 u) (fun _ _ => True) (fun i v u => match i with
    | 0 => v = .slice (some ⟨g, 0, none⟩) n c
    | 1 => v = .int .i64 (a : Int)
    | 2 => v = .int .i64 (z : Int)
    | 3 => v = .int .i64 (p : Int)
    | 4 => v = .slice (some ⟨g, 0, none⟩) n c
    | 5 => v = .int .i64 (b : Int)
    | 6 => v = .int .i64 (z : Int)
    | 7 => v = .int .i64 (q : Int)
    | 8 => v = .slice (some ⟨g, 0, none⟩) n c
    | 9 => v = .int .i64 (b : Int)
    | 10 => v = .int .i64 (z : Int)
    | 11 => v = .int .i64 (q : Int)
    | 12 => v = .pointer (some ⟨g, q * 7, none⟩)
    | 13 => v = .agg (aS (h q))
    | 14 => v = .slice (some ⟨g, 0, none⟩) n c
    | 15 => v = .int .i64 (a : Int)
    | 16 => v = .int .i64 (z : Int)
    | 17 => v = .int .i64 (p : Int)
    | 18 => v = .pointer (some ⟨g, p * 7, none⟩)
    | 19 => v = .agg (aS (h p))
    | 20 => v = .pointer (some ⟨g, p * 7, none⟩)
    | 22 => v = .pointer (some ⟨g, q * 7, none⟩)
    | _ => True) (by kernel_rfl) (by kernel_rfl) (fun _ _ _ _ h _ => h) (fun _ => trivial) ⟨aG.congr (aG.below HROW.out.1 (Below.refl _ _).drew) (fun k _ => by simp), HROW.out.2.drew⟩ ?_ ?_ _ _ rfl (by decide) (fun i => by simp [Array.getD]; try (split <;> rfl))
   ·intro vs u hR _
    have R1 : az u g n (fun k => h (cL p q k)) := hR.1.congr (fun k _ => congrArg cT (by by_cases e1 : k = p <;> by_cases e2 : k = q <;> simp [cL, e1, e2, hJI, hIJ]))
    have R2 : az u g n (fun k => f (ed a b (z + 1) k)) := az.ext R1 (fun k => by rw [<- rc (show a + z < b by omega), <- HP.out.1, <- HP.out.2, HH.out])
    have HX : Hid (az u g n (fun k => f (ed a b (z + 1) k)) /\ Below w0.heap.size w0 u) := ⟨R2, hR.2⟩
    clear R1 R2 hR HROW HH
    simp only [bm]
    go_simp
    go_wp2
    go_roundw
    case rel => exact ⟨z + 1, by omega, by go_num, HX.out.1, HX.out.2⟩
    case measure => simp [intOf]; omega
   intro u i o ρ l hR ho hli hcl hρ hc hf hd hv
   have hi : i < 24 := by
    have := (Array.getElem?_eq_some_iff.1 ho).1
    simpa using this
   obtain rfl | rfl | rfl | rfl | rfl | rfl | rfl | rfl | rfl | rfl | rfl | rfl | rfl | rfl | rfl | rfl | rfl | rfl | rfl | rfl | rfl | rfl | rfl | rfl : i = 0 \/ i = 1 \/ i = 2 \/ i = 3 \/ i = 4 \/ i = 5 \/ i = 6 \/ i = 7 \/ i = 8 \/ i = 9 \/ i = 10 \/ i = 11 \/ i = 12 \/ i = 13 \/ i = 14 \/ i = 15 \/ i = 16 \/ i = 17 \/ i = 18 \/ i = 19 \/ i = 20 \/ i = 21 \/ i = 22 \/ i = 23 := by omega
   all_goals (simp only [List.getElem?_toArray, List.getElem?_cons_zero, List.getElem?_cons_succ, Option.some.injEq] at ho; subst ho)
   ·exact yr rfl (hρ 0 (by kernel_rfl)) (by simpa [aN] using hR) trivial
   ·exact yr rfl (hρ 1 (by kernel_rfl)) (by simpa [aN] using hR) trivial
   ·exact yr rfl (hρ 10 (by kernel_rfl)) (by simpa [aN] using hR) trivial
   ·have h1 : ρ (.tmp 17) = .int .i64 (a : Int) := hv 1 17 rfl (hd ⟨1, .data⟩ (by simp) rfl)
    have h2 : ρ (.tmp 18) = .int .i64 (z : Int) := hv 2 18 rfl (hd ⟨2, .data⟩ (by simp) rfl)
    exact yr (aD rfl h1 h2 (by go_simp)) rfl (by simpa [aN] using hR) trivial
   ·exact yr rfl (hρ 0 (by kernel_rfl)) (by simpa [aN] using hR) trivial
   ·exact yr rfl (hρ 2 (by kernel_rfl)) (by simpa [aN] using hR) trivial
   ·exact yr rfl (hρ 10 (by kernel_rfl)) (by simpa [aN] using hR) trivial
   ·have h5 : ρ (.tmp 21) = .int .i64 (b : Int) := hv 5 21 rfl (hd ⟨5, .data⟩ (by simp) rfl)
    have h6 : ρ (.tmp 22) = .int .i64 (z : Int) := hv 6 22 rfl (hd ⟨6, .data⟩ (by simp) rfl)
    exact yr (aD rfl h5 h6 (by go_simp)) rfl (by simpa [aN] using hR) trivial
   ·exact yr rfl (hρ 0 (by kernel_rfl)) (by simpa [aN] using hR) trivial
   ·exact yr rfl (hρ 2 (by kernel_rfl)) (by simpa [aN] using hR) trivial
   ·exact yr rfl (hρ 10 (by kernel_rfl)) (by simpa [aN] using hR) trivial
   ·have h9 : ρ (.tmp 25) = .int .i64 (b : Int) := hv 9 25 rfl (hd ⟨9, .data⟩ (by simp) rfl)
    have h10 : ρ (.tmp 26) = .int .i64 (z : Int) := hv 10 26 rfl (hd ⟨10, .data⟩ (by simp) rfl)
    exact yr (aD rfl h9 h10 (by go_simp)) rfl (by simpa [aN] using hR) trivial
   ·have h8 : ρ (.tmp 24) = .slice (some ⟨g, 0, none⟩) n c := hv 8 24 rfl (hd ⟨8, .data⟩ (by simp) rfl)
    have h11 : ρ (.tmp 27) = .int .i64 (q : Int) := hv 11 27 rfl (hd ⟨11, .data⟩ (by simp) rfl)
    exact yr (au rfl h8 h11 (by go_simp)) rfl (by simpa [aN] using hR) trivial
   ·have n1 : l 21 = false := (by cases hx : l 21; (rfl); (have h1 := hcl 21 _ rfl hx ⟨13, .data⟩ (by simp) rfl; rw [hli] at h1; cases h1))
    have n2 : l 23 = false := (by cases hx : l 23; (rfl); (have h1 := hcl 23 _ rfl hx ⟨13, .phase⟩ (by simp) rfl; rw [hli] at h1; cases h1))
    have R0 : az u g n h := hR.1.congr (fun k _ => by simp [n1, n2])
    obtain ⟨d0, d1, d2, d3, d4, d5, d6⟩ := az.seven R0 (show q < n from by omega)
    clear R0
    have h12 : ρ (.tmp 28) = .pointer (some ⟨g, q * 7, none⟩) := hv 12 28 rfl (hd ⟨12, .data⟩ (by simp) rfl)
    exact yr (ai rfl h12 (by go_simp)) rfl (by simpa [aN] using hR) trivial
   ·exact yr rfl (hρ 0 (by kernel_rfl)) (by simpa [aN] using hR) trivial
   ·exact yr rfl (hρ 1 (by kernel_rfl)) (by simpa [aN] using hR) trivial
   ·exact yr rfl (hρ 10 (by kernel_rfl)) (by simpa [aN] using hR) trivial
   ·have h15 : ρ (.tmp 31) = .int .i64 (a : Int) := hv 15 31 rfl (hd ⟨15, .data⟩ (by simp) rfl)
    have h16 : ρ (.tmp 32) = .int .i64 (z : Int) := hv 16 32 rfl (hd ⟨16, .data⟩ (by simp) rfl)
    exact yr (aD rfl h15 h16 (by go_simp)) rfl (by simpa [aN] using hR) trivial
   ·have h14 : ρ (.tmp 30) = .slice (some ⟨g, 0, none⟩) n c := hv 14 30 rfl (hd ⟨14, .data⟩ (by simp) rfl)
    have h17 : ρ (.tmp 33) = .int .i64 (p : Int) := hv 17 33 rfl (hd ⟨17, .data⟩ (by simp) rfl)
    exact yr (au rfl h14 h17 (by go_simp)) rfl (by simpa [aN] using hR) trivial
   ·have n1 : l 21 = false := (by cases hx : l 21; (rfl); (have h1 := hcl 21 _ rfl hx ⟨19, .phase⟩ (by simp) rfl; rw [hli] at h1; cases h1))
    have n2 : l 23 = false := (by cases hx : l 23; (rfl); (have h1 := hcl 23 _ rfl hx ⟨19, .data⟩ (by simp) rfl; rw [hli] at h1; cases h1))
    have R0 : az u g n h := hR.1.congr (fun k _ => by simp [n1, n2])
    obtain ⟨d0, d1, d2, d3, d4, d5, d6⟩ := az.seven R0 (show p < n from by omega)
    clear R0
    have h18 : ρ (.tmp 34) = .pointer (some ⟨g, p * 7, none⟩) := hv 18 34 rfl (hd ⟨18, .data⟩ (by simp) rfl)
    exact yr (ai rfl h18 (by go_simp)) rfl (by simpa [aN] using hR) trivial
   ·have h0 : ρ (.tmp 16) = .slice (some ⟨g, 0, none⟩) n c := hv 0 16 rfl (hd ⟨0, .data⟩ (by simp) rfl)
    have h3 : ρ (.tmp 19) = .int .i64 (p : Int) := hv 3 19 rfl (hd ⟨3, .data⟩ (by simp) rfl)
    exact yr (au rfl h0 h3 (by go_simp)) rfl (by simpa [aN] using hR) trivial
   ·obtain ⟨d0, d1, d2, d3, d4, d5, d6⟩ := az.seven hR.1 (show p < n from by omega)
    have f0 := aG.fro hR.1 (p * 7)
    have f1 := aG.fro hR.1 (p * 7 + 1)
    have f2 := aG.fro hR.1 (p * 7 + 2)
    have f3 := aG.fro hR.1 (p * 7 + 3)
    have f4 := aG.fro hR.1 (p * 7 + 4)
    have f5 := aG.fro hR.1 (p * 7 + 5)
    have f6 := aG.fro hR.1 (p * 7 + 6)
    have h20 : ρ (.tmp 36) = .pointer (some ⟨g, p * 7, none⟩) := hv 20 36 rfl (hd ⟨20, .data⟩ (by simp) rfl)
    have h13 : ρ (.tmp 29) = .agg (aS (h q)) := hv 13 29 rfl (hd ⟨13, .data⟩ (by simp) rfl)
    have hr : (Instr.storeAt 102 (.pointer (some ⟨g, p * 7, none⟩)) (.agg (aS (h q)))).run prog u = .ok () ((((((((u).setCell ⟨g, p * 7, none⟩ (.int .i64 (h q).u)).setCell ⟨g, p * 7 + 1, none⟩ (.int .i64 (h q).s)).setCell ⟨g, p * 7 + 2, none⟩ (.int .i64 (h q).lo)).setCell ⟨g, p * 7 + 3, none⟩ (.int .i64 (h q).hi)).setCell ⟨g, p * 7 + 4, none⟩ (.int .i64 (h q).p)).setCell ⟨g, p * 7 + 5, none⟩ (.int .i64 (h q).t)).setCell ⟨g, p * 7 + 6, none⟩ (.int .i64 (h q).sh)) := by go_simp
    have hR2 := aG.set hR.1 (show p < n from by omega) (cT (h q)) rfl
    have hB2 := bp (g := g) hg (cT (h q)) u (p * 7) hR.2
    exact .inl ⟨rfl, .inr (.inr ⟨rfl, _, cC rfl h20 h13 hr, ⟨hR2.congr (fun k _ => by by_cases e : k = p <;> simp [aN, e, hIJ, hJI]), hB2⟩, trivial⟩)⟩
   ·have h4 : ρ (.tmp 20) = .slice (some ⟨g, 0, none⟩) n c := hv 4 20 rfl (hd ⟨4, .data⟩ (by simp) rfl)
    have h7 : ρ (.tmp 23) = .int .i64 (q : Int) := hv 7 23 rfl (hd ⟨7, .data⟩ (by simp) rfl)
    exact yr (au rfl h4 h7 (by go_simp)) rfl (by simpa [aN] using hR) trivial
   obtain ⟨d0, d1, d2, d3, d4, d5, d6⟩ := az.seven hR.1 (show q < n from by omega)
   have f0 := aG.fro hR.1 (q * 7)
   have f1 := aG.fro hR.1 (q * 7 + 1)
   have f2 := aG.fro hR.1 (q * 7 + 2)
   have f3 := aG.fro hR.1 (q * 7 + 3)
   have f4 := aG.fro hR.1 (q * 7 + 4)
   have f5 := aG.fro hR.1 (q * 7 + 5)
   have f6 := aG.fro hR.1 (q * 7 + 6)
   have h22 : ρ (.tmp 37) = .pointer (some ⟨g, q * 7, none⟩) := hv 22 37 rfl (hd ⟨22, .data⟩ (by simp) rfl)
   have h19 : ρ (.tmp 35) = .agg (aS (h p)) := hv 19 35 rfl (hd ⟨19, .data⟩ (by simp) rfl)
   have hr : (Instr.storeAt 102 (.pointer (some ⟨g, q * 7, none⟩)) (.agg (aS (h p)))).run prog u = .ok () ((((((((u).setCell ⟨g, q * 7, none⟩ (.int .i64 (h p).u)).setCell ⟨g, q * 7 + 1, none⟩ (.int .i64 (h p).s)).setCell ⟨g, q * 7 + 2, none⟩ (.int .i64 (h p).lo)).setCell ⟨g, q * 7 + 3, none⟩ (.int .i64 (h p).hi)).setCell ⟨g, q * 7 + 4, none⟩ (.int .i64 (h p).p)).setCell ⟨g, q * 7 + 5, none⟩ (.int .i64 (h p).t)).setCell ⟨g, q * 7 + 6, none⟩ (.int .i64 (h p).sh)) := by go_simp
   have hR2 := aG.set hR.1 (show q < n from by omega) (cT (h p)) rfl
   have hB2 := bp (g := g) hg (cT (h p)) u (q * 7) hR.2
   exact .inl ⟨rfl, .inr (.inr ⟨rfl, _, cC rfl h22 h19 hr, ⟨hR2.congr (fun k _ => by by_cases e : k = q <;> simp [aN, e, hIJ, hJI]), hB2⟩, trivial⟩)⟩
  have hi' : ¬ (z : Int) < (m : Int) := by omega
  have HX : Hid (az wr g n (fun k => f (ed a b m k)) /\ Below w0.heap.size w0 wr) := ⟨by have e := HH.out; subst e; rw [show m = z by omega]; exact HROW.out.1, HROW.out.2⟩
  clear HROW HH
  go_wp2
  refine bodyPost_end (v := .tuple #[]) (by simp [results, results264, go_sem]) rfl ⟨rfl, HX.out⟩
theorem jN (g n c a m b : Nat) (f : Nat -> Ru) (w0 w : World) (hb : Below w0.heap.size w0 w) (hg : w0.heap.size <= g) (hr : az w g n f) (h1 : a < m) (h2 : m < b) (hbn : b <= n) (hn : n <= 1000000) :
 Calls prog 259 #[.slice (some ⟨g, 0, none⟩) n c, .int .i64 (a : Int), .int .i64 (m : Int), .int .i64 (b : Int), .func (.func 164) #[] #[]] w fun e w' => e = .returned (.tuple #[]) /\ az w' g n (fun k => f (aY a m b k)) /\ Below w0.heap.size w0 w' := by
 obtain ⟨d, hd⟩ : ∃ d, d = m - a := ⟨_, rfl⟩
 obtain ⟨d', hd'⟩ : ∃ d', d' = b - m := ⟨_, rfl⟩
 have wi : IntKind.i64.wrap ((m : Int) - (a : Int)) = (d : Int) := by rw [IntKind.wrap_i64]; omega
 have wj : IntKind.i64.wrap ((b : Int) - (m : Int)) = (d' : Int) := by rw [IntKind.wrap_i64]; omega
 have HD : Hid (d = m - a /\ d' = b - m) := ⟨hd, hd'⟩
 clear hd hd'
 go_enter func259, ntmps259
 go_wp2
 go_loopw [10, 11] (fun i j wr => ∃ (p q : Nat) (h : Nat -> Ru), 0 < p /\ 0 < q /\ p <= m - a /\ m + q <= b /\ i = .int .i64 p /\ j = .int .i64 q /\ az wr g n h /\ (∀ k, h (aY (m - p) m (m + q) k) = f (aY a m b k)) /\ Below w0.heap.size w0 wr) (fun i j _ => (intOf i).toNat + (intOf j).toNat)
 case atStart =>
  obtain ⟨e1, e2⟩ := HD.out
  exact ⟨d, d', f, by omega, by omega, by omega, by omega, by first | rfl | simp, by first | rfl | simp, hr, fun k => by rw [show m - d = a by omega, show m + d' = b by omega], hb⟩
 case round =>
  obtain ⟨p, q, h, hp, hq, hpa, hqb, rfl, rfl, hrow, hx, hbl⟩ := hrel
  have HROW : Hid (az wr g n h /\ (∀ k, h (aY (m - p) m (m + q) k) = f (aY a m b k)) /\ Below w0.heap.size w0 wr) := ⟨hrow, hx, hbl⟩
  have HQ : Hid (p <= m - a /\ m + q <= b) := ⟨hpa, hqb⟩
  obtain ⟨x, hx1⟩ : ∃ x, x = m - p := ⟨_, rfl⟩
  have ws1 : IntKind.i64.wrap ((m : Int) - (p : Int)) = (x : Int) := by rw [IntKind.wrap_i64]; omega
  have HX1 : Hid (x = m - p) := hx1
  clear hrow hx hbl hr hb wi wj HD hx1
  by_cases he : p = q
  ·subst he
   have e1 : ((p : Int) == (p : Int)) = true := by simp
   clear hpa hqb
   go_wp2_with fail
   refine (fw g n c x m p h w0 _ HROW.out.2.2 hg HROW.out.1 (by have := HX1.out; have := HQ.out; omega) (by have := HX1.out; have := HQ.out; omega) hn).mono ?_
   rintro e w1 ⟨rfl, R1, B1⟩
   have HX : Hid (az w1 g n (fun k => f (aY a m b k)) /\ Below w0.heap.size w0 w1) := ⟨az.ext R1 (fun k => by rw [HX1.out, uF (by have := HQ.out; omega)]; exact HROW.out.2.1 k), B1⟩
   clear HROW R1 B1
   go_wp2
   refine bodyPost_end (v := .tuple #[]) (by simp [results, results259, go_sem]) rfl ⟨rfl, HX.out⟩
  have e2 : ¬ (p : Int) = (q : Int) := by omega
  by_cases hgt : q < p
  ·have e3 : (q : Int) < (p : Int) := by omega
   obtain ⟨y, hy⟩ : ∃ y, y = p - q := ⟨_, rfl⟩
   have ws2 : IntKind.i64.wrap ((p : Int) - (q : Int)) = (y : Int) := by rw [IntKind.wrap_i64]; omega
   have HY : Hid (y = p - q) := hy
   clear hy hpa hqb
   go_wp2_with fail
   refine (fw g n c x m q h w0 _ HROW.out.2.2 hg HROW.out.1 (by have := HX1.out; have := HQ.out; omega) (by have := HX1.out; have := HQ.out; omega) hn).mono ?_
   rintro e w1 ⟨rfl, R1, B1⟩
   have HX : Hid (az w1 g n (fun k => h (ed x m q k)) /\ (∀ k, h (ed x m q (aY (m - y) m (m + q) k)) = f (aY a m b k)) /\ Below w0.heap.size w0 w1) := ⟨R1, fun k => by rw [HX1.out, HY.out, uD hgt (by have := HQ.out; omega) hq]; exact HROW.out.2.1 k, B1⟩
   clear HROW R1 B1
   go_wp2
   go_roundw
   case rel => (have := HY.out; have := HQ.out; exact ⟨y, q, _, by omega, by omega, by omega, by omega, by first | rfl | go_num, rfl, HX.out.1, HX.out.2.1, HX.out.2.2⟩)
   case measure => (have := HY.out; simp [intOf]; omega)
  have e3 : ¬ (q : Int) < (p : Int) := by omega
  obtain ⟨y, hy⟩ : ∃ y, y = q - p := ⟨_, rfl⟩
  obtain ⟨z, hz⟩ : ∃ z, z = m + q - p := ⟨_, rfl⟩
  have ws2 : IntKind.i64.wrap ((q : Int) - (p : Int)) = (y : Int) := by rw [IntKind.wrap_i64]; omega
  have ws3 : IntKind.i64.wrap ((m : Int) + (q : Int)) = (m : Int) + (q : Int) := by rw [IntKind.wrap_i64]; omega
  have ws4 : IntKind.i64.wrap ((m : Int) + (q : Int) - (p : Int)) = (z : Int) := by rw [IntKind.wrap_i64]; omega
  have HY : Hid (y = q - p /\ z = m + q - p) := ⟨hy, hz⟩
  clear hy hz hpa hqb
  go_wp2_with fail
  refine (fw g n c x z p h w0 _ HROW.out.2.2 hg HROW.out.1 (by have := HX1.out; have := HY.out; have := HQ.out; omega) (by have := HX1.out; have := HY.out; have := HQ.out; omega) hn).mono ?_
  rintro e w1 ⟨rfl, R1, B1⟩
  have HX : Hid (az w1 g n (fun k => h (ed x z p k)) /\ (∀ k, h (ed x z p (aY (m - p) m (m + y) k)) = f (aY a m b k)) /\ Below w0.heap.size w0 w1) := ⟨R1, fun k => by rw [HX1.out, HY.out.1, HY.out.2, uE (by omega) (by have := HQ.out; omega) hp]; exact HROW.out.2.1 k, B1⟩
  clear HROW R1 B1
  go_wp2
  go_roundw
  case rel => (have := HY.out; have := HQ.out; exact ⟨p, y, _, by omega, by omega, by omega, by omega, rfl, by first | rfl | go_num, HX.out.1, HX.out.2.1, HX.out.2.2⟩)
  case measure => (have := HY.out; simp [intOf]; omega)
end Go.Proofs.YtplaoagcedgdfaaGreat
