/- Parts of the proof. -/
import Derived.Test.YtplaoagcedgdfaaGreatZq24
import Derived.Test.YtplaoagcedgdfaaGreatZq15
set_option linter.unusedVariables false
set_option linter.unusedSimpArgs false
set_option maxHeartbeats 8000000
set_option maxRecDepth 20000
namespace Go.Proofs.YtplaoagcedgdfaaGreat
open Go.RowKit Go.Joins Go.Proofs.Tryz
theorem eT (X : VT) (a : Option Addr) (c : Nat) (w : World) (h : gC w X a c) :
 Calls prog 35 #[.agg (tL X a X.m c).toArray] w fun e w' => e = .returned (.bool (dJ X)) /\ Below w.heap.size w w' := by
 obtain ⟨x0, hx0⟩ : ∃ x, aw X.nx 0 1000000000 = x := ⟨_, rfl⟩
 obtain ⟨x1, hx1⟩ : ∃ x, decide (X.m <= 16) = x := ⟨_, rfl⟩
 obtain ⟨G, hG⟩ : ∃ G, G = w.heap.size := ⟨_, rfl⟩
 obtain ⟨W, hW⟩ : ∃ W, W = w.alloc (.cells (tL X a X.m c).toArray 38) := ⟨_, rfl⟩
 have HE : Hid (dJ X = (x0 && (x1 && aI (bE X) X.m)) /\ aw X.nx 0 1000000000 = x0 /\ decide (X.m <= 16) = x1 /\ Below w.heap.size w W /\ ag W G 38 (tL X a X.m c).toArray /\ gC W X a c) := ⟨by unfold dJ; rw [hx0, hx1], hx0, hx1, by rw [hW]; exact ac _ _, by rw [hW, hG]; exact ag.new _ _ _, h.below (by rw [hW]; exact ac _ _)⟩
 rw [HE.out.1]
 have hm2 := h.2.1
 clear hx0 hx1 h
 obtain ⟨⟨y0, y1⟩, yf⟩ := HE.out.2.2.2.2.1.tc2
 clear yf
 go_enter func35, ntmps35
 go_upto_region 1 with fail
 rw [<- hW, <- hG]
 clear hW hG
 go_wp2_with fail
 refine (aE _ _ _ _ _ HE.out.2.1).mono ?_
 rintro e w1 ⟨rfl, hw⟩
 have hw := hw.symm
 subst hw
 cases x0
 case false =>
  go_wp2
  go_ret
  exact ⟨rfl, HE.out.2.2.2.1⟩
 have hnx : 0 <= X.nx /\ X.nx <= 1000000000 := ke HE.out.2.1
 obtain ⟨hnx0, hnx1⟩ := hnx
 have wq : IntKind.i64.wrap (X.nx - 1) = X.nx - 1 := by rw [IntKind.wrap_i64]; omega
 cases x1
 case false =>
  have h16 : (16 : Int) < (X.m : Int) := by have := of_decide_eq_false HE.out.2.2.1; omega
  go_wp2
  go_ret
  exact ⟨rfl, HE.out.2.2.2.1⟩
 have h16 : ¬ (16 : Int) < (X.m : Int) := by have := of_decide_eq_true HE.out.2.2.1; omega
 go_wp2
 clear y0 y1
 go_loopw [3] (fun i wr => ∃ k : Nat, k <= X.m /\ i = .int .i64 k /\ aI (bE X) k = true /\ Below W.heap.size W wr) (fun i _ => X.m - (intOf i).toNat)
 case atStart => exact ⟨0, Nat.zero_le _, rfl, rfl, Below.refl _ _⟩
 case round =>
  obtain ⟨k, hk, rfl, hall, hbl⟩ := hrel
  obtain ⟨⟨y0, y1⟩, yf⟩ := (HE.out.2.2.2.2.1.below hbl).tc2
  clear yf
  by_cases hlt : k < X.m
  ·have hi : (k : Int) < (X.m : Int) := by omega
   obtain ⟨b, off, rfl, hp, hbd⟩ := (HE.out.2.2.2.2.2.below hbl).at hlt
   obtain ⟨hb0, a1, c1, a2, c2, a3, c3, a4, c4, a5, c5, hr, r1, r2, r3, r4, r5⟩ := hp.cells
   obtain ⟨x, hx⟩ : ∃ x, eD (X.f k) = x := ⟨_, rfl⟩
   obtain ⟨xi, hxi⟩ : ∃ x, aw (X.f k).id 0 (X.nx - 1) = x := ⟨_, rfl⟩
   have HX : Hid (eD (X.f k) = x /\ aw (X.f k).id 0 (X.nx - 1) = xi) := ⟨hx, hxi⟩
   have HA : Hid (aI (bE X) k = true /\ Below w.heap.size w wr /\ Below W.heap.size W wr /\ bE X k = (x && (xi && (decide (k = 0) || decide ((X.f (k - 1)).id < (X.f k).id))))) := ⟨hall, ae HE.out.2.2.2.1 hbl, hbl, by unfold bE; rw [hx, hxi]⟩
   have HK : Hid (ag wr G 38 (tL X (some ⟨b, off, none⟩) X.m c).toArray /\ b < wr.heap.size /\ wr.rangeAt b (off + k * 13) (dL (X.f k) a1 (X.f k).q.ws.length c1 a2 (X.f k).q.bs.length c2 a3 (X.f k).np c3 a4 (X.f k).hs.length c4 a5 (X.f k).nt c5) /\ Rd wr 0 (ah (X.f k).q.ws) (.slice a1 (X.f k).q.ws.length c1) /\ Rd wr 0 (af (X.f k).q.bs) (.slice a2 (X.f k).q.bs.length c2) /\ Rd wr 0 (.list 8 (X.f k).np (fun i => aa (pT ((X.f k).pt i)))) (.slice a3 (X.f k).np c3) /\ Rd wr 0 (af (X.f k).hs) (.slice a4 (X.f k).hs.length c4) /\ Rd wr 0 (.list 6 (X.f k).nt (fun i => aa (aT ((X.f k).tl i)))) (.slice a5 (X.f k).nt c5) /\ fV (X.f k)) := ⟨HE.out.2.2.2.2.1.below hbl, hb0, hr, r1, r2, r3, r4, r5, hbd⟩
   have HJ0 : Hid (∀ j, j < X.m -> wr.rangeAt b (off + j * 13) [.int .i64 (X.f j).id]) := by
    show ∀ j, j < X.m -> wr.rangeAt b (off + j * 13) [.int .i64 (X.f j).id]
    intro j hj
    obtain ⟨b', off', he, hp', _⟩ := (HE.out.2.2.2.2.2.below hbl).at hj
    simp only [Option.some.injEq, Addr.mk.injEq, and_true] at he
    obtain ⟨rfl, rfl⟩ := he
    obtain ⟨_, _, _, _, _, _, _, _, _, _, _, hr', _⟩ := hp'.cells
    intro i v hv
    match i, hv with
    | 0, hv => simp at hv; subst hv; exact hr' 0 _ rfl
    | i + 1, hv => simp at hv
   obtain ⟨j, hj⟩ : ∃ j, j = k - 1 := ⟨_, rfl⟩
   obtain ⟨pos, hpo⟩ : ∃ t, decide (0 < k) = t := ⟨_, rfl⟩
   obtain ⟨ge, hge⟩ : ∃ t, decide ((X.f k).id <= (X.f j).id) = t := ⟨_, rfl⟩
   have HD : Hid (decide (0 < k) = pos /\ decide ((X.f k).id <= (X.f j).id) = ge /\ j = k - 1) := ⟨hpo, hge, hj⟩
   have hij : (j : Int) < (X.m : Int) := by omega
   have HJ : Hid (wr.rangeAt b (off + j * 13) [.int .i64 (X.f j).id]) := HJ0.out j (by omega)
   clear hall hbl hx hxi hb0 hr hp hbd r1 r2 r3 r4 r5 hj hpo hge HJ0
   go_upto_region 6 with fail
   clear y0 y1
   refine wp_region_any (by kernel_rfl) ?_
   refine aX (fun u => Below wr.heap.size wr u) (fun i v u => match i with
    | 0 => v = .pointer (some ⟨G, 1, none⟩)
    | 1 => v = .slice (some ⟨b, off, none⟩) X.m c
    | 2 => v = .int .i64 (k : Int)
    | 3 => v = .pointer (some ⟨b, off + k * 13, none⟩)
    | 4 => v = .agg (dL (X.f k) a1 (X.f k).q.ws.length c1 a2 (X.f k).q.bs.length c2 a3 (X.f k).np c3 a4 (X.f k).hs.length c4 a5 (X.f k).nt c5).toArray
    | 5 => v = .bool x
    | 6 => v = .bool (!x)
    | 7 => v = .bool (!x)
    | 8 => v = cond x (.pointer (some ⟨G, 1, none⟩)) undef
    | 9 => v = cond x (.slice (some ⟨b, off, none⟩) X.m c) undef
    | 10 => v = cond x (.int .i64 (k : Int)) undef
    | 11 => v = cond x (.pointer (some ⟨b, off + k * 13, none⟩)) undef
    | 12 => v = cond x (.pointer (some ⟨b, off + k * 13, none⟩)) undef
    | 13 => v = cond x (.int .i64 (X.f k).id) undef
    | 14 => v = cond x (.pointer (some ⟨G, 0, none⟩)) undef
    | 15 => v = cond x (.int .i64 X.nx) undef
    | 16 => v = cond x (.int .i64 (X.nx - 1)) undef
    | 17 => v = cond x (.bool xi) undef
    | 18 => v = cond x (.bool (!xi)) undef
    | 19 => v = cond x (.bool (!xi)) (.bool true)
    | 20 => v = cond x (.bool (!xi)) (.bool true)
    | 21 => v = cond x (cond xi (.int .i64 (k : Int)) undef) undef
    | 22 => v = cond x (cond xi (.bool pos) undef) undef
    | 23 => v = cond x (cond xi (.bool pos) undef) undef
    | 24 => v = cond x (cond xi (cond pos (.pointer (some ⟨G, 1, none⟩)) undef) undef) undef
    | 25 => v = cond x (cond xi (cond pos (.slice (some ⟨b, off, none⟩) X.m c) undef) undef) undef
    | 26 => v = cond x (cond xi (cond pos (.int .i64 (k : Int)) undef) undef) undef
    | 27 => v = cond x (cond xi (cond pos (.int .i64 (j : Int)) undef) undef) undef
    | 28 => v = cond x (cond xi (cond pos (.pointer (some ⟨b, off + j * 13, none⟩)) undef) undef) undef
    | 29 => v = cond x (cond xi (cond pos (.pointer (some ⟨b, off + j * 13, none⟩)) undef) undef) undef
    | 30 => v = cond x (cond xi (cond pos (.int .i64 (X.f j).id) undef) undef) undef
    | 31 => v = cond x (cond xi (cond pos (.pointer (some ⟨G, 1, none⟩)) undef) undef) undef
    | 32 => v = cond x (cond xi (cond pos (.slice (some ⟨b, off, none⟩) X.m c) undef) undef) undef
    | 33 => v = cond x (cond xi (cond pos (.int .i64 (k : Int)) undef) undef) undef
    | 34 => v = cond x (cond xi (cond pos (.pointer (some ⟨b, off + k * 13, none⟩)) undef) undef) undef
    | 35 => v = cond x (cond xi (cond pos (.pointer (some ⟨b, off + k * 13, none⟩)) undef) undef) undef
    | 36 => v = cond x (cond xi (cond pos (.int .i64 (X.f k).id) undef) undef) undef
    | 37 => v = cond x (cond xi (cond pos (.bool ge) undef) undef) undef
    | 38 => v = cond x (cond xi (cond pos (.bool ge) (.bool false)) undef) undef
    | 39 => v = cond x (cond xi (cond pos (.bool ge) (.bool false)) (.bool true)) (.bool true)
    | _ => v = undef) (by kernel_rfl) (by kernel_rfl) (fun _ _ _ _ h _ => h) (by first | exact Below.refl _ _ | exact (Below.refl _ _).drew) ?_ ?_ _ _ rfl (by decide) (fun i => by simp [Array.getD]; try (split <;> rfl))
   ·intro vs u hR hall
    simp only [bm]
    cases x
    ·have e39 : vs 39 = .bool true := hall 39 (by simp)
     rw [e39]
     clear hall e39
     have HF : Hid (aI (bE X) X.m = false /\ Below w.heap.size w u) := ⟨cM hlt (by rw [HA.out.2.2.2]; rfl), ae HA.out.2.1 hR⟩
     clear HK HA hR
     go_simp
     go_wp2
     go_ret
     exact ⟨by rw [HF.out.1]; rfl, HF.out.2⟩
    cases xi
    ·have e39 : vs 39 = .bool true := hall 39 (by simp)
     rw [e39]
     clear hall e39
     have HF : Hid (aI (bE X) X.m = false /\ Below w.heap.size w u) := ⟨cM hlt (by rw [HA.out.2.2.2]; rfl), ae HA.out.2.1 hR⟩
     clear HK HA hR
     go_simp
     go_wp2
     go_ret
     exact ⟨by rw [HF.out.1]; rfl, HF.out.2⟩
    cases pos
    ·have e39 : vs 39 = .bool false := hall 39 (by simp)
     rw [e39]
     clear hall e39
     have hn9 := of_decide_eq_false HD.out.1
     have k0 : k = 0 := by omega
     have hgood : bE X k = true := by rw [HA.out.2.2.2]; simp [k0]
     have HF : Hid (aI (bE X) (k + 1) = true /\ Below W.heap.size W u) := ⟨cF HA.out.1 hgood, ae HA.out.2.2.1 hR⟩
     clear HK HA hR hgood k0 hn9
     go_simp
     go_wp2
     go_roundw
     case rel => exact ⟨k + 1, by omega, by go_num, HF.out.1, HF.out.2⟩
     case measure => simp [intOf]; omega
    cases ge
    ·have e39 : vs 39 = .bool false := hall 39 (by simp)
     rw [e39]
     clear hall e39
     have hn9 := of_decide_eq_true HD.out.1
     have k0 : ¬ k = 0 := by omega
     have t1 := of_decide_eq_false HD.out.2.1
     have hgood : bE X k = true := by rw [HA.out.2.2.2]; rw [<- HD.out.2.2]; simp [k0]; omega
     have HF : Hid (aI (bE X) (k + 1) = true /\ Below W.heap.size W u) := ⟨cF HA.out.1 hgood, ae HA.out.2.2.1 hR⟩
     clear HK HA hR hgood k0 hn9 t1
     go_simp
     go_wp2
     go_roundw
     case rel => exact ⟨k + 1, by omega, by go_num, HF.out.1, HF.out.2⟩
     case measure => simp [intOf]; omega
    have e39 : vs 39 = .bool true := hall 39 (by simp)
    rw [e39]
    clear hall e39
    have hn9 := of_decide_eq_true HD.out.1
    have k0 : ¬ k = 0 := by omega
    have t1 := of_decide_eq_true HD.out.2.1
    have HF : Hid (aI (bE X) X.m = false /\ Below w.heap.size w u) := ⟨cM hlt (by rw [HA.out.2.2.2]; rw [<- HD.out.2.2]; simp [k0]; omega), ae HA.out.2.1 hR⟩
    clear HK HA hR k0 hn9 t1
    go_simp
    go_wp2
    go_ret
    exact ⟨by rw [HF.out.1]; rfl, HF.out.2⟩
   intro u i o ρ hR ho hρ hc hf hd
   have hi : i < 40 := by
    have := (Array.getElem?_eq_some_iff.1 ho).1
    simpa using this
   obtain rfl | rfl | rfl | rfl | rfl | rfl | rfl | rfl | rfl | rfl | rfl | rfl | rfl | rfl | rfl | rfl | rfl | rfl | rfl | rfl | rfl | rfl | rfl | rfl | rfl | rfl | rfl | rfl | rfl | rfl | rfl | rfl | rfl | rfl | rfl | rfl | rfl | rfl | rfl | rfl : i = 0 \/ i = 1 \/ i = 2 \/ i = 3 \/ i = 4 \/ i = 5 \/ i = 6 \/ i = 7 \/ i = 8 \/ i = 9 \/ i = 10 \/ i = 11 \/ i = 12 \/ i = 13 \/ i = 14 \/ i = 15 \/ i = 16 \/ i = 17 \/ i = 18 \/ i = 19 \/ i = 20 \/ i = 21 \/ i = 22 \/ i = 23 \/ i = 24 \/ i = 25 \/ i = 26 \/ i = 27 \/ i = 28 \/ i = 29 \/ i = 30 \/ i = 31 \/ i = 32 \/ i = 33 \/ i = 34 \/ i = 35 \/ i = 36 \/ i = 37 \/ i = 38 \/ i = 39 := by omega
   all_goals (simp only [List.getElem?_toArray, List.getElem?_cons_zero, List.getElem?_cons_succ, Option.some.injEq] at ho; subst ho)
   ·exact yr (aq rfl (hρ 1 (by kernel_rfl)) (by go_simp)) rfl hR
   ·have y9 := (HK.out.1.below hR).rng 1 _ rfl
    exact yr (ai rfl (dq hd 0 21) (by go_simp)) rfl hR
   ·exact yr rfl (hρ 3 (by kernel_rfl)) hR
   ·exact yr (au rfl (dq hd 1 22) (dq hd 2 23) (by go_simp)) rfl hR
   ·have h3 : _ = _ := dq hd 3 24
    have hr : (Instr.loadAt 141 (.pointer (some ⟨b, off + k * 13, none⟩))).run prog u = .ok (.agg (dL (X.f k) a1 (X.f k).q.ws.length c1 a2 (X.f k).q.bs.length c2 a3 (X.f k).np c3 a4 (X.f k).hs.length c4 a5 (X.f k).nt c5).toArray) u := run_loadAt_mid u b (off + k * 13) 141 (dL (X.f k) a1 (X.f k).q.ws.length c1 a2 (X.f k).q.bs.length c2 a3 (X.f k).np c3 a4 (X.f k).hs.length c4 a5 (X.f k).nt c5) _ (ax HK.out.2.2.1 HK.out.2.1 hR) underlying141 rfl (by kernel_rfl)
    exact yr (ai rfl h3 hr) rfl hR
   ·have h4 : _ = _ := dq hd 4 25
    refine .inl ⟨rfl, .inr ⟨_, _, bj rfl (hf _) (args := #[.agg (dL (X.f k) a1 (X.f k).q.ws.length c1 a2 (X.f k).q.bs.length c2 a3 (X.f k).np c3 a4 (X.f k).hs.length c4 a5 (X.f k).nt c5).toArray]) (by simp [h4]) (by kernel_rfl), ?_⟩⟩
    refine (l9 (X.f k) a1 c1 a2 c2 a3 c3 a4 c4 a5 c5 _ (HK.out.2.2.2.1.below hR) (HK.out.2.2.2.2.1.below hR) (HK.out.2.2.2.2.2.1.below hR) (HK.out.2.2.2.2.2.2.1.below hR) (HK.out.2.2.2.2.2.2.2.1.below hR) HK.out.2.2.2.2.2.2.2.2).mono ?_
    rintro e u' ⟨he, b'⟩
    exact ⟨_, he.trans (by rw [HX.out.1] <;> rfl), rfl, ae hR b', b'⟩
   ·exact yr (bH rfl (dq hd 5 26) (by go_simp)) rfl hR
   ·exact yr rfl (dq hd 6 27) hR
   ·cases x
    ·exact aj (.bool true) hd 7 28
    exact yq hd 7 28 (aq rfl (hρ 1 (by kernel_rfl)) (by go_simp)) rfl hR
   ·cases x
    ·exact aj (.bool true) hd 7 28
    have y9 := (HK.out.1.below hR).rng 1 _ rfl
    exact yq hd 7 28 (ai rfl (dq hd 8 29) (by go_simp)) rfl hR
   ·cases x
    ·exact aj (.bool true) hd 7 28
    exact yq hd 7 28 rfl (hρ 3 (by kernel_rfl)) hR
   ·cases x
    ·exact aj (.bool true) hd 7 28
    exact yq hd 7 28 (au rfl (dq hd 9 30) (dq hd 10 31) (by go_simp)) rfl hR
   ·cases x
    ·exact aj (.bool true) hd 7 28
    exact yq hd 7 28 (aq rfl (dq hd 11 32) (by go_simp)) rfl hR
   ·cases x
    ·exact aj (.bool true) hd 7 28
    have y9 : u.cell? ⟨b, off + k * 13, none⟩ = some (.int .i64 (X.f k).id) := (ax HK.out.2.2.1 HK.out.2.1 hR) 0 _ rfl
    exact yq hd 7 28 (ai rfl (dq hd 12 33) (by go_simp)) rfl hR
   ·cases x
    ·exact aj (.bool true) hd 7 28
    exact yq hd 7 28 (aq rfl (hρ 1 (by kernel_rfl)) (by go_simp)) rfl hR
   ·cases x
    ·exact aj (.bool true) hd 7 28
    have y9 : u.cell? ⟨G, 0, none⟩ = some (.int .i64 X.nx) := (HK.out.1.below hR).rng 0 _ rfl
    exact yq hd 7 28 (ai rfl (dq hd 14 35) (by go_simp)) rfl hR
   ·cases x
    ·exact aj (.bool true) hd 7 28
    exact yq hd 7 28 (aD rfl (dq hd 15 36) (hc _) (by go_simp)) rfl hR
   ·cases x
    ·exact aj (.bool true) hd 7 28
    have g7 : ρ (.tmp 28) = .bool false := gq hd 7 28
    have h13 : _ = _ := dq hd 13 34
    have h16 : _ = _ := dq hd 16 37
    refine .inl ⟨(by show (match ρ (.tmp 28) with | .bool b => b == false | _ => false) = true; rw [g7]; rfl), .inr ⟨_, _, bj rfl (hf _) (args := #[.int .i64 (X.f k).id, .int .i64 0, .int .i64 (X.nx - 1)]) (by simp [h13, hc, h16]) (by kernel_rfl), ?_⟩⟩
    refine (aE _ _ _ _ _ HX.out.2).mono ?_
    rintro e u' ⟨he, rfl⟩
    exact ⟨_, he.trans rfl, rfl, hR, Below.refl _ _⟩
   ·cases x
    ·exact aj (.bool true) hd 7 28
    exact yq hd 7 28 (bH rfl (dq hd 17 38) (by go_simp)) rfl hR
   ·cases x
    ·exact yr (aA rfl (dq hd 7 28)) (by simpa using hc _) hR
    exact yr (aA rfl (dq hd 7 28)) (by simpa using (dq hd 18 39)) hR
   ·exact yr rfl (dq hd 19 40) hR
   ·cases x
    ·exact aj (.bool true) hd 20 41
    cases xi
    ·exact aj (.bool true) hd 20 41
    exact yq hd 20 41 rfl (hρ 3 (by kernel_rfl)) hR
   ·cases x
    ·exact aj (.bool true) hd 20 41
    cases xi
    ·exact aj (.bool true) hd 20 41
    cases pos
    ·have hn9 := of_decide_eq_false HD.out.1
     have hn0 : ¬ (0 : Int) < (k : Int) := by omega
     exact yq hd 20 41 (aD rfl (dq hd 21 42) (hc _) (by go_simp)) rfl hR
    have hn9 := of_decide_eq_true HD.out.1
    have hn0 : (0 : Int) < (k : Int) := by omega
    exact yq hd 20 41 (aD rfl (dq hd 21 42) (hc _) (by go_simp)) rfl hR
   ·cases x
    ·exact aj (.bool true) hd 20 41
    cases xi
    ·exact aj (.bool true) hd 20 41
    exact yq hd 20 41 rfl (dq hd 22 43) hR
   ·cases x
    ·exact aj undef hd 23 44
    cases xi
    ·exact aj undef hd 23 44
    cases pos
    ·exact aj (.bool false) hd 23 44
    exact yq hd 23 44 (aq rfl (hρ 1 (by kernel_rfl)) (by go_simp)) rfl hR
   ·cases x
    ·exact aj undef hd 23 44
    cases xi
    ·exact aj undef hd 23 44
    cases pos
    ·exact aj (.bool false) hd 23 44
    have y9 := (HK.out.1.below hR).rng 1 _ rfl
    exact yq hd 23 44 (ai rfl (dq hd 24 45) (by go_simp)) rfl hR
   ·cases x
    ·exact aj undef hd 23 44
    cases xi
    ·exact aj undef hd 23 44
    cases pos
    ·exact aj (.bool false) hd 23 44
    exact yq hd 23 44 rfl (hρ 3 (by kernel_rfl)) hR
   ·cases x
    ·exact aj undef hd 23 44
    cases xi
    ·exact aj undef hd 23 44
    cases pos
    ·exact aj (.bool false) hd 23 44
    have hn9 := of_decide_eq_true HD.out.1
    have wj : IntKind.i64.wrap ((k : Int) - 1) = (j : Int) := by rw [IntKind.wrap_i64]; have := HD.out.2.2; omega
    exact yq hd 23 44 (aD rfl (dq hd 26 47) (hc _) (by go_simp)) rfl hR
   ·cases x
    ·exact aj undef hd 23 44
    cases xi
    ·exact aj undef hd 23 44
    cases pos
    ·exact aj (.bool false) hd 23 44
    exact yq hd 23 44 (au rfl (dq hd 25 46) (dq hd 27 48) (by go_simp)) rfl hR
   ·cases x
    ·exact aj undef hd 23 44
    cases xi
    ·exact aj undef hd 23 44
    cases pos
    ·exact aj (.bool false) hd 23 44
    exact yq hd 23 44 (aq rfl (dq hd 28 49) (by go_simp)) rfl hR
   ·cases x
    ·exact aj undef hd 23 44
    cases xi
    ·exact aj undef hd 23 44
    cases pos
    ·exact aj (.bool false) hd 23 44
    have y9 : u.cell? ⟨b, off + j * 13, none⟩ = some (.int .i64 (X.f j).id) := (ax HJ.out HK.out.2.1 hR) 0 _ rfl
    exact yq hd 23 44 (ai rfl (dq hd 29 50) (by go_simp)) rfl hR
   ·cases x
    ·exact aj undef hd 23 44
    cases xi
    ·exact aj undef hd 23 44
    cases pos
    ·exact aj (.bool false) hd 23 44
    exact yq hd 23 44 (aq rfl (hρ 1 (by kernel_rfl)) (by go_simp)) rfl hR
   ·cases x
    ·exact aj undef hd 23 44
    cases xi
    ·exact aj undef hd 23 44
    cases pos
    ·exact aj (.bool false) hd 23 44
    have y9 := (HK.out.1.below hR).rng 1 _ rfl
    exact yq hd 23 44 (ai rfl (dq hd 31 52) (by go_simp)) rfl hR
   ·cases x
    ·exact aj undef hd 23 44
    cases xi
    ·exact aj undef hd 23 44
    cases pos
    ·exact aj (.bool false) hd 23 44
    exact yq hd 23 44 rfl (hρ 3 (by kernel_rfl)) hR
   ·cases x
    ·exact aj undef hd 23 44
    cases xi
    ·exact aj undef hd 23 44
    cases pos
    ·exact aj (.bool false) hd 23 44
    exact yq hd 23 44 (au rfl (dq hd 32 53) (dq hd 33 54) (by go_simp)) rfl hR
   ·cases x
    ·exact aj undef hd 23 44
    cases xi
    ·exact aj undef hd 23 44
    cases pos
    ·exact aj (.bool false) hd 23 44
    exact yq hd 23 44 (aq rfl (dq hd 34 55) (by go_simp)) rfl hR
   ·cases x
    ·exact aj undef hd 23 44
    cases xi
    ·exact aj undef hd 23 44
    cases pos
    ·exact aj (.bool false) hd 23 44
    have y9 : u.cell? ⟨b, off + k * 13, none⟩ = some (.int .i64 (X.f k).id) := (ax HK.out.2.2.1 HK.out.2.1 hR) 0 _ rfl
    exact yq hd 23 44 (ai rfl (dq hd 35 56) (by go_simp)) rfl hR
   ·cases x
    ·exact aj undef hd 23 44
    cases xi
    ·exact aj undef hd 23 44
    cases pos
    ·exact aj (.bool false) hd 23 44
    cases ge
    ·have t1 := of_decide_eq_false HD.out.2.1
     exact yq hd 23 44 (aD rfl (dq hd 30 51) (dq hd 36 57) (by go_simp)) rfl hR
    have t1 := of_decide_eq_true HD.out.2.1
    exact yq hd 23 44 (aD rfl (dq hd 30 51) (dq hd 36 57) (by go_simp)) rfl hR
   ·cases x
    ·exact aj (.bool true) hd 20 41
    cases xi
    ·exact aj (.bool true) hd 20 41
    cases pos
    ·exact yq hd 20 41 (aA rfl (dq hd 23 44)) (by simpa using hc _) hR
    exact yq hd 20 41 (aA rfl (dq hd 23 44)) (by simpa using (dq hd 37 58)) hR
   cases x
   ·exact yr (aA rfl (dq hd 20 41)) (by simpa using hc _) hR
   cases xi
   ·exact yr (aA rfl (dq hd 20 41)) (by simpa using hc _) hR
   exact yr (aA rfl (dq hd 20 41)) (by simpa using (dq hd 38 59)) hR
  have hi : ¬ (k : Int) < (X.m : Int) := by omega
  have e9 : k = X.m := by omega
  have HF : Hid (aI (bE X) X.m = true /\ Below w.heap.size w wr) := ⟨by rw [<- e9]; exact hall, ae HE.out.2.2.2.1 hbl⟩
  clear hall hbl e9
  go_wp2
  go_ret
  exact ⟨by rw [HF.out.1]; rfl, HF.out.2⟩
theorem jT (X : VT) (a : Option Addr) (c : Nat) (w : World) (h : gC w X a c) :
 Calls prog 40 #[.agg (tL X a X.m c).toArray] w fun e w' => e = .returned (.int .i64 (if dJ X then (gz X X.m : Int) else 0)) /\ Below w.heap.size w w' := by
 obtain ⟨x0, hx0⟩ : ∃ x, dJ X = x := ⟨_, rfl⟩
 obtain ⟨G, hG⟩ : ∃ G, G = w.heap.size := ⟨_, rfl⟩
 obtain ⟨W, hW⟩ : ∃ W, W = w.alloc (.cells (tL X a X.m c).toArray 38) := ⟨_, rfl⟩
 have HE : Hid (dJ X = x0 /\ Below w.heap.size w W /\ ag W G 38 (tL X a X.m c).toArray /\ gC W X a c) := ⟨hx0, by rw [hW]; exact ac _ _, by rw [hW, hG]; exact ag.new _ _ _, h.below (by rw [hW]; exact ac _ _)⟩
 rw [HE.out.1]
 have hm2 := h.2.1
 clear hx0 h
 cases x0
 case false =>
  go_enter func40, ntmps40
  go_upto_region 1 with fail
  rw [<- hW, <- hG]
  clear hW hG
  go_wp2
  go_loopw [3, 4] (fun s i wr => s = .int .i64 0 /\ i = .int .i64 0 /\ Below W.heap.size W wr) (fun _ _ _ => 0)
  case atStart => exact ⟨rfl, rfl, Below.refl _ _⟩
  case round =>
   obtain ⟨rfl, rfl, hbl⟩ := hrel
   obtain ⟨⟨y0, y1⟩, yf⟩ := (HE.out.2.2.1.below hbl).tc2
   clear yf
   have HB : Hid (Below W.heap.size W wr) := hbl
   clear hbl
   by_cases h0 : X.m = 0
   ·have h1 : ¬ (0 : Int) < (X.m : Int) := by omega
    have B9 := ae HE.out.2.1 HB.out
    go_wp2
    go_ret
    exact ⟨rfl, B9⟩
   have h1 : (0 : Int) < (X.m : Int) := by omega
   go_wp2_with fail
   refine (eT X a c _ (HE.out.2.2.2.below HB.out)).mono ?_
   rintro e w1 ⟨rfl, b1⟩
   rw [HE.out.1]
   have B9 := ae (ae HE.out.2.1 HB.out) b1
   clear b1 y0 y1
   go_wp2
   go_ret
   exact ⟨rfl, B9⟩
 have h16 : X.m <= 16 := by
  have := HE.out.1
  unfold dJ at this
  simp only [Bool.and_eq_true, decide_eq_true_eq] at this
  exact this.2.1
 go_enter func40, ntmps40
 go_upto_region 1 with fail
 rw [<- hW, <- hG]
 clear hW hG
 go_wp2
 go_loopw [3, 4] (fun s i wr => ∃ k : Nat, k <= X.m /\ i = .int .i64 k /\ s = .int .i64 (gz X k : Int) /\ gz X k <= k * 2000000 /\ Below W.heap.size W wr) (fun _ i _ => X.m - (intOf i).toNat)
 case atStart => exact ⟨0, Nat.zero_le _, rfl, rfl, Nat.le_refl _, Below.refl _ _⟩
 case round =>
  obtain ⟨k, hk, rfl, rfl, hle, hbl⟩ := hrel
  obtain ⟨s, hs⟩ : ∃ s, s = gz X k := ⟨_, rfl⟩
  rw [<- hs] at hle ⊢
  have HS : Hid (s = gz X k /\ Below W.heap.size W wr) := ⟨hs, hbl⟩
  clear hs
  have hs16 : s <= 16 * 2000000 := Nat.le_trans hle (Nat.mul_le_mul_right _ (Nat.le_trans hk h16))
  obtain ⟨⟨y0, y1⟩, yf⟩ := (HE.out.2.2.1.below hbl).tc2
  clear yf hbl
  by_cases hlt : k < X.m
  ·have hi : (k : Int) < (X.m : Int) := by omega
   go_wp2_with fail
   refine (eT X a c _ (HE.out.2.2.2.below HS.out.2)).mono ?_
   rintro e w1 ⟨rfl, b1⟩
   rw [HE.out.1]
   have HB : Hid (Below W.heap.size W w1) := ae HS.out.2 b1
   clear b1 y0 y1
   obtain ⟨⟨y0, y1⟩, yf⟩ := (HE.out.2.2.1.below HB.out).tc2
   clear yf
   obtain ⟨b, off, rfl, hp, hbd⟩ := (HE.out.2.2.2.below HB.out).at hlt
   obtain ⟨hb0, a1, c1, a2, c2, a3, c3, a4, c4, a5, c5, hr, r1, r2, r3, r4, r5⟩ := hp.cells
   have d11 := hr 11 _ rfl
   obtain ⟨N, hN⟩ : ∃ N, N = (X.f k).hs.length := ⟨_, rfl⟩
   rw [<- hN] at d11 r4
   have hN2 : N <= 2000000 := by rw [hN]; exact hbd.2.2.1
   have HP : Hid (Rd w1 0 (af (X.f k).hs) (.slice a4 N c4) /\ N = (X.f k).hs.length) := ⟨r4, hN⟩
   clear hb0 hr r1 r2 r3 r4 r5 hp hbd hN
   go_wp2
   go_loopw [3, 5] (fun s' i wr => ∃ q : Nat, q <= N /\ i = .int .i64 q /\ s' = .int .i64 ((s : Int) + (cH (X.f k).hs q : Int)) /\ wr = w1) (fun _ i _ => N - (intOf i).toNat)
   case atStart => exact ⟨0, Nat.zero_le _, rfl, by simp [cH], rfl⟩
   case round =>
    obtain ⟨q, hq, rfl, rfl, hw⟩ := hrel
    subst hw
    have hcl := iO (X.f k).hs q
    obtain ⟨t, ht⟩ : ∃ t, t = cH (X.f k).hs q := ⟨_, rfl⟩
    rw [<- ht] at hcl ⊢
    have HQ : Hid (t = cH (X.f k).hs q) := ht
    clear ht
    by_cases hql : q < N
    ·have hqi : (q : Int) < (N : Int) := by omega
     obtain ⟨b4, o4, rfl, hb4, d0⟩ := HP.out.1.bit (k := q) (n := N) (by rw [<- HP.out.2]; exact hql)
     obtain ⟨x, hx⟩ : ∃ x, (X.f k).hs.getD q false = x := ⟨_, rfl⟩
     rw [hx] at d0
     have HF : Hid (cH (X.f k).hs (q + 1) = t + (if x then 0 else 1)) := by show cH (X.f k).hs (q + 1) = _; simp only [cH]; rw [hx, HQ.out]
     clear hx hb4
     cases x with
     | true =>
      go_wp2
      go_roundw
      case rel => exact ⟨q + 1, by omega, by go_num, by rw [HF.out]; rfl, trivial⟩
      case measure => simp [intOf]; omega
     | false =>
      go_wp2
      go_roundw
      case rel => exact ⟨q + 1, by omega, by go_num, by rw [HF.out]; go_num, trivial⟩
      case measure => simp [intOf]; omega
    have hqi : ¬ (q : Int) < (N : Int) := by omega
    have e8 : q = N := by omega
    have HF : Hid (gz X (k + 1) = s + t /\ s + t <= (k + 1) * 2000000) := ⟨by rw [HS.out.1, HQ.out, e8, HP.out.2]; rfl, by rw [Nat.add_mul]; omega⟩
    clear e8
    go_wp2
    go_roundw
    case rel => exact ⟨k + 1, by omega, by go_num, by rw [HF.out.1]; go_num, by rw [HF.out.1]; exact HF.out.2, HB.out⟩
    case measure => simp [intOf]; omega
  have hi : ¬ (k : Int) < (X.m : Int) := by omega
  have e9 : k = X.m := by omega
  have HF : Hid (s = gz X X.m /\ Below w.heap.size w wr) := ⟨by rw [<- e9]; exact HS.out.1, ae HE.out.2.1 HS.out.2⟩
  clear e9
  go_wp2
  go_ret
  exact ⟨by rw [<- HF.out.1]; rfl, HF.out.2⟩
end Go.Proofs.YtplaoagcedgdfaaGreat
