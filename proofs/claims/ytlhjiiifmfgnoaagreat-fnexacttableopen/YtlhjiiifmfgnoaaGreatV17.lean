/- Texts that the proof needs, joined: Tb5 CzH. -/
import Derived.Test.YtlhjiiifmfgnoaaGreatV14
import Derived.Test.YtlhjiiifmfgnoaaGreatV16
import Derived.Test.YtlhjiiifmfgnoaaGreatV6
set_option linter.unusedVariables false
set_option linter.unusedSimpArgs false
set_option maxHeartbeats 8000000
set_option maxRecDepth 20000
namespace Go.Proofs.YtlhjiiifmfgnoaaGreat
open Go.RowKit Go.Joins
theorem specTableOk_any (X : VT) (a : Option Addr) (c : Nat) (w : World) (h : TbR w X a c) :
 Calls Tryz.prog 26 #[.agg (tL X a X.m c).toArray] w fun e w' => e = .returned (.bool (okTb X)) /\ Below w.heap.size w w' := by
 obtain ⟨x0, hx0⟩ : ∃ x, inB X.nx 0 1000000000 = x := ⟨_, rfl⟩
 obtain ⟨x1, hx1⟩ : ∃ x, decide (X.m <= 16) = x := ⟨_, rfl⟩
 obtain ⟨G, hG⟩ : ∃ G, G = w.heap.size := ⟨_, rfl⟩
 obtain ⟨W, hW⟩ : ∃ W, W = w.alloc (.cells (tL X a X.m c).toArray 35) := ⟨_, rfl⟩
 have HE : Hid (okTb X = (x0 && (x1 && allN (rowB X) X.m)) /\ inB X.nx 0 1000000000 = x0 /\ decide (X.m <= 16) = x1 /\ Below w.heap.size w W /\ Blk W G 35 (tL X a X.m c).toArray /\ TbR W X a c) := ⟨by unfold okTb; rw [hx0, hx1], hx0, hx1, by rw [hW]; exact bel_alloc _ _, by rw [hW, hG]; exact Blk.new _ _ _, h.below (by rw [hW]; exact bel_alloc _ _)⟩
 rw [HE.out.1]
 have hm2 := h.2.1
 clear hx0 hx1 h
 obtain ⟨⟨y0, y1⟩, yf⟩ := HE.out.2.2.2.2.1.tc2
 clear yf
 go_enter Tryz.func26, Tryz.ntmps26
 go_upto_region 1 with fail
 rw [<- hW, <- hG]
 clear hW hG
 go_wp2_with fail
 refine (l1In_any _ _ _ _ _ HE.out.2.1).mono ?_
 rintro e w1 ⟨rfl, hw⟩
 have hw := hw.symm
 subst hw
 cases x0
 case false =>
  go_wp2
  go_ret
  exact ⟨rfl, HE.out.2.2.2.1⟩
 have hnx : 0 <= X.nx /\ X.nx <= 1000000000 := inB_yes HE.out.2.1
 obtain ⟨hnx0, hnx1⟩ := hnx
 have wq : IntKind.i64.wrap (X.nx - 1) = X.nx - 1 := by rw [IntKind.wrap_i64]; omega
 cases x1
 case false =>
  have h16 : (16 : Int) < (X.m : Int) := by have := of_decide_eq_false HE.out.2.2.1; omega
  go_wp2
  go_ret
  exact ⟨rfl, HE.out.2.2.2.1⟩
 have h16 : ¬ (16 : Int) < (X.m : Int) := by have := of_decide_eq_true HE.out.2.2.1; omega
 go_wp2
 clear y0 y1
 go_loopw [3] (fun i wr => ∃ k : Nat, k <= X.m /\ i = .int .i64 k /\ allN (rowB X) k = true /\ Below W.heap.size W wr) (fun i _ => X.m - (intOf i).toNat)
 case atStart => exact ⟨0, Nat.zero_le _, rfl, rfl, Below.refl _ _⟩
 case round =>
  obtain ⟨k, hk, rfl, hall, hbl⟩ := hrel
  obtain ⟨⟨y0, y1⟩, yf⟩ := (HE.out.2.2.2.2.1.below hbl).tc2
  clear yf
  by_cases hlt : k < X.m
  ·have hi : (k : Int) < (X.m : Int) := by omega
   obtain ⟨b, off, rfl, hp, hbd⟩ := (HE.out.2.2.2.2.2.below hbl).at hlt
   obtain ⟨hb0, a1, c1, a2, c2, a3, c3, a4, c4, a5, c5, hr, r1, r2, r3, r4, r5⟩ := hp.cells
   obtain ⟨x, hx⟩ : ∃ x, okPd (X.f k) = x := ⟨_, rfl⟩
   obtain ⟨xi, hxi⟩ : ∃ x, inB (X.f k).id 0 (X.nx - 1) = x := ⟨_, rfl⟩
   have HX : Hid (okPd (X.f k) = x /\ inB (X.f k).id 0 (X.nx - 1) = xi) := ⟨hx, hxi⟩
   have HA : Hid (allN (rowB X) k = true /\ Below w.heap.size w wr /\ Below W.heap.size W wr /\ rowB X k = (x && (xi && (decide (k = 0) || decide ((X.f (k - 1)).id < (X.f k).id))))) := ⟨hall, bel_nx HE.out.2.2.2.1 hbl, hbl, by unfold rowB; rw [hx, hxi]⟩
   have HK : Hid (Blk wr G 35 (tL X (some ⟨b, off, none⟩) X.m c).toArray /\ b < wr.heap.size /\ wr.rangeAt b (off + k * 13) (dL (X.f k) a1 (X.f k).q.ws.length c1 a2 (X.f k).q.bs.length c2 a3 (X.f k).np c3 a4 (X.f k).hs.length c4 a5 (X.f k).nt c5) /\ Rd wr 0 (intsT (X.f k).q.ws) (.slice a1 (X.f k).q.ws.length c1) /\ Rd wr 0 (boolsT (X.f k).q.bs) (.slice a2 (X.f k).q.bs.length c2) /\ Rd wr 0 (.list 8 (X.f k).np (fun i => trs (pT ((X.f k).pt i)))) (.slice a3 (X.f k).np c3) /\ Rd wr 0 (boolsT (X.f k).hs) (.slice a4 (X.f k).hs.length c4) /\ Rd wr 0 (.list 6 (X.f k).nt (fun i => trs (aT ((X.f k).tl i)))) (.slice a5 (X.f k).nt c5) /\ BdD (X.f k)) := ⟨HE.out.2.2.2.2.1.below hbl, hb0, hr, r1, r2, r3, r4, r5, hbd⟩
   have HJ0 : Hid (∀ j, j < X.m -> wr.rangeAt b (off + j * 13) [.int .i64 (X.f j).id]) := by
    show ∀ j, j < X.m -> wr.rangeAt b (off + j * 13) [.int .i64 (X.f j).id]
    intro j hj
    obtain ⟨b', off', he, hp', _⟩ := (HE.out.2.2.2.2.2.below hbl).at hj
    simp only [Option.some.injEq, Addr.mk.injEq, and_true] at he
    obtain ⟨rfl, rfl⟩ := he
    obtain ⟨_, _, _, _, _, _, _, _, _, _, _, hr', _⟩ := hp'.cells
    intro i v hv
    match i, hv with
    | 0, hv => simp at hv; subst hv; exact hr' 0 _ rfl
    | i + 1, hv => simp at hv
   obtain ⟨j, hj⟩ : ∃ j, j = k - 1 := ⟨_, rfl⟩
   obtain ⟨pos, hpo⟩ : ∃ t, decide (0 < k) = t := ⟨_, rfl⟩
   obtain ⟨ge, hge⟩ : ∃ t, decide ((X.f k).id <= (X.f j).id) = t := ⟨_, rfl⟩
   have HD : Hid (decide (0 < k) = pos /\ decide ((X.f k).id <= (X.f j).id) = ge /\ j = k - 1) := ⟨hpo, hge, hj⟩
   have hij : (j : Int) < (X.m : Int) := by omega
   have HJ : Hid (wr.rangeAt b (off + j * 13) [.int .i64 (X.f j).id]) := HJ0.out j (by omega)
   clear hall hbl hx hxi hb0 hr hp hbd r1 r2 r3 r4 r5 hj hpo hge HJ0
   go_upto_region 6 with fail
   clear y0 y1
   refine wp_region_any (by kernel_rfl) ?_
   refine wpAny_vals (fun u => Below wr.heap.size wr u) (fun i v u => match i with
    | 0 => v = .pointer (some ⟨G, 1, none⟩)
    | 1 => v = .slice (some ⟨b, off, none⟩) X.m c
    | 2 => v = .int .i64 (k : Int)
    | 3 => v = .pointer (some ⟨b, off + k * 13, none⟩)
    | 4 => v = .agg (dL (X.f k) a1 (X.f k).q.ws.length c1 a2 (X.f k).q.bs.length c2 a3 (X.f k).np c3 a4 (X.f k).hs.length c4 a5 (X.f k).nt c5).toArray
    | 5 => v = .bool x
    | 6 => v = .bool (!x)
    | 7 => v = .bool (!x)
    | 8 => v = cond x (.pointer (some ⟨G, 1, none⟩)) undef
    | 9 => v = cond x (.slice (some ⟨b, off, none⟩) X.m c) undef
    | 10 => v = cond x (.int .i64 (k : Int)) undef
    | 11 => v = cond x (.pointer (some ⟨b, off + k * 13, none⟩)) undef
    | 12 => v = cond x (.pointer (some ⟨b, off + k * 13, none⟩)) undef
    | 13 => v = cond x (.int .i64 (X.f k).id) undef
    | 14 => v = cond x (.pointer (some ⟨G, 0, none⟩)) undef
    | 15 => v = cond x (.int .i64 X.nx) undef
    | 16 => v = cond x (.int .i64 (X.nx - 1)) undef
    | 17 => v = cond x (.bool xi) undef
    | 18 => v = cond x (.bool (!xi)) undef
    | 19 => v = cond x (.bool (!xi)) (.bool true)
    | 20 => v = cond x (.bool (!xi)) (.bool true)
    | 21 => v = cond x (cond xi (.int .i64 (k : Int)) undef) undef
    | 22 => v = cond x (cond xi (.bool pos) undef) undef
    | 23 => v = cond x (cond xi (.bool pos) undef) undef
    | 24 => v = cond x (cond xi (cond pos (.pointer (some ⟨G, 1, none⟩)) undef) undef) undef
    | 25 => v = cond x (cond xi (cond pos (.slice (some ⟨b, off, none⟩) X.m c) undef) undef) undef
    | 26 => v = cond x (cond xi (cond pos (.int .i64 (k : Int)) undef) undef) undef
    | 27 => v = cond x (cond xi (cond pos (.int .i64 (j : Int)) undef) undef) undef
    | 28 => v = cond x (cond xi (cond pos (.pointer (some ⟨b, off + j * 13, none⟩)) undef) undef) undef
    | 29 => v = cond x (cond xi (cond pos (.pointer (some ⟨b, off + j * 13, none⟩)) undef) undef) undef
    | 30 => v = cond x (cond xi (cond pos (.int .i64 (X.f j).id) undef) undef) undef
    | 31 => v = cond x (cond xi (cond pos (.pointer (some ⟨G, 1, none⟩)) undef) undef) undef
    | 32 => v = cond x (cond xi (cond pos (.slice (some ⟨b, off, none⟩) X.m c) undef) undef) undef
    | 33 => v = cond x (cond xi (cond pos (.int .i64 (k : Int)) undef) undef) undef
    | 34 => v = cond x (cond xi (cond pos (.pointer (some ⟨b, off + k * 13, none⟩)) undef) undef) undef
    | 35 => v = cond x (cond xi (cond pos (.pointer (some ⟨b, off + k * 13, none⟩)) undef) undef) undef
    | 36 => v = cond x (cond xi (cond pos (.int .i64 (X.f k).id) undef) undef) undef
    | 37 => v = cond x (cond xi (cond pos (.bool ge) undef) undef) undef
    | 38 => v = cond x (cond xi (cond pos (.bool ge) (.bool false)) undef) undef
    | 39 => v = cond x (cond xi (cond pos (.bool ge) (.bool false)) (.bool true)) (.bool true)
    | _ => v = undef) (by kernel_rfl) (by kernel_rfl) (fun _ _ _ _ h _ => h) (by first | exact Below.refl _ _ | exact (Below.refl _ _).drew) ?_ ?_ _ _ rfl (by decide) (fun i => by simp [Array.getD]; try (split <;> rfl))
   ·intro vs u hR hall
    simp only [putsL]
    cases x
    ·have e39 : vs 39 = .bool true := hall 39 (by simp)
     rw [e39]
     clear hall e39
     have HF : Hid (allN (rowB X) X.m = false /\ Below w.heap.size w u) := ⟨allN_no hlt (by rw [HA.out.2.2.2]; rfl), bel_nx HA.out.2.1 hR⟩
     clear HK HA hR
     go_simp
     go_wp2
     go_ret
     exact ⟨by rw [HF.out.1]; rfl, HF.out.2⟩
    cases xi
    ·have e39 : vs 39 = .bool true := hall 39 (by simp)
     rw [e39]
     clear hall e39
     have HF : Hid (allN (rowB X) X.m = false /\ Below w.heap.size w u) := ⟨allN_no hlt (by rw [HA.out.2.2.2]; rfl), bel_nx HA.out.2.1 hR⟩
     clear HK HA hR
     go_simp
     go_wp2
     go_ret
     exact ⟨by rw [HF.out.1]; rfl, HF.out.2⟩
    cases pos
    ·have e39 : vs 39 = .bool false := hall 39 (by simp)
     rw [e39]
     clear hall e39
     have hn9 := of_decide_eq_false HD.out.1
     have k0 : k = 0 := by omega
     have hgood : rowB X k = true := by rw [HA.out.2.2.2]; simp [k0]
     have HF : Hid (allN (rowB X) (k + 1) = true /\ Below W.heap.size W u) := ⟨allN_succ HA.out.1 hgood, bel_nx HA.out.2.2.1 hR⟩
     clear HK HA hR hgood k0 hn9
     go_simp
     go_wp2
     go_roundw
     case rel => exact ⟨k + 1, by omega, by go_num, HF.out.1, HF.out.2⟩
     case measure => simp [intOf]; omega
    cases ge
    ·have e39 : vs 39 = .bool false := hall 39 (by simp)
     rw [e39]
     clear hall e39
     have hn9 := of_decide_eq_true HD.out.1
     have k0 : ¬ k = 0 := by omega
     have t1 := of_decide_eq_false HD.out.2.1
     have hgood : rowB X k = true := by rw [HA.out.2.2.2]; rw [<- HD.out.2.2]; simp [k0]; omega
     have HF : Hid (allN (rowB X) (k + 1) = true /\ Below W.heap.size W u) := ⟨allN_succ HA.out.1 hgood, bel_nx HA.out.2.2.1 hR⟩
     clear HK HA hR hgood k0 hn9 t1
     go_simp
     go_wp2
     go_roundw
     case rel => exact ⟨k + 1, by omega, by go_num, HF.out.1, HF.out.2⟩
     case measure => simp [intOf]; omega
    have e39 : vs 39 = .bool true := hall 39 (by simp)
    rw [e39]
    clear hall e39
    have hn9 := of_decide_eq_true HD.out.1
    have k0 : ¬ k = 0 := by omega
    have t1 := of_decide_eq_true HD.out.2.1
    have HF : Hid (allN (rowB X) X.m = false /\ Below w.heap.size w u) := ⟨allN_no hlt (by rw [HA.out.2.2.2]; rw [<- HD.out.2.2]; simp [k0]; omega), bel_nx HA.out.2.1 hR⟩
    clear HK HA hR k0 hn9 t1
    go_simp
    go_wp2
    go_ret
    exact ⟨by rw [HF.out.1]; rfl, HF.out.2⟩
   intro u i o ρ hR ho hρ hc hf hd
   have hi : i < 40 := by
    have := (Array.getElem?_eq_some_iff.1 ho).1
    simpa using this
   obtain rfl | rfl | rfl | rfl | rfl | rfl | rfl | rfl | rfl | rfl | rfl | rfl | rfl | rfl | rfl | rfl | rfl | rfl | rfl | rfl | rfl | rfl | rfl | rfl | rfl | rfl | rfl | rfl | rfl | rfl | rfl | rfl | rfl | rfl | rfl | rfl | rfl | rfl | rfl | rfl : i = 0 \/ i = 1 \/ i = 2 \/ i = 3 \/ i = 4 \/ i = 5 \/ i = 6 \/ i = 7 \/ i = 8 \/ i = 9 \/ i = 10 \/ i = 11 \/ i = 12 \/ i = 13 \/ i = 14 \/ i = 15 \/ i = 16 \/ i = 17 \/ i = 18 \/ i = 19 \/ i = 20 \/ i = 21 \/ i = 22 \/ i = 23 \/ i = 24 \/ i = 25 \/ i = 26 \/ i = 27 \/ i = 28 \/ i = 29 \/ i = 30 \/ i = 31 \/ i = 32 \/ i = 33 \/ i = 34 \/ i = 35 \/ i = 36 \/ i = 37 \/ i = 38 \/ i = 39 := by omega
   all_goals (simp only [List.getElem?_toArray, List.getElem?_cons_zero, List.getElem?_cons_succ, Option.some.injEq] at ho; subst ho)
   ·have s1 : ρ (.tmp 1) = .pointer (some ⟨G, 0, none⟩) := (hρ 1 (by kernel_rfl)).trans rfl
    exact .inl ⟨rfl, .inl ⟨_, u, run_field_op rfl s1 (by go_simp), rfl, hR, Below.refl _ _⟩⟩
   ·have h0 : _ = _ := hd ⟨0, .data⟩ (by simp) rfl 21 rfl
    have y9 : u.cell? ⟨G, 1, none⟩ = some (.slice (some ⟨b, off, none⟩) X.m c) := (HK.out.1.below hR).rng 1 _ rfl
    have hr : (Instr.loadAt 33 (.pointer (some ⟨G, 1, none⟩))).run Tryz.prog u = .ok (.slice (some ⟨b, off, none⟩) X.m c) u := by go_simp
    exact .inl ⟨rfl, .inl ⟨_, u, run_load_op rfl h0 hr, rfl, hR, Below.refl _ _⟩⟩
   ·have s3 : ρ (.tmp 3) = .int .i64 (k : Int) := (hρ 3 (by kernel_rfl)).trans rfl
    exact .inl ⟨rfl, .inl ⟨_, u, rfl, s3, hR, Below.refl _ _⟩⟩
   ·have h1 : _ = _ := hd ⟨1, .data⟩ (by simp) rfl 22 rfl
    have h2 : _ = _ := hd ⟨2, .data⟩ (by simp) rfl 23 rfl
    exact .inl ⟨rfl, .inl ⟨_, u, run_index_op rfl h1 h2 (by go_simp), rfl, hR, Below.refl _ _⟩⟩
   ·have h3 : _ = _ := hd ⟨3, .data⟩ (by simp) rfl 24 rfl
    have hr : (Instr.loadAt 61 (.pointer (some ⟨b, off + k * 13, none⟩))).run Tryz.prog u = .ok (.agg (dL (X.f k) a1 (X.f k).q.ws.length c1 a2 (X.f k).q.bs.length c2 a3 (X.f k).np c3 a4 (X.f k).hs.length c4 a5 (X.f k).nt c5).toArray) u := run_loadAt_mid u b (off + k * 13) 61 (dL (X.f k) a1 (X.f k).q.ws.length c1 a2 (X.f k).q.bs.length c2 a3 (X.f k).np c3 a4 (X.f k).hs.length c4 a5 (X.f k).nt c5) _ (rangeAt_below HK.out.2.2.1 HK.out.2.1 hR) Tryz.underlying61 rfl (by kernel_rfl)
    exact .inl ⟨rfl, .inl ⟨_, u, run_load_op rfl h3 hr, rfl, hR, Below.refl _ _⟩⟩
   ·have h4 : _ = _ := hd ⟨4, .data⟩ (by simp) rfl 25 rfl
    refine .inl ⟨rfl, .inr ⟨_, _, run_call_op rfl (hf _) (args := #[.agg (dL (X.f k) a1 (X.f k).q.ws.length c1 a2 (X.f k).q.bs.length c2 a3 (X.f k).np c3 a4 (X.f k).hs.length c4 a5 (X.f k).nt c5).toArray]) (by simp [h4]) (by kernel_rfl), ?_⟩⟩
    refine (specPend_any (X.f k) a1 c1 a2 c2 a3 c3 a4 c4 a5 c5 _ (HK.out.2.2.2.1.below hR) (HK.out.2.2.2.2.1.below hR) (HK.out.2.2.2.2.2.1.below hR) (HK.out.2.2.2.2.2.2.1.below hR) (HK.out.2.2.2.2.2.2.2.1.below hR) HK.out.2.2.2.2.2.2.2.2).mono ?_
    rintro e u' ⟨he, b'⟩
    exact ⟨_, he.trans (by rw [HX.out.1] <;> rfl), rfl, bel_nx hR b', b'⟩
   ·have h5 : _ = _ := hd ⟨5, .data⟩ (by simp) rfl 26 rfl
    exact .inl ⟨rfl, .inl ⟨_, u, run_un_op rfl h5 (by go_simp), rfl, hR, Below.refl _ _⟩⟩
   ·have h6 : _ = _ := hd ⟨6, .data⟩ (by simp) rfl 27 rfl
    exact .inl ⟨rfl, .inl ⟨_, u, rfl, h6, hR, Below.refl _ _⟩⟩
   ·cases x
    ·exact .inr ⟨nog (x := .bool true) rfl rfl (hd ⟨7, .guard⟩ (by simp) rfl 28 rfl) rfl, rfl⟩
    have g7 : ρ (.tmp 28) = .bool false := hd ⟨7, .guard⟩ (by simp) rfl 28 rfl
    have s1 : ρ (.tmp 1) = .pointer (some ⟨G, 0, none⟩) := (hρ 1 (by kernel_rfl)).trans rfl
    exact .inl ⟨(by show (match ρ (.tmp 28) with | .bool b => b == false | _ => false) = true; rw [g7]; rfl), .inl ⟨_, u, run_field_op rfl s1 (by go_simp), rfl, hR, Below.refl _ _⟩⟩
   ·cases x
    ·exact .inr ⟨nog (x := .bool true) rfl rfl (hd ⟨7, .guard⟩ (by simp) rfl 28 rfl) rfl, rfl⟩
    have g7 : ρ (.tmp 28) = .bool false := hd ⟨7, .guard⟩ (by simp) rfl 28 rfl
    have h8 : _ = _ := hd ⟨8, .data⟩ (by simp) rfl 29 rfl
    have y9 : u.cell? ⟨G, 1, none⟩ = some (.slice (some ⟨b, off, none⟩) X.m c) := (HK.out.1.below hR).rng 1 _ rfl
    have hr : (Instr.loadAt 33 (.pointer (some ⟨G, 1, none⟩))).run Tryz.prog u = .ok (.slice (some ⟨b, off, none⟩) X.m c) u := by go_simp
    exact .inl ⟨(by show (match ρ (.tmp 28) with | .bool b => b == false | _ => false) = true; rw [g7]; rfl), .inl ⟨_, u, run_load_op rfl h8 hr, rfl, hR, Below.refl _ _⟩⟩
   ·cases x
    ·exact .inr ⟨nog (x := .bool true) rfl rfl (hd ⟨7, .guard⟩ (by simp) rfl 28 rfl) rfl, rfl⟩
    have g7 : ρ (.tmp 28) = .bool false := hd ⟨7, .guard⟩ (by simp) rfl 28 rfl
    have s3 : ρ (.tmp 3) = .int .i64 (k : Int) := (hρ 3 (by kernel_rfl)).trans rfl
    exact .inl ⟨(by show (match ρ (.tmp 28) with | .bool b => b == false | _ => false) = true; rw [g7]; rfl), .inl ⟨_, u, rfl, s3, hR, Below.refl _ _⟩⟩
   ·cases x
    ·exact .inr ⟨nog (x := .bool true) rfl rfl (hd ⟨7, .guard⟩ (by simp) rfl 28 rfl) rfl, rfl⟩
    have g7 : ρ (.tmp 28) = .bool false := hd ⟨7, .guard⟩ (by simp) rfl 28 rfl
    have h9 : _ = _ := hd ⟨9, .data⟩ (by simp) rfl 30 rfl
    have h10 : _ = _ := hd ⟨10, .data⟩ (by simp) rfl 31 rfl
    exact .inl ⟨(by show (match ρ (.tmp 28) with | .bool b => b == false | _ => false) = true; rw [g7]; rfl), .inl ⟨_, u, run_index_op rfl h9 h10 (by go_simp), rfl, hR, Below.refl _ _⟩⟩
   ·cases x
    ·exact .inr ⟨nog (x := .bool true) rfl rfl (hd ⟨7, .guard⟩ (by simp) rfl 28 rfl) rfl, rfl⟩
    have g7 : ρ (.tmp 28) = .bool false := hd ⟨7, .guard⟩ (by simp) rfl 28 rfl
    have h11 : _ = _ := hd ⟨11, .data⟩ (by simp) rfl 32 rfl
    exact .inl ⟨(by show (match ρ (.tmp 28) with | .bool b => b == false | _ => false) = true; rw [g7]; rfl), .inl ⟨_, u, run_field_op rfl h11 (by go_simp), rfl, hR, Below.refl _ _⟩⟩
   ·cases x
    ·exact .inr ⟨nog (x := .bool true) rfl rfl (hd ⟨7, .guard⟩ (by simp) rfl 28 rfl) rfl, rfl⟩
    have g7 : ρ (.tmp 28) = .bool false := hd ⟨7, .guard⟩ (by simp) rfl 28 rfl
    have h12 : _ = _ := hd ⟨12, .data⟩ (by simp) rfl 33 rfl
    have y9 : u.cell? ⟨b, off + k * 13, none⟩ = some (.int .i64 (X.f k).id) := (rangeAt_below HK.out.2.2.1 HK.out.2.1 hR) 0 _ rfl
    have hr : (Instr.loadAt 3 (.pointer (some ⟨b, off + k * 13, none⟩))).run Tryz.prog u = .ok (.int .i64 (X.f k).id) u := by go_simp
    exact .inl ⟨(by show (match ρ (.tmp 28) with | .bool b => b == false | _ => false) = true; rw [g7]; rfl), .inl ⟨_, u, run_load_op rfl h12 hr, rfl, hR, Below.refl _ _⟩⟩
   ·cases x
    ·exact .inr ⟨nog (x := .bool true) rfl rfl (hd ⟨7, .guard⟩ (by simp) rfl 28 rfl) rfl, rfl⟩
    have g7 : ρ (.tmp 28) = .bool false := hd ⟨7, .guard⟩ (by simp) rfl 28 rfl
    have s1 : ρ (.tmp 1) = .pointer (some ⟨G, 0, none⟩) := (hρ 1 (by kernel_rfl)).trans rfl
    exact .inl ⟨(by show (match ρ (.tmp 28) with | .bool b => b == false | _ => false) = true; rw [g7]; rfl), .inl ⟨_, u, run_field_op rfl s1 (by go_simp), rfl, hR, Below.refl _ _⟩⟩
   ·cases x
    ·exact .inr ⟨nog (x := .bool true) rfl rfl (hd ⟨7, .guard⟩ (by simp) rfl 28 rfl) rfl, rfl⟩
    have g7 : ρ (.tmp 28) = .bool false := hd ⟨7, .guard⟩ (by simp) rfl 28 rfl
    have h14 : _ = _ := hd ⟨14, .data⟩ (by simp) rfl 35 rfl
    have y9 : u.cell? ⟨G, 0, none⟩ = some (.int .i64 X.nx) := (HK.out.1.below hR).rng 0 _ rfl
    have hr : (Instr.loadAt 3 (.pointer (some ⟨G, 0, none⟩))).run Tryz.prog u = .ok (.int .i64 X.nx) u := by go_simp
    exact .inl ⟨(by show (match ρ (.tmp 28) with | .bool b => b == false | _ => false) = true; rw [g7]; rfl), .inl ⟨_, u, run_load_op rfl h14 hr, rfl, hR, Below.refl _ _⟩⟩
   ·cases x
    ·exact .inr ⟨nog (x := .bool true) rfl rfl (hd ⟨7, .guard⟩ (by simp) rfl 28 rfl) rfl, rfl⟩
    have g7 : ρ (.tmp 28) = .bool false := hd ⟨7, .guard⟩ (by simp) rfl 28 rfl
    have h15 : _ = _ := hd ⟨15, .data⟩ (by simp) rfl 36 rfl
    exact .inl ⟨(by show (match ρ (.tmp 28) with | .bool b => b == false | _ => false) = true; rw [g7]; rfl), .inl ⟨_, u, run_bin_op rfl h15 (hc _) (by go_simp), rfl, hR, Below.refl _ _⟩⟩
   ·cases x
    ·exact .inr ⟨nog (x := .bool true) rfl rfl (hd ⟨7, .guard⟩ (by simp) rfl 28 rfl) rfl, rfl⟩
    have g7 : ρ (.tmp 28) = .bool false := hd ⟨7, .guard⟩ (by simp) rfl 28 rfl
    have h13 : _ = _ := hd ⟨13, .data⟩ (by simp) rfl 34 rfl
    have h16 : _ = _ := hd ⟨16, .data⟩ (by simp) rfl 37 rfl
    refine .inl ⟨(by show (match ρ (.tmp 28) with | .bool b => b == false | _ => false) = true; rw [g7]; rfl), .inr ⟨_, _, run_call_op rfl (hf _) (args := #[.int .i64 (X.f k).id, .int .i64 0, .int .i64 (X.nx - 1)]) (by simp [h13, hc, h16]) (by kernel_rfl), ?_⟩⟩
    refine (l1In_any _ _ _ _ _ HX.out.2).mono ?_
    rintro e u' ⟨he, rfl⟩
    exact ⟨_, he.trans rfl, rfl, hR, Below.refl _ _⟩
   ·cases x
    ·exact .inr ⟨nog (x := .bool true) rfl rfl (hd ⟨7, .guard⟩ (by simp) rfl 28 rfl) rfl, rfl⟩
    have g7 : ρ (.tmp 28) = .bool false := hd ⟨7, .guard⟩ (by simp) rfl 28 rfl
    have h17 : _ = _ := hd ⟨17, .data⟩ (by simp) rfl 38 rfl
    exact .inl ⟨(by show (match ρ (.tmp 28) with | .bool b => b == false | _ => false) = true; rw [g7]; rfl), .inl ⟨_, u, run_un_op rfl h17 (by go_simp), rfl, hR, Below.refl _ _⟩⟩
   ·cases x
    ·have h7 : _ = _ := hd ⟨7, .data⟩ (by simp) rfl 28 rfl
     exact .inl ⟨rfl, .inl ⟨_, u, run_pick_op rfl h7, (by simpa using hc _), hR, Below.refl _ _⟩⟩
    have h7 : _ = _ := hd ⟨7, .data⟩ (by simp) rfl 28 rfl
    have h18 : _ = _ := hd ⟨18, .data⟩ (by simp) rfl 39 rfl
    exact .inl ⟨rfl, .inl ⟨_, u, run_pick_op rfl h7, (by simpa using h18), hR, Below.refl _ _⟩⟩
   ·have h19 : _ = _ := hd ⟨19, .data⟩ (by simp) rfl 40 rfl
    exact .inl ⟨rfl, .inl ⟨_, u, rfl, h19, hR, Below.refl _ _⟩⟩
   ·cases x
    ·exact .inr ⟨nog (x := .bool true) rfl rfl (hd ⟨20, .guard⟩ (by simp) rfl 41 rfl) rfl, rfl⟩
    cases xi
    ·exact .inr ⟨nog (x := .bool true) rfl rfl (hd ⟨20, .guard⟩ (by simp) rfl 41 rfl) rfl, rfl⟩
    have g20 : ρ (.tmp 41) = .bool false := hd ⟨20, .guard⟩ (by simp) rfl 41 rfl
    have s3 : ρ (.tmp 3) = .int .i64 (k : Int) := (hρ 3 (by kernel_rfl)).trans rfl
    exact .inl ⟨(by show (match ρ (.tmp 41) with | .bool b => b == false | _ => false) = true; rw [g20]; rfl), .inl ⟨_, u, rfl, s3, hR, Below.refl _ _⟩⟩
   ·cases x
    ·exact .inr ⟨nog (x := .bool true) rfl rfl (hd ⟨20, .guard⟩ (by simp) rfl 41 rfl) rfl, rfl⟩
    cases xi
    ·exact .inr ⟨nog (x := .bool true) rfl rfl (hd ⟨20, .guard⟩ (by simp) rfl 41 rfl) rfl, rfl⟩
    cases pos
    ·have hn9 := of_decide_eq_false HD.out.1
     have hn0 : ¬ (0 : Int) < (k : Int) := by omega
     have g20 : ρ (.tmp 41) = .bool false := hd ⟨20, .guard⟩ (by simp) rfl 41 rfl
     have h21 : _ = _ := hd ⟨21, .data⟩ (by simp) rfl 42 rfl
     exact .inl ⟨(by show (match ρ (.tmp 41) with | .bool b => b == false | _ => false) = true; rw [g20]; rfl), .inl ⟨_, u, run_bin_op rfl h21 (hc _) (by go_simp), rfl, hR, Below.refl _ _⟩⟩
    have hn9 := of_decide_eq_true HD.out.1
    have hn0 : (0 : Int) < (k : Int) := by omega
    have g20 : ρ (.tmp 41) = .bool false := hd ⟨20, .guard⟩ (by simp) rfl 41 rfl
    have h21 : _ = _ := hd ⟨21, .data⟩ (by simp) rfl 42 rfl
    exact .inl ⟨(by show (match ρ (.tmp 41) with | .bool b => b == false | _ => false) = true; rw [g20]; rfl), .inl ⟨_, u, run_bin_op rfl h21 (hc _) (by go_simp), rfl, hR, Below.refl _ _⟩⟩
   ·cases x
    ·exact .inr ⟨nog (x := .bool true) rfl rfl (hd ⟨20, .guard⟩ (by simp) rfl 41 rfl) rfl, rfl⟩
    cases xi
    ·exact .inr ⟨nog (x := .bool true) rfl rfl (hd ⟨20, .guard⟩ (by simp) rfl 41 rfl) rfl, rfl⟩
    have g20 : ρ (.tmp 41) = .bool false := hd ⟨20, .guard⟩ (by simp) rfl 41 rfl
    have h22 : _ = _ := hd ⟨22, .data⟩ (by simp) rfl 43 rfl
    exact .inl ⟨(by show (match ρ (.tmp 41) with | .bool b => b == false | _ => false) = true; rw [g20]; rfl), .inl ⟨_, u, rfl, h22, hR, Below.refl _ _⟩⟩
   ·cases x
    ·exact .inr ⟨nog (x := undef) rfl rfl (hd ⟨23, .guard⟩ (by simp) rfl 44 rfl) rfl, rfl⟩
    cases xi
    ·exact .inr ⟨nog (x := undef) rfl rfl (hd ⟨23, .guard⟩ (by simp) rfl 44 rfl) rfl, rfl⟩
    cases pos
    ·exact .inr ⟨nog (x := .bool false) rfl rfl (hd ⟨23, .guard⟩ (by simp) rfl 44 rfl) rfl, rfl⟩
    have g23 : ρ (.tmp 44) = .bool true := hd ⟨23, .guard⟩ (by simp) rfl 44 rfl
    have s1 : ρ (.tmp 1) = .pointer (some ⟨G, 0, none⟩) := (hρ 1 (by kernel_rfl)).trans rfl
    exact .inl ⟨(by show (match ρ (.tmp 44) with | .bool b => b == true | _ => false) = true; rw [g23]; rfl), .inl ⟨_, u, run_field_op rfl s1 (by go_simp), rfl, hR, Below.refl _ _⟩⟩
   ·cases x
    ·exact .inr ⟨nog (x := undef) rfl rfl (hd ⟨23, .guard⟩ (by simp) rfl 44 rfl) rfl, rfl⟩
    cases xi
    ·exact .inr ⟨nog (x := undef) rfl rfl (hd ⟨23, .guard⟩ (by simp) rfl 44 rfl) rfl, rfl⟩
    cases pos
    ·exact .inr ⟨nog (x := .bool false) rfl rfl (hd ⟨23, .guard⟩ (by simp) rfl 44 rfl) rfl, rfl⟩
    have g23 : ρ (.tmp 44) = .bool true := hd ⟨23, .guard⟩ (by simp) rfl 44 rfl
    have h24 : _ = _ := hd ⟨24, .data⟩ (by simp) rfl 45 rfl
    have y9 : u.cell? ⟨G, 1, none⟩ = some (.slice (some ⟨b, off, none⟩) X.m c) := (HK.out.1.below hR).rng 1 _ rfl
    have hr : (Instr.loadAt 33 (.pointer (some ⟨G, 1, none⟩))).run Tryz.prog u = .ok (.slice (some ⟨b, off, none⟩) X.m c) u := by go_simp
    exact .inl ⟨(by show (match ρ (.tmp 44) with | .bool b => b == true | _ => false) = true; rw [g23]; rfl), .inl ⟨_, u, run_load_op rfl h24 hr, rfl, hR, Below.refl _ _⟩⟩
   ·cases x
    ·exact .inr ⟨nog (x := undef) rfl rfl (hd ⟨23, .guard⟩ (by simp) rfl 44 rfl) rfl, rfl⟩
    cases xi
    ·exact .inr ⟨nog (x := undef) rfl rfl (hd ⟨23, .guard⟩ (by simp) rfl 44 rfl) rfl, rfl⟩
    cases pos
    ·exact .inr ⟨nog (x := .bool false) rfl rfl (hd ⟨23, .guard⟩ (by simp) rfl 44 rfl) rfl, rfl⟩
    have g23 : ρ (.tmp 44) = .bool true := hd ⟨23, .guard⟩ (by simp) rfl 44 rfl
    have s3 : ρ (.tmp 3) = .int .i64 (k : Int) := (hρ 3 (by kernel_rfl)).trans rfl
    exact .inl ⟨(by show (match ρ (.tmp 44) with | .bool b => b == true | _ => false) = true; rw [g23]; rfl), .inl ⟨_, u, rfl, s3, hR, Below.refl _ _⟩⟩
   ·cases x
    ·exact .inr ⟨nog (x := undef) rfl rfl (hd ⟨23, .guard⟩ (by simp) rfl 44 rfl) rfl, rfl⟩
    cases xi
    ·exact .inr ⟨nog (x := undef) rfl rfl (hd ⟨23, .guard⟩ (by simp) rfl 44 rfl) rfl, rfl⟩
    cases pos
    ·exact .inr ⟨nog (x := .bool false) rfl rfl (hd ⟨23, .guard⟩ (by simp) rfl 44 rfl) rfl, rfl⟩
    have hn9 := of_decide_eq_true HD.out.1
    have wj : IntKind.i64.wrap ((k : Int) - 1) = (j : Int) := by rw [IntKind.wrap_i64]; have := HD.out.2.2; omega
    have g23 : ρ (.tmp 44) = .bool true := hd ⟨23, .guard⟩ (by simp) rfl 44 rfl
    have h26 : _ = _ := hd ⟨26, .data⟩ (by simp) rfl 47 rfl
    exact .inl ⟨(by show (match ρ (.tmp 44) with | .bool b => b == true | _ => false) = true; rw [g23]; rfl), .inl ⟨_, u, run_bin_op rfl h26 (hc _) (by go_simp), rfl, hR, Below.refl _ _⟩⟩
   ·cases x
    ·exact .inr ⟨nog (x := undef) rfl rfl (hd ⟨23, .guard⟩ (by simp) rfl 44 rfl) rfl, rfl⟩
    cases xi
    ·exact .inr ⟨nog (x := undef) rfl rfl (hd ⟨23, .guard⟩ (by simp) rfl 44 rfl) rfl, rfl⟩
    cases pos
    ·exact .inr ⟨nog (x := .bool false) rfl rfl (hd ⟨23, .guard⟩ (by simp) rfl 44 rfl) rfl, rfl⟩
    have g23 : ρ (.tmp 44) = .bool true := hd ⟨23, .guard⟩ (by simp) rfl 44 rfl
    have h25 : _ = _ := hd ⟨25, .data⟩ (by simp) rfl 46 rfl
    have h27 : _ = _ := hd ⟨27, .data⟩ (by simp) rfl 48 rfl
    exact .inl ⟨(by show (match ρ (.tmp 44) with | .bool b => b == true | _ => false) = true; rw [g23]; rfl), .inl ⟨_, u, run_index_op rfl h25 h27 (by go_simp), rfl, hR, Below.refl _ _⟩⟩
   ·cases x
    ·exact .inr ⟨nog (x := undef) rfl rfl (hd ⟨23, .guard⟩ (by simp) rfl 44 rfl) rfl, rfl⟩
    cases xi
    ·exact .inr ⟨nog (x := undef) rfl rfl (hd ⟨23, .guard⟩ (by simp) rfl 44 rfl) rfl, rfl⟩
    cases pos
    ·exact .inr ⟨nog (x := .bool false) rfl rfl (hd ⟨23, .guard⟩ (by simp) rfl 44 rfl) rfl, rfl⟩
    have g23 : ρ (.tmp 44) = .bool true := hd ⟨23, .guard⟩ (by simp) rfl 44 rfl
    have h28 : _ = _ := hd ⟨28, .data⟩ (by simp) rfl 49 rfl
    exact .inl ⟨(by show (match ρ (.tmp 44) with | .bool b => b == true | _ => false) = true; rw [g23]; rfl), .inl ⟨_, u, run_field_op rfl h28 (by go_simp), rfl, hR, Below.refl _ _⟩⟩
   ·cases x
    ·exact .inr ⟨nog (x := undef) rfl rfl (hd ⟨23, .guard⟩ (by simp) rfl 44 rfl) rfl, rfl⟩
    cases xi
    ·exact .inr ⟨nog (x := undef) rfl rfl (hd ⟨23, .guard⟩ (by simp) rfl 44 rfl) rfl, rfl⟩
    cases pos
    ·exact .inr ⟨nog (x := .bool false) rfl rfl (hd ⟨23, .guard⟩ (by simp) rfl 44 rfl) rfl, rfl⟩
    have g23 : ρ (.tmp 44) = .bool true := hd ⟨23, .guard⟩ (by simp) rfl 44 rfl
    have h29 : _ = _ := hd ⟨29, .data⟩ (by simp) rfl 50 rfl
    have y9 : u.cell? ⟨b, off + j * 13, none⟩ = some (.int .i64 (X.f j).id) := (rangeAt_below HJ.out HK.out.2.1 hR) 0 _ rfl
    have hr : (Instr.loadAt 3 (.pointer (some ⟨b, off + j * 13, none⟩))).run Tryz.prog u = .ok (.int .i64 (X.f j).id) u := by go_simp
    exact .inl ⟨(by show (match ρ (.tmp 44) with | .bool b => b == true | _ => false) = true; rw [g23]; rfl), .inl ⟨_, u, run_load_op rfl h29 hr, rfl, hR, Below.refl _ _⟩⟩
   ·cases x
    ·exact .inr ⟨nog (x := undef) rfl rfl (hd ⟨23, .guard⟩ (by simp) rfl 44 rfl) rfl, rfl⟩
    cases xi
    ·exact .inr ⟨nog (x := undef) rfl rfl (hd ⟨23, .guard⟩ (by simp) rfl 44 rfl) rfl, rfl⟩
    cases pos
    ·exact .inr ⟨nog (x := .bool false) rfl rfl (hd ⟨23, .guard⟩ (by simp) rfl 44 rfl) rfl, rfl⟩
    have g23 : ρ (.tmp 44) = .bool true := hd ⟨23, .guard⟩ (by simp) rfl 44 rfl
    have s1 : ρ (.tmp 1) = .pointer (some ⟨G, 0, none⟩) := (hρ 1 (by kernel_rfl)).trans rfl
    exact .inl ⟨(by show (match ρ (.tmp 44) with | .bool b => b == true | _ => false) = true; rw [g23]; rfl), .inl ⟨_, u, run_field_op rfl s1 (by go_simp), rfl, hR, Below.refl _ _⟩⟩
   ·cases x
    ·exact .inr ⟨nog (x := undef) rfl rfl (hd ⟨23, .guard⟩ (by simp) rfl 44 rfl) rfl, rfl⟩
    cases xi
    ·exact .inr ⟨nog (x := undef) rfl rfl (hd ⟨23, .guard⟩ (by simp) rfl 44 rfl) rfl, rfl⟩
    cases pos
    ·exact .inr ⟨nog (x := .bool false) rfl rfl (hd ⟨23, .guard⟩ (by simp) rfl 44 rfl) rfl, rfl⟩
    have g23 : ρ (.tmp 44) = .bool true := hd ⟨23, .guard⟩ (by simp) rfl 44 rfl
    have h31 : _ = _ := hd ⟨31, .data⟩ (by simp) rfl 52 rfl
    have y9 : u.cell? ⟨G, 1, none⟩ = some (.slice (some ⟨b, off, none⟩) X.m c) := (HK.out.1.below hR).rng 1 _ rfl
    have hr : (Instr.loadAt 33 (.pointer (some ⟨G, 1, none⟩))).run Tryz.prog u = .ok (.slice (some ⟨b, off, none⟩) X.m c) u := by go_simp
    exact .inl ⟨(by show (match ρ (.tmp 44) with | .bool b => b == true | _ => false) = true; rw [g23]; rfl), .inl ⟨_, u, run_load_op rfl h31 hr, rfl, hR, Below.refl _ _⟩⟩
   ·cases x
    ·exact .inr ⟨nog (x := undef) rfl rfl (hd ⟨23, .guard⟩ (by simp) rfl 44 rfl) rfl, rfl⟩
    cases xi
    ·exact .inr ⟨nog (x := undef) rfl rfl (hd ⟨23, .guard⟩ (by simp) rfl 44 rfl) rfl, rfl⟩
    cases pos
    ·exact .inr ⟨nog (x := .bool false) rfl rfl (hd ⟨23, .guard⟩ (by simp) rfl 44 rfl) rfl, rfl⟩
    have g23 : ρ (.tmp 44) = .bool true := hd ⟨23, .guard⟩ (by simp) rfl 44 rfl
    have s3 : ρ (.tmp 3) = .int .i64 (k : Int) := (hρ 3 (by kernel_rfl)).trans rfl
    exact .inl ⟨(by show (match ρ (.tmp 44) with | .bool b => b == true | _ => false) = true; rw [g23]; rfl), .inl ⟨_, u, rfl, s3, hR, Below.refl _ _⟩⟩
   ·cases x
    ·exact .inr ⟨nog (x := undef) rfl rfl (hd ⟨23, .guard⟩ (by simp) rfl 44 rfl) rfl, rfl⟩
    cases xi
    ·exact .inr ⟨nog (x := undef) rfl rfl (hd ⟨23, .guard⟩ (by simp) rfl 44 rfl) rfl, rfl⟩
    cases pos
    ·exact .inr ⟨nog (x := .bool false) rfl rfl (hd ⟨23, .guard⟩ (by simp) rfl 44 rfl) rfl, rfl⟩
    have g23 : ρ (.tmp 44) = .bool true := hd ⟨23, .guard⟩ (by simp) rfl 44 rfl
    have h32 : _ = _ := hd ⟨32, .data⟩ (by simp) rfl 53 rfl
    have h33 : _ = _ := hd ⟨33, .data⟩ (by simp) rfl 54 rfl
    exact .inl ⟨(by show (match ρ (.tmp 44) with | .bool b => b == true | _ => false) = true; rw [g23]; rfl), .inl ⟨_, u, run_index_op rfl h32 h33 (by go_simp), rfl, hR, Below.refl _ _⟩⟩
   ·cases x
    ·exact .inr ⟨nog (x := undef) rfl rfl (hd ⟨23, .guard⟩ (by simp) rfl 44 rfl) rfl, rfl⟩
    cases xi
    ·exact .inr ⟨nog (x := undef) rfl rfl (hd ⟨23, .guard⟩ (by simp) rfl 44 rfl) rfl, rfl⟩
    cases pos
    ·exact .inr ⟨nog (x := .bool false) rfl rfl (hd ⟨23, .guard⟩ (by simp) rfl 44 rfl) rfl, rfl⟩
    have g23 : ρ (.tmp 44) = .bool true := hd ⟨23, .guard⟩ (by simp) rfl 44 rfl
    have h34 : _ = _ := hd ⟨34, .data⟩ (by simp) rfl 55 rfl
    exact .inl ⟨(by show (match ρ (.tmp 44) with | .bool b => b == true | _ => false) = true; rw [g23]; rfl), .inl ⟨_, u, run_field_op rfl h34 (by go_simp), rfl, hR, Below.refl _ _⟩⟩
   ·cases x
    ·exact .inr ⟨nog (x := undef) rfl rfl (hd ⟨23, .guard⟩ (by simp) rfl 44 rfl) rfl, rfl⟩
    cases xi
    ·exact .inr ⟨nog (x := undef) rfl rfl (hd ⟨23, .guard⟩ (by simp) rfl 44 rfl) rfl, rfl⟩
    cases pos
    ·exact .inr ⟨nog (x := .bool false) rfl rfl (hd ⟨23, .guard⟩ (by simp) rfl 44 rfl) rfl, rfl⟩
    have g23 : ρ (.tmp 44) = .bool true := hd ⟨23, .guard⟩ (by simp) rfl 44 rfl
    have h35 : _ = _ := hd ⟨35, .data⟩ (by simp) rfl 56 rfl
    have y9 : u.cell? ⟨b, off + k * 13, none⟩ = some (.int .i64 (X.f k).id) := (rangeAt_below HK.out.2.2.1 HK.out.2.1 hR) 0 _ rfl
    have hr : (Instr.loadAt 3 (.pointer (some ⟨b, off + k * 13, none⟩))).run Tryz.prog u = .ok (.int .i64 (X.f k).id) u := by go_simp
    exact .inl ⟨(by show (match ρ (.tmp 44) with | .bool b => b == true | _ => false) = true; rw [g23]; rfl), .inl ⟨_, u, run_load_op rfl h35 hr, rfl, hR, Below.refl _ _⟩⟩
   ·cases x
    ·exact .inr ⟨nog (x := undef) rfl rfl (hd ⟨23, .guard⟩ (by simp) rfl 44 rfl) rfl, rfl⟩
    cases xi
    ·exact .inr ⟨nog (x := undef) rfl rfl (hd ⟨23, .guard⟩ (by simp) rfl 44 rfl) rfl, rfl⟩
    cases pos
    ·exact .inr ⟨nog (x := .bool false) rfl rfl (hd ⟨23, .guard⟩ (by simp) rfl 44 rfl) rfl, rfl⟩
    cases ge
    ·have t1 := of_decide_eq_false HD.out.2.1
     have g23 : ρ (.tmp 44) = .bool true := hd ⟨23, .guard⟩ (by simp) rfl 44 rfl
     have h30 : _ = _ := hd ⟨30, .data⟩ (by simp) rfl 51 rfl
     have h36 : _ = _ := hd ⟨36, .data⟩ (by simp) rfl 57 rfl
     exact .inl ⟨(by show (match ρ (.tmp 44) with | .bool b => b == true | _ => false) = true; rw [g23]; rfl), .inl ⟨_, u, run_bin_op rfl h30 h36 (by go_simp), rfl, hR, Below.refl _ _⟩⟩
    have t1 := of_decide_eq_true HD.out.2.1
    have g23 : ρ (.tmp 44) = .bool true := hd ⟨23, .guard⟩ (by simp) rfl 44 rfl
    have h30 : _ = _ := hd ⟨30, .data⟩ (by simp) rfl 51 rfl
    have h36 : _ = _ := hd ⟨36, .data⟩ (by simp) rfl 57 rfl
    exact .inl ⟨(by show (match ρ (.tmp 44) with | .bool b => b == true | _ => false) = true; rw [g23]; rfl), .inl ⟨_, u, run_bin_op rfl h30 h36 (by go_simp), rfl, hR, Below.refl _ _⟩⟩
   ·cases x
    ·exact .inr ⟨nog (x := .bool true) rfl rfl (hd ⟨20, .guard⟩ (by simp) rfl 41 rfl) rfl, rfl⟩
    cases xi
    ·exact .inr ⟨nog (x := .bool true) rfl rfl (hd ⟨20, .guard⟩ (by simp) rfl 41 rfl) rfl, rfl⟩
    cases pos
    ·have g20 : ρ (.tmp 41) = .bool false := hd ⟨20, .guard⟩ (by simp) rfl 41 rfl
     have h23 : _ = _ := hd ⟨23, .data⟩ (by simp) rfl 44 rfl
     exact .inl ⟨(by show (match ρ (.tmp 41) with | .bool b => b == false | _ => false) = true; rw [g20]; rfl), .inl ⟨_, u, run_pick_op rfl h23, (by simpa using hc _), hR, Below.refl _ _⟩⟩
    have g20 : ρ (.tmp 41) = .bool false := hd ⟨20, .guard⟩ (by simp) rfl 41 rfl
    have h23 : _ = _ := hd ⟨23, .data⟩ (by simp) rfl 44 rfl
    have h37 : _ = _ := hd ⟨37, .data⟩ (by simp) rfl 58 rfl
    exact .inl ⟨(by show (match ρ (.tmp 41) with | .bool b => b == false | _ => false) = true; rw [g20]; rfl), .inl ⟨_, u, run_pick_op rfl h23, (by simpa using h37), hR, Below.refl _ _⟩⟩
   cases x
   ·have h20 : _ = _ := hd ⟨20, .data⟩ (by simp) rfl 41 rfl
    exact .inl ⟨rfl, .inl ⟨_, u, run_pick_op rfl h20, (by simpa using hc _), hR, Below.refl _ _⟩⟩
   cases xi
   ·have h20 : _ = _ := hd ⟨20, .data⟩ (by simp) rfl 41 rfl
    exact .inl ⟨rfl, .inl ⟨_, u, run_pick_op rfl h20, (by simpa using hc _), hR, Below.refl _ _⟩⟩
   have h20 : _ = _ := hd ⟨20, .data⟩ (by simp) rfl 41 rfl
   have h38 : _ = _ := hd ⟨38, .data⟩ (by simp) rfl 59 rfl
   exact .inl ⟨rfl, .inl ⟨_, u, run_pick_op rfl h20, (by simpa using h38), hR, Below.refl _ _⟩⟩
  have hi : ¬ (k : Int) < (X.m : Int) := by omega
  have e9 : k = X.m := by omega
  have HF : Hid (allN (rowB X) X.m = true /\ Below w.heap.size w wr) := ⟨by rw [<- e9]; exact hall, bel_nx HE.out.2.2.2.1 hbl⟩
  clear hall hbl e9
  go_wp2
  go_ret
  exact ⟨by rw [HF.out.1]; rfl, HF.out.2⟩
end Go.Proofs.YtlhjiiifmfgnoaaGreat
namespace Go.Proofs.YtlhjiiifmfgnoaaGreat
open Go.RowKit Go.Joins
theorem copyPend_h (X : VD) (a1 : Option Addr) (l1 c1 : Nat) (a2 : Option Addr) (l2 c2 : Nat) (a3 : Option Addr) (l3 c3 : Nat) (a4 : Option Addr) (l4 c4 : Nat) (a5 : Option Addr) (l5 c5 : Nat) (w : World) (r1 : Rd w 0 (intsT X.q.ws) (.slice a1 l1 c1)) (r2 : Rd w 0 (boolsT X.q.bs) (.slice a2 l2 c2)) (r3 : Rd w 0 (ptsT X) (.slice a3 l3 c3)) (r4 : Rd w 0 (boolsT X.hs) (.slice a4 l4 c4)) (r5 : Rd w 0 (tlsT X) (.slice a5 l5 c5)) (hz : szT 6 (trs (qT X.q)) <= 1048576 /\ (ptsT X).sz <= 1048576 /\ X.hs.length <= 1048576 /\ (tlsT X).sz <= 1048576) :
 Calls Tryz.prog 35 #[.agg (dL X a1 l1 c1 a2 l2 c2 a3 l3 c3 a4 l4 c4 a5 l5 c5).toArray] w fun e w' => ∃ b1 d1 b2 d2 b3 d3 b4 d4 b5 d5, e = .returned (.agg (dL X b1 l1 d1 b2 l2 d2 b3 l3 d3 b4 l4 d4 b5 l5 d5).toArray) /\ Own1 w' w.heap.size w'.heap.size (dT X) (dL X b1 l1 d1 b2 l2 d2 b3 l3 d3 b4 l4 d4 b5 l5 d5) /\ Below w.heap.size w w' := by
 obtain ⟨B, hB⟩ : ∃ B, B = w.heap.size := ⟨_, rfl⟩
 obtain ⟨W, hW⟩ : ∃ W, W = (w.alloc (.cells (dL X a1 l1 c1 a2 l2 c2 a3 l3 c3 a4 l4 c4 a5 l5 c5).toArray 61)).alloc (.cells pd0 61) := ⟨_, rfl⟩
 have bW : Below w.heap.size w W := by rw [hW]; exact bel_nx (bel_alloc w _) (bel_alloc _ _)
 have HZ : Hid (szT 6 (trs (qT X.q)) <= 1048576 /\ (ptsT X).sz <= 1048576 /\ X.hs.length <= 1048576 /\ (tlsT X).sz <= 1048576) := hz
 have HW : Hid (Below w.heap.size w W /\ Blk W B 61 (dL X a1 l1 c1 a2 l2 c2 a3 l3 c3 a4 l4 c4 a5 l5 c5).toArray /\ Blk W (B + 1) 61 pd0 /\ w.heap.size <= B /\ B + 2 <= W.heap.size /\ Rd W 0 (intsT X.q.ws) (.slice a1 l1 c1) /\ Rd W 0 (boolsT X.q.bs) (.slice a2 l2 c2) /\ Rd W 0 (ptsT X) (.slice a3 l3 c3) /\ Rd W 0 (boolsT X.hs) (.slice a4 l4 c4) /\ Rd W 0 (tlsT X) (.slice a5 l5 c5)) := ⟨bW, by rw [hW, hB]; exact (Blk.new w _ _).below (bel_alloc _ _), by rw [hW, hB]; have := Blk.new (w.alloc (.cells (dL X a1 l1 c1 a2 l2 c2 a3 l3 c3 a4 l4 c4 a5 l5 c5).toArray 61)) pd0 61; simpa using this, by omega, by rw [hW, hB]; simp, r1.below bW, r2.below bW, r3.below bW, r4.below bW, r5.below bW⟩
 have HR : Hid (Rd w 0 (ptsT X) (.slice a3 l3 c3) /\ Rd w 0 (tlsT X) (.slice a5 l5 c5)) := ⟨r3, r5⟩
 clear bW r1 r2 r3 r4 r5 hz
 go_enter Tryz.func35, Tryz.ntmps35
 go_upto_region 1 with fail
 rw [<- hW]
 have hB1 : w.heap.size + 1 = B + 1 := by omega
 rw [hB1, <- hB]
 clear hW hB hB1
 obtain ⟨⟨y0, y1, y2, y3, y4, y5, y6, y7, y8, y9, y10, y11, y12⟩, yf⟩ := HW.out.2.1.tc13
 clear yf
 go_cut [] (fun wx => CpA w B X l1 l2 l3 l4 l5 a3 a5 c3 c5 wx)
 case first =>
  go_region_with (first
   | (go_at_call 56; refine (copyReq_m X.q a1 l1 c1 a2 l2 c2 _ (HW.out.2.2.2.2.2.1.below (by first | exact Below.refl _ _ | exact (Below.refl _ _).drew | exact (Below.refl _ _).drew.drew)) (HW.out.2.2.2.2.2.2.1.below (by first | exact Below.refl _ _ | exact (Below.refl _ _).drew | exact (Below.refl _ _).drew.drew)) HZ.out.1).mono ?_; rintro e w1 ⟨b1, d1, b2, d2, rfl, O1', b1'⟩; have H1 : Hid (Below W.heap.size W w1 /\ Own1 w1 (B + 2) w1.heap.size (qT X.q) (qL X.q b1 l1 d1 b2 l2 d2)) := (by have b9 : Below W.heap.size W w1 := bel_nx (by first | exact Below.refl _ _ | exact (Below.refl _ _).drew | exact (Below.refl _ _).drew.drew) b1'; exact ⟨b9, O1'.mono HW.out.2.2.2.2.1 (Nat.le_refl _)⟩); clear O1' b1'; obtain ⟨⟨z0, z1, z2, z3, z4, z5, z6, z7, z8, z9, z10, z11, z12⟩, zf⟩ := (HW.out.2.1.below H1.out.1).tc13; clear zf)
   | (go_at_call 57; refine (copyBools_m X.hs a4 l4 c4 _ (HW.out.2.2.2.2.2.2.2.2.1.below (by first | exact H1.out.1 | exact H1.out.1.drew | exact H1.out.1.drew.drew)) HZ.out.2.2.1).mono ?_; rintro e w2 ⟨b4, d4, rfl, O2', b2'⟩; have H2 : Hid (Below W.heap.size W w2 /\ Own1 w2 (B + 2) w1.heap.size (qT X.q) (qL X.q b1 l1 d1 b2 l2 d2) /\ Own1 w2 w1.heap.size w2.heap.size [boolsT X.hs] [.slice b4 l4 d4] /\ B + 2 <= w1.heap.size /\ w1.heap.size <= w2.heap.size) := (by have b8 : Below w1.heap.size w1 w2 := bel_nx (by first | exact Below.refl _ _ | exact (Below.refl _ _).drew | exact (Below.refl _ _).drew.drew) b2'; have b9 := bel_nx H1.out.1 b8; exact ⟨b9, H1.out.2.below b8 (Nat.le_refl _), Own1.one O2', Nat.le_trans HW.out.2.2.2.2.1 H1.out.1.size, b8.size⟩); clear O2' b2'; obtain ⟨⟨x0, x1, x2, x3, x4, x5, x6, x7, x8, x9, x10, x11, x12⟩, xf⟩ := (HW.out.2.1.below H2.out.1).tc13; have xf4 := xf 4; have xf5 := xf 5; have xf6 := xf 6; have xf7 := xf 7; have xf8 := xf 8; have xf9 := xf 9; have xf11 := xf 11; clear xf))
  all_goals (go_wp2_with fail; go_meet; first | exact (cdA (HW.out.2.1.below H2.out.1) (HW.out.2.2.1.below H2.out.1) (bel_nx HW.out.1 H2.out.1) HW.out.2.2.2.1 H2.out.2.2.2.1 H2.out.2.2.2.2 H2.out.2.1 H2.out.2.2.1).1 | exact (cdA (HW.out.2.1.below H2.out.1) (HW.out.2.2.1.below H2.out.1) (bel_nx HW.out.1 H2.out.1) HW.out.2.2.2.1 H2.out.2.2.2.1 H2.out.2.2.2.2 H2.out.2.1 H2.out.2.2.1).2)
 case rest =>
 obtain ⟨b1, d1, b2, d2, b4, d4, m, X1, R1, q1, q2, q3, o1, o2⟩ := hcut
 rename World => u
 have HX : Hid (Blk u B 61 (dL X b1 l1 d1 b2 l2 d2 a3 l3 c3 b4 l4 d4 a5 l5 c5).toArray /\ Blk u (B + 1) 61 pd0 /\ Below w.heap.size w u /\ B + 2 <= m /\ m <= u.heap.size /\ Own1 u (B + 2) m (qT X.q) (qL X.q b1 l1 d1 b2 l2 d2) /\ Own1 u m u.heap.size [boolsT X.hs] [.slice b4 l4 d4] /\ Rd u 0 (ptsT X) (.slice a3 l3 c3) /\ Rd u 0 (tlsT X) (.slice a5 l5 c5)) := ⟨X1, R1, q1, q2, q3, o1, o2, HR.out.1.below q1, HR.out.2.below q1⟩
 clear X1 R1 q1 q2 q3 o1 o2 y0 y1 y2 y3 y4 y5 y6 y7 y8 y9 y10 y11 y12
 obtain ⟨⟨y0, y1, y2, y3, y4, y5, y6, y7, y8, y9, y10, y11, y12⟩, yf⟩ := HX.out.1.tc13
 clear yf
 go_upto_region 2 with fail
 go_cut [] (fun wx => CpB w B X l1 l2 l3 l4 l5 wx)
 case first =>
  go_region_with (first
   | (go_at_call 58; refine (copiesPart_m X.np X.pt a3 l3 c3 _ (HX.out.2.2.2.2.2.2.2.1.below (by first | exact Below.refl _ _ | exact (Below.refl _ _).drew | exact (Below.refl _ _).drew.drew)) HZ.out.2.1).mono ?_; rintro e w1 ⟨b3, d3, rfl, O1', b1'⟩; have H1 : Hid (Below u.heap.size u w1 /\ Own1 w1 u.heap.size w1.heap.size [ptsT X] [.slice b3 l3 d3]) := (by have b9 : Below u.heap.size u w1 := bel_nx (by first | exact Below.refl _ _ | exact (Below.refl _ _).drew | exact (Below.refl _ _).drew.drew) b1'; exact ⟨b9, Own1.one O1'⟩); clear O1' b1'; obtain ⟨⟨z0, z1, z2, z3, z4, z5, z6, z7, z8, z9, z10, z11, z12⟩, zf⟩ := (HX.out.1.below H1.out.1).tc13; clear zf)
   | (go_at_call 60; refine (copiesResp_m X.nt X.tl a5 l5 c5 _ (HX.out.2.2.2.2.2.2.2.2.below (by first | exact H1.out.1 | exact H1.out.1.drew | exact H1.out.1.drew.drew)) HZ.out.2.2.2).mono ?_; rintro e w2 ⟨b5, d5, rfl, O2', b2'⟩; have H2 : Hid (Below u.heap.size u w2 /\ Own1 w2 u.heap.size w1.heap.size [ptsT X] [.slice b3 l3 d3] /\ Own1 w2 w1.heap.size w2.heap.size [tlsT X] [.slice b5 l5 d5] /\ u.heap.size <= w1.heap.size /\ w1.heap.size <= w2.heap.size) := (by have b8 : Below w1.heap.size w1 w2 := bel_nx (by first | exact Below.refl _ _ | exact (Below.refl _ _).drew | exact (Below.refl _ _).drew.drew) b2'; have b9 := bel_nx H1.out.1 b8; exact ⟨b9, H1.out.2.below b8 (Nat.le_refl _), Own1.one O2', H1.out.1.size, b8.size⟩); clear O2' b2'; obtain ⟨⟨x0, x1, x2, x3, x4, x5, x6, x7, x8, x9, x10, x11, x12⟩, xf⟩ := (HX.out.1.below H2.out.1).tc13; have xf10 := xf 10; have xf12 := xf 12; clear xf))
  all_goals (go_wp2_with fail; go_meet; first | exact (cdB (HX.out.1.below H2.out.1) (HX.out.2.1.below H2.out.1) (bel_nx HX.out.2.2.1 H2.out.1) HW.out.2.2.2.1 HX.out.2.2.2.1 HX.out.2.2.2.2.1 H2.out.2.2.2.1 H2.out.2.2.2.2 (HX.out.2.2.2.2.2.1.below H2.out.1 HX.out.2.2.2.2.1) (HX.out.2.2.2.2.2.2.1.below H2.out.1 (Nat.le_refl _)) H2.out.2.1 H2.out.2.2.1).1 | exact (cdB (HX.out.1.below H2.out.1) (HX.out.2.1.below H2.out.1) (bel_nx HX.out.2.2.1 H2.out.1) HW.out.2.2.2.1 HX.out.2.2.2.1 HX.out.2.2.2.2.1 H2.out.2.2.2.1 H2.out.2.2.2.2 (HX.out.2.2.2.2.2.1.below H2.out.1 HX.out.2.2.2.2.1) (HX.out.2.2.2.2.2.2.1.below H2.out.1 (Nat.le_refl _)) H2.out.2.1 H2.out.2.2.1).2)
 case rest =>
 obtain ⟨b1, d1, b2, d2, b3, d3, b4, d4, b5, d5, m1, m2, m3, X1, R1, q1, q2, q3, q4, q5, o1, o2, o3, o4⟩ := hcut
 clear HX y0 y1 y2 y3 y4 y5 y6 y7 y8 y9 y10 y11 y12
 rename World => v
 obtain ⟨W9, hW9⟩ : ∃ W9, W9 = setL v (B + 1) 0 (dL X b1 l1 d1 b2 l2 d2 b3 l3 d3 b4 l4 d4 b5 l5 d5) := ⟨_, rfl⟩
 have H9 : Hid (Own1 W9 w.heap.size W9.heap.size (dT X) (dL X b1 l1 d1 b2 l2 d2 b3 l3 d3 b4 l4 d4 b5 l5 d5) /\ Below w.heap.size w W9 /\ Blk W9 (B + 1) 61 (dL X b1 l1 d1 b2 l2 d2 b3 l3 d3 b4 l4 d4 b5 l5 d5).toArray) := by
  have hg : v.grownBy W9 (some (B + 1)) := by rw [hW9]; exact setL_gw _ _ _
  have hs7 := hg.size
  have hbw := HW.out.2.2.2.1
  have p1 := o1.kept hg (by omega) (by omega)
  have p2 := o2.kept hg (by omega) (by omega)
  have p3 := o3.kept hg (by omega) (by omega)
  have p4 := o4.kept hg (by omega) (Nat.le_refl _)
  have j1 := p3.appD (lo := m1) (hi := m3) p2 (.inr (Nat.le_refl _)) (by omega) (by omega) (by omega) (by omega)
  have j2 := j1.app p4 (by omega) (by omega)
  have j3 := (p1.app j2 (by omega) (by omega)).mono (lo' := w.heap.size) (hi' := W9.heap.size) (by omega) (by omega)
  exact ⟨Own1.leaf (.int .i64 X.id) (Own1.leaf (.int .i64 X.so) (Own1.leaf (.int .i64 X.ta) (Own1.leaf (.int .i64 X.un) j3 (by omega)) (by omega)) (by omega)) (by omega), by rw [hW9]; exact setL_below (by omega) _ _ _ q1, by rw [hW9, show (dL X b1 l1 d1 b2 l2 d2 b3 l3 d3 b4 l4 d4 b5 l5 d5).toArray = wrA pd0 0 (dL X b1 l1 d1 b2 l2 d2 b3 l3 d3 b4 l4 d4 b5 l5 d5) from (by simp [wrA])]; exact Blk.stL _ _ R1⟩
 have hr := X1.all
 have ht := R1.there 0 13 (by simp)
 clear X1 R1 q1 q2 q3 q4 q5 o1 o2 o3 o4 HW
 go_upto_region 3 with fail
 refine wp_region_lit ?_
 refine wpList_load_mid rfl 61 (.tmp 1) rfl B 0 rfl (dL X b1 l1 d1 b2 l2 d2 b3 l3 d3 b4 l4 d4 b5 l5 d5) _ hr Tryz.underlying61 rfl (by kernel_rfl) ?_
 refine wpList_store_mid rfl 61 (.tmp 2) (.tmp 19) rfl (B + 1) 0 (dL X b1 l1 d1 b2 l2 d2 b3 l3 d3 b4 l4 d4 b5 l5 d5).toArray rfl rfl ht (by kernel_rfl) (by simp [Value.oneCell']) ?_
 rw [setCells_L, <- hW9]
 clear hW9 hr ht
 refine wpList_nil ?_
 go_wp2
 obtain ⟨⟨y0, y1, y2, y3, y4, y5, y6, y7, y8, y9, y10, y11, y12⟩, yf⟩ := H9.out.2.2.tc13
 refine bodyPost_ret (v := .agg (dL X b1 l1 d1 b2 l2 d2 b3 l3 d3 b4 l4 d4 b5 l5 d5).toArray) (by simp [results, Tryz.results35, go_sem, y0, y1, y2, y3, y4, y5, y6, y7, y8, y9, y10, y11, y12]) rfl ⟨b1, d1, b2, d2, b3, d3, b4, d4, b5, d5, rfl, H9.out.1, H9.out.2.1⟩
end Go.Proofs.YtlhjiiifmfgnoaaGreat
