/- Texts that the proof needs, joined: Tb5. -/
import Derived.Test.YtfagbjffhjnmaaaY11
import Derived.Test.YtfagbjffhjnmaaaY13
namespace Go.Proofs.Ytfagbjffhjnmaaa
open Go.RowKit Go.Joins
set_option linter.unusedVariables false
set_option linter.unusedSimpArgs false
set_option maxRecDepth 20000 in
set_option maxHeartbeats 8000000 in
theorem specTableOk_any (X : VT) (a : Option Addr) (c : Nat) (w : World) (h : TbR w X a c) :
    Calls Try.prog 6 #[.agg (tL X a X.m c).toArray] w fun e w' => e = .returned (.bool (okTb X)) ∧ Below w.heap.size w w' := by
  obtain ⟨x0, hx0⟩ : ∃ x, inB X.nx 0 1000000000 = x := ⟨_, rfl⟩
  obtain ⟨x1, hx1⟩ : ∃ x, decide (X.m ≤ 16) = x := ⟨_, rfl⟩
  obtain ⟨G, hG⟩ : ∃ G, G = w.heap.size := ⟨_, rfl⟩
  obtain ⟨W, hW⟩ : ∃ W, W = w.alloc (.cells (tL X a X.m c).toArray 29) := ⟨_, rfl⟩
  have HE : Hid (okTb X = (x0 && (x1 && allN (rowB X) X.m)) ∧ inB X.nx 0 1000000000 = x0 ∧ decide (X.m ≤ 16) = x1 ∧ Below w.heap.size w W ∧ Blk W G 29 (tL X a X.m c).toArray ∧ TbR W X a c) := ⟨by unfold okTb; rw [hx0, hx1], hx0, hx1, by rw [hW]; exact bel_alloc _ _, by rw [hW, hG]; exact Blk.new _ _ _, h.below (by rw [hW]; exact bel_alloc _ _)⟩
  rw [HE.out.1]
  have hm2 := h.2.1
  clear hx0 hx1 h
  obtain ⟨⟨y0, y1⟩, yf⟩ := HE.out.2.2.2.2.1.tc2
  clear yf
  go_enter Try.func6, Try.ntmps6
  go_upto_region 1 with fail
  rw [← hW, ← hG]
  clear hW hG
  go_wp2_with fail
  refine (l1In_any _ _ _ _ _ HE.out.2.1).mono ?_
  rintro e w1 ⟨rfl, hw⟩
  have hw := hw.symm
  subst hw
  cases x0 with
  | false =>
    go_wp2
    go_ret
    exact ⟨rfl, HE.out.2.2.2.1⟩
  | true =>
    have hnx : 0 ≤ X.nx ∧ X.nx ≤ 1000000000 := inB_yes HE.out.2.1
    obtain ⟨hnx0, hnx1⟩ := hnx
    have wq : IntKind.i64.wrap (X.nx - 1) = X.nx - 1 := by rw [IntKind.wrap_i64]; omega
    cases x1 with
    | false =>
      have h16 : (16 : Int) < (X.m : Int) := by have := of_decide_eq_false HE.out.2.2.1; omega
      go_wp2
      go_ret
      exact ⟨rfl, HE.out.2.2.2.1⟩
    | true =>
      have h16 : ¬ (16 : Int) < (X.m : Int) := by have := of_decide_eq_true HE.out.2.2.1; omega
      go_wp2
      clear y0 y1
      go_loopw [3] (fun i wr => ∃ k : Nat, k ≤ X.m ∧ i = .int .i64 k ∧ allN (rowB X) k = true ∧ Below W.heap.size W wr) (fun i _ => X.m - (intOf i).toNat)
      case atStart => exact ⟨0, Nat.zero_le _, rfl, rfl, Below.refl _ _⟩
      case round =>
        obtain ⟨k, hk, rfl, hall, hbl⟩ := hrel
        obtain ⟨⟨y0, y1⟩, yf⟩ := (HE.out.2.2.2.2.1.below hbl).tc2
        clear yf
        by_cases hlt : k < X.m
        · have hi : (k : Int) < (X.m : Int) := by omega
          obtain ⟨b, off, rfl, hp, hbd⟩ := (HE.out.2.2.2.2.2.below hbl).at hlt
          obtain ⟨hb0, a1, c1, a2, c2, a3, c3, a4, c4, a5, c5, hr, r1, r2, r3, r4, r5⟩ := hp.cells
          obtain ⟨x, hx⟩ : ∃ x, okPd (X.f k) = x := ⟨_, rfl⟩
          obtain ⟨xi, hxi⟩ : ∃ x, inB (X.f k).id 0 (X.nx - 1) = x := ⟨_, rfl⟩
          have HX : Hid (okPd (X.f k) = x ∧ inB (X.f k).id 0 (X.nx - 1) = xi) := ⟨hx, hxi⟩
          have HA : Hid (allN (rowB X) k = true ∧ Below w.heap.size w wr ∧ Below W.heap.size W wr ∧ rowB X k = (x && (xi && (decide (k = 0) || decide ((X.f (k - 1)).id < (X.f k).id))))) := ⟨hall, bel_nx HE.out.2.2.2.1 hbl, hbl, by unfold rowB; rw [hx, hxi]⟩
          have HK : Hid (Blk wr G 29 (tL X (some ⟨b, off, none⟩) X.m c).toArray ∧ b < wr.heap.size ∧ wr.rangeAt b (off + k * 13) (dL (X.f k) a1 (X.f k).q.ws.length c1 a2 (X.f k).q.bs.length c2 a3 (X.f k).np c3 a4 (X.f k).hs.length c4 a5 (X.f k).nt c5) ∧ Rd wr 0 (intsT (X.f k).q.ws) (.slice a1 (X.f k).q.ws.length c1) ∧ Rd wr 0 (boolsT (X.f k).q.bs) (.slice a2 (X.f k).q.bs.length c2) ∧ Rd wr 0 (.list 8 (X.f k).np (fun i => trs (pT ((X.f k).pt i)))) (.slice a3 (X.f k).np c3) ∧ Rd wr 0 (boolsT (X.f k).hs) (.slice a4 (X.f k).hs.length c4) ∧ Rd wr 0 (.list 6 (X.f k).nt (fun i => trs (aT ((X.f k).tl i)))) (.slice a5 (X.f k).nt c5) ∧ BdD (X.f k)) := ⟨HE.out.2.2.2.2.1.below hbl, hb0, hr, r1, r2, r3, r4, r5, hbd⟩
          have HJ0 : Hid (∀ j, j < X.m → wr.rangeAt b (off + j * 13) [.int .i64 (X.f j).id]) := by
            show ∀ j, j < X.m → wr.rangeAt b (off + j * 13) [.int .i64 (X.f j).id]
            intro j hj
            obtain ⟨b', off', he, hp', _⟩ := (HE.out.2.2.2.2.2.below hbl).at hj
            simp only [Option.some.injEq, Addr.mk.injEq, and_true] at he
            obtain ⟨rfl, rfl⟩ := he
            obtain ⟨_, _, _, _, _, _, _, _, _, _, _, hr', _⟩ := hp'.cells
            intro i v hv
            match i, hv with
            | 0, hv => simp at hv; subst hv; exact hr' 0 _ rfl
            | i + 1, hv => simp at hv
          clear hall hbl hx hxi hb0 hr hp hbd r1 r2 r3 r4 r5
          go_upto_region 6 with fail
          clear y0 y1
          cases x with
          | false =>
            refine wp_region_any (by kernel_rfl) ?_
            refine wpAny_vals (fun u => Below wr.heap.size wr u) (fun i v u => match i with
              | 0 => v = .pointer (some ⟨G, 1, none⟩)
              | 1 => v = .slice (some ⟨b, off, none⟩) X.m c
              | 2 => v = .int .i64 (k : Int)
              | 3 => v = .pointer (some ⟨b, off + k * 13, none⟩)
              | 4 => v = .agg (dL (X.f k) a1 (X.f k).q.ws.length c1 a2 (X.f k).q.bs.length c2 a3 (X.f k).np c3 a4 (X.f k).hs.length c4 a5 (X.f k).nt c5).toArray
              | 5 => v = .bool false
              | 6 => v = .bool true
              | 7 => v = .bool true
              | 8 => v = undef
              | 9 => v = undef
              | 10 => v = undef
              | 11 => v = undef
              | 12 => v = undef
              | 13 => v = undef
              | 14 => v = undef
              | 15 => v = undef
              | 16 => v = undef
              | 17 => v = undef
              | 18 => v = undef
              | 19 => v = .bool true
              | 20 => v = .bool true
              | 21 => v = undef
              | 22 => v = undef
              | 23 => v = undef
              | 24 => v = undef
              | 25 => v = undef
              | 26 => v = undef
              | 27 => v = undef
              | 28 => v = undef
              | 29 => v = undef
              | 30 => v = undef
              | 31 => v = undef
              | 32 => v = undef
              | 33 => v = undef
              | 34 => v = undef
              | 35 => v = undef
              | 36 => v = undef
              | 37 => v = undef
              | 38 => v = undef
              | 39 => v = .bool true
              | _ => True) (by kernel_rfl) (by kernel_rfl) (fun _ _ _ _ h _ => h) (by first | exact Below.refl _ _ | exact (Below.refl _ _).drew) ?_ ?_ _ _ rfl (by decide) (fun i => by simp [Array.getD]; try (split <;> rfl))
            · intro vs u hR hall
              have e39 : vs 39 = .bool true := hall 39 (by simp)
              simp only [putsL]
              rw [e39]
              clear hall e39
              have HF : Hid (allN (rowB X) X.m = false ∧ Below w.heap.size w u) := ⟨allN_no hlt (by rw [HA.out.2.2.2]; rfl), bel_nx HA.out.2.1 hR⟩
              clear HK HA hR
              go_simp
              go_wp2
              go_ret
              exact ⟨by rw [HF.out.1]; rfl, HF.out.2⟩
            · intro u i o ρ hR ho hρ hc hf hd
              have hi : i < 40 := by
                have := (Array.getElem?_eq_some_iff.1 ho).1
                simpa using this
              obtain rfl | rfl | rfl | rfl | rfl | rfl | rfl | rfl | rfl | rfl | rfl | rfl | rfl | rfl | rfl | rfl | rfl | rfl | rfl | rfl | rfl | rfl | rfl | rfl | rfl | rfl | rfl | rfl | rfl | rfl | rfl | rfl | rfl | rfl | rfl | rfl | rfl | rfl | rfl | rfl : i = 0 ∨ i = 1 ∨ i = 2 ∨ i = 3 ∨ i = 4 ∨ i = 5 ∨ i = 6 ∨ i = 7 ∨ i = 8 ∨ i = 9 ∨ i = 10 ∨ i = 11 ∨ i = 12 ∨ i = 13 ∨ i = 14 ∨ i = 15 ∨ i = 16 ∨ i = 17 ∨ i = 18 ∨ i = 19 ∨ i = 20 ∨ i = 21 ∨ i = 22 ∨ i = 23 ∨ i = 24 ∨ i = 25 ∨ i = 26 ∨ i = 27 ∨ i = 28 ∨ i = 29 ∨ i = 30 ∨ i = 31 ∨ i = 32 ∨ i = 33 ∨ i = 34 ∨ i = 35 ∨ i = 36 ∨ i = 37 ∨ i = 38 ∨ i = 39 := by omega
              all_goals (simp only [List.getElem?_toArray, List.getElem?_cons_zero, List.getElem?_cons_succ, Option.some.injEq] at ho; subst ho)
              · -- 0
                have s1 : ρ (.tmp 1) = .pointer (some ⟨G, 0, none⟩) := (hρ 1 (by kernel_rfl)).trans rfl
                exact .inl ⟨rfl, .inl ⟨.pointer (some ⟨G, 1, none⟩), u, run_field_op rfl s1 (by go_simp), rfl, hR, Below.refl _ _⟩⟩
              · -- 1
                have h0 : ρ (.tmp 21) = .pointer (some ⟨G, 1, none⟩) := hd ⟨0, .data⟩ (by simp) rfl 21 rfl
                have y9 : u.cell? ⟨G, 1, none⟩ = some (.slice (some ⟨b, off, none⟩) X.m c) := (HK.out.1.below hR).rng 1 _ rfl
                have hr : (Instr.loadAt 27 (.pointer (some ⟨G, 1, none⟩))).run Try.prog u = .ok (.slice (some ⟨b, off, none⟩) X.m c) u := by go_simp
                exact .inl ⟨rfl, .inl ⟨.slice (some ⟨b, off, none⟩) X.m c, u, run_load_op rfl h0 hr, rfl, hR, Below.refl _ _⟩⟩
              · -- 2
                have s3 : ρ (.tmp 3) = .int .i64 (k : Int) := (hρ 3 (by kernel_rfl)).trans rfl
                exact .inl ⟨rfl, .inl ⟨_, u, rfl, s3, hR, Below.refl _ _⟩⟩
              · -- 3
                have h1 : ρ (.tmp 22) = .slice (some ⟨b, off, none⟩) X.m c := hd ⟨1, .data⟩ (by simp) rfl 22 rfl
                have h2 : ρ (.tmp 23) = .int .i64 (k : Int) := hd ⟨2, .data⟩ (by simp) rfl 23 rfl
                exact .inl ⟨rfl, .inl ⟨.pointer (some ⟨b, off + k * 13, none⟩), u, run_index_op rfl h1 h2 (by go_simp), rfl, hR, Below.refl _ _⟩⟩
              · -- 4
                have h3 : ρ (.tmp 24) = .pointer (some ⟨b, off + k * 13, none⟩) := hd ⟨3, .data⟩ (by simp) rfl 24 rfl
                have hr : (Instr.loadAt 44 (.pointer (some ⟨b, off + k * 13, none⟩))).run Try.prog u = .ok (.agg (dL (X.f k) a1 (X.f k).q.ws.length c1 a2 (X.f k).q.bs.length c2 a3 (X.f k).np c3 a4 (X.f k).hs.length c4 a5 (X.f k).nt c5).toArray) u := run_loadAt_mid u b (off + k * 13) 44 (dL (X.f k) a1 (X.f k).q.ws.length c1 a2 (X.f k).q.bs.length c2 a3 (X.f k).np c3 a4 (X.f k).hs.length c4 a5 (X.f k).nt c5) _ (rangeAt_below HK.out.2.2.1 HK.out.2.1 hR) Try.underlying44 rfl (by kernel_rfl)
                exact .inl ⟨rfl, .inl ⟨.agg (dL (X.f k) a1 (X.f k).q.ws.length c1 a2 (X.f k).q.bs.length c2 a3 (X.f k).np c3 a4 (X.f k).hs.length c4 a5 (X.f k).nt c5).toArray, u, run_load_op rfl h3 hr, rfl, hR, Below.refl _ _⟩⟩
              · -- 5
                have h4 : ρ (.tmp 25) = .agg (dL (X.f k) a1 (X.f k).q.ws.length c1 a2 (X.f k).q.bs.length c2 a3 (X.f k).np c3 a4 (X.f k).hs.length c4 a5 (X.f k).nt c5).toArray := hd ⟨4, .data⟩ (by simp) rfl 25 rfl
                refine .inl ⟨rfl, .inr ⟨_, _, run_call_op rfl (hf _) (args := #[.agg (dL (X.f k) a1 (X.f k).q.ws.length c1 a2 (X.f k).q.bs.length c2 a3 (X.f k).np c3 a4 (X.f k).hs.length c4 a5 (X.f k).nt c5).toArray]) (by simp [h4]) (by kernel_rfl), ?_⟩⟩
                refine (specPend_any (X.f k) a1 c1 a2 c2 a3 c3 a4 c4 a5 c5 _ (HK.out.2.2.2.1.below hR) (HK.out.2.2.2.2.1.below hR) (HK.out.2.2.2.2.2.1.below hR) (HK.out.2.2.2.2.2.2.1.below hR) (HK.out.2.2.2.2.2.2.2.1.below hR) HK.out.2.2.2.2.2.2.2.2).mono ?_
                rintro e u' ⟨he, b'⟩
                exact ⟨_, he.trans (by rw [HX.out.1]), rfl, bel_nx hR b', b'⟩
              · -- 6
                have h5 : ρ (.tmp 26) = .bool false := hd ⟨5, .data⟩ (by simp) rfl 26 rfl
                exact .inl ⟨rfl, .inl ⟨.bool true, u, run_un_op rfl h5 (by go_simp), rfl, hR, Below.refl _ _⟩⟩
              · -- 7
                have h6 : ρ (.tmp 27) = .bool true := hd ⟨6, .data⟩ (by simp) rfl 27 rfl
                exact .inl ⟨rfl, .inl ⟨_, u, rfl, h6, hR, Below.refl _ _⟩⟩
              · -- 8
                have g7 : ρ (.tmp 28) = .bool true := hd ⟨7, .guard⟩ (by simp) rfl 28 rfl
                exact .inr ⟨(by show (match ρ (.tmp 28) with | .bool b => b == false | _ => false) = false; rw [g7]; rfl), rfl⟩
              · -- 9
                have g7 : ρ (.tmp 28) = .bool true := hd ⟨7, .guard⟩ (by simp) rfl 28 rfl
                exact .inr ⟨(by show (match ρ (.tmp 28) with | .bool b => b == false | _ => false) = false; rw [g7]; rfl), rfl⟩
              · -- 10
                have g7 : ρ (.tmp 28) = .bool true := hd ⟨7, .guard⟩ (by simp) rfl 28 rfl
                exact .inr ⟨(by show (match ρ (.tmp 28) with | .bool b => b == false | _ => false) = false; rw [g7]; rfl), rfl⟩
              · -- 11
                have g7 : ρ (.tmp 28) = .bool true := hd ⟨7, .guard⟩ (by simp) rfl 28 rfl
                exact .inr ⟨(by show (match ρ (.tmp 28) with | .bool b => b == false | _ => false) = false; rw [g7]; rfl), rfl⟩
              · -- 12
                have g7 : ρ (.tmp 28) = .bool true := hd ⟨7, .guard⟩ (by simp) rfl 28 rfl
                exact .inr ⟨(by show (match ρ (.tmp 28) with | .bool b => b == false | _ => false) = false; rw [g7]; rfl), rfl⟩
              · -- 13
                have g7 : ρ (.tmp 28) = .bool true := hd ⟨7, .guard⟩ (by simp) rfl 28 rfl
                exact .inr ⟨(by show (match ρ (.tmp 28) with | .bool b => b == false | _ => false) = false; rw [g7]; rfl), rfl⟩
              · -- 14
                have g7 : ρ (.tmp 28) = .bool true := hd ⟨7, .guard⟩ (by simp) rfl 28 rfl
                exact .inr ⟨(by show (match ρ (.tmp 28) with | .bool b => b == false | _ => false) = false; rw [g7]; rfl), rfl⟩
              · -- 15
                have g7 : ρ (.tmp 28) = .bool true := hd ⟨7, .guard⟩ (by simp) rfl 28 rfl
                exact .inr ⟨(by show (match ρ (.tmp 28) with | .bool b => b == false | _ => false) = false; rw [g7]; rfl), rfl⟩
              · -- 16
                have g7 : ρ (.tmp 28) = .bool true := hd ⟨7, .guard⟩ (by simp) rfl 28 rfl
                exact .inr ⟨(by show (match ρ (.tmp 28) with | .bool b => b == false | _ => false) = false; rw [g7]; rfl), rfl⟩
              · -- 17
                have g7 : ρ (.tmp 28) = .bool true := hd ⟨7, .guard⟩ (by simp) rfl 28 rfl
                exact .inr ⟨(by show (match ρ (.tmp 28) with | .bool b => b == false | _ => false) = false; rw [g7]; rfl), rfl⟩
              · -- 18
                have g7 : ρ (.tmp 28) = .bool true := hd ⟨7, .guard⟩ (by simp) rfl 28 rfl
                exact .inr ⟨(by show (match ρ (.tmp 28) with | .bool b => b == false | _ => false) = false; rw [g7]; rfl), rfl⟩
              · -- 19
                have h7 : ρ (.tmp 28) = .bool true := hd ⟨7, .data⟩ (by simp) rfl 28 rfl
                exact .inl ⟨rfl, .inl ⟨_, u, run_pick_op rfl h7, (by simpa using hc _), hR, Below.refl _ _⟩⟩
              · -- 20
                have h19 : ρ (.tmp 40) = .bool true := hd ⟨19, .data⟩ (by simp) rfl 40 rfl
                exact .inl ⟨rfl, .inl ⟨_, u, rfl, h19, hR, Below.refl _ _⟩⟩
              · -- 21
                have g20 : ρ (.tmp 41) = .bool true := hd ⟨20, .guard⟩ (by simp) rfl 41 rfl
                exact .inr ⟨(by show (match ρ (.tmp 41) with | .bool b => b == false | _ => false) = false; rw [g20]; rfl), rfl⟩
              · -- 22
                have g20 : ρ (.tmp 41) = .bool true := hd ⟨20, .guard⟩ (by simp) rfl 41 rfl
                exact .inr ⟨(by show (match ρ (.tmp 41) with | .bool b => b == false | _ => false) = false; rw [g20]; rfl), rfl⟩
              · -- 23
                have g20 : ρ (.tmp 41) = .bool true := hd ⟨20, .guard⟩ (by simp) rfl 41 rfl
                exact .inr ⟨(by show (match ρ (.tmp 41) with | .bool b => b == false | _ => false) = false; rw [g20]; rfl), rfl⟩
              · -- 24
                have g23 : ρ (.tmp 44) = undef := hd ⟨23, .guard⟩ (by simp) rfl 44 rfl
                exact .inr ⟨(by show (match ρ (.tmp 44) with | .bool b => b == true | _ => false) = false; rw [g23]; rfl), rfl⟩
              · -- 25
                have g23 : ρ (.tmp 44) = undef := hd ⟨23, .guard⟩ (by simp) rfl 44 rfl
                exact .inr ⟨(by show (match ρ (.tmp 44) with | .bool b => b == true | _ => false) = false; rw [g23]; rfl), rfl⟩
              · -- 26
                have g23 : ρ (.tmp 44) = undef := hd ⟨23, .guard⟩ (by simp) rfl 44 rfl
                exact .inr ⟨(by show (match ρ (.tmp 44) with | .bool b => b == true | _ => false) = false; rw [g23]; rfl), rfl⟩
              · -- 27
                have g23 : ρ (.tmp 44) = undef := hd ⟨23, .guard⟩ (by simp) rfl 44 rfl
                exact .inr ⟨(by show (match ρ (.tmp 44) with | .bool b => b == true | _ => false) = false; rw [g23]; rfl), rfl⟩
              · -- 28
                have g23 : ρ (.tmp 44) = undef := hd ⟨23, .guard⟩ (by simp) rfl 44 rfl
                exact .inr ⟨(by show (match ρ (.tmp 44) with | .bool b => b == true | _ => false) = false; rw [g23]; rfl), rfl⟩
              · -- 29
                have g23 : ρ (.tmp 44) = undef := hd ⟨23, .guard⟩ (by simp) rfl 44 rfl
                exact .inr ⟨(by show (match ρ (.tmp 44) with | .bool b => b == true | _ => false) = false; rw [g23]; rfl), rfl⟩
              · -- 30
                have g23 : ρ (.tmp 44) = undef := hd ⟨23, .guard⟩ (by simp) rfl 44 rfl
                exact .inr ⟨(by show (match ρ (.tmp 44) with | .bool b => b == true | _ => false) = false; rw [g23]; rfl), rfl⟩
              · -- 31
                have g23 : ρ (.tmp 44) = undef := hd ⟨23, .guard⟩ (by simp) rfl 44 rfl
                exact .inr ⟨(by show (match ρ (.tmp 44) with | .bool b => b == true | _ => false) = false; rw [g23]; rfl), rfl⟩
              · -- 32
                have g23 : ρ (.tmp 44) = undef := hd ⟨23, .guard⟩ (by simp) rfl 44 rfl
                exact .inr ⟨(by show (match ρ (.tmp 44) with | .bool b => b == true | _ => false) = false; rw [g23]; rfl), rfl⟩
              · -- 33
                have g23 : ρ (.tmp 44) = undef := hd ⟨23, .guard⟩ (by simp) rfl 44 rfl
                exact .inr ⟨(by show (match ρ (.tmp 44) with | .bool b => b == true | _ => false) = false; rw [g23]; rfl), rfl⟩
              · -- 34
                have g23 : ρ (.tmp 44) = undef := hd ⟨23, .guard⟩ (by simp) rfl 44 rfl
                exact .inr ⟨(by show (match ρ (.tmp 44) with | .bool b => b == true | _ => false) = false; rw [g23]; rfl), rfl⟩
              · -- 35
                have g23 : ρ (.tmp 44) = undef := hd ⟨23, .guard⟩ (by simp) rfl 44 rfl
                exact .inr ⟨(by show (match ρ (.tmp 44) with | .bool b => b == true | _ => false) = false; rw [g23]; rfl), rfl⟩
              · -- 36
                have g23 : ρ (.tmp 44) = undef := hd ⟨23, .guard⟩ (by simp) rfl 44 rfl
                exact .inr ⟨(by show (match ρ (.tmp 44) with | .bool b => b == true | _ => false) = false; rw [g23]; rfl), rfl⟩
              · -- 37
                have g23 : ρ (.tmp 44) = undef := hd ⟨23, .guard⟩ (by simp) rfl 44 rfl
                exact .inr ⟨(by show (match ρ (.tmp 44) with | .bool b => b == true | _ => false) = false; rw [g23]; rfl), rfl⟩
              · -- 38
                have g20 : ρ (.tmp 41) = .bool true := hd ⟨20, .guard⟩ (by simp) rfl 41 rfl
                exact .inr ⟨(by show (match ρ (.tmp 41) with | .bool b => b == false | _ => false) = false; rw [g20]; rfl), rfl⟩
              · -- 39
                have h20 : ρ (.tmp 41) = .bool true := hd ⟨20, .data⟩ (by simp) rfl 41 rfl
                exact .inl ⟨rfl, .inl ⟨_, u, run_pick_op rfl h20, (by simpa using hc _), hR, Below.refl _ _⟩⟩
          | true =>
            cases xi with
            | false =>
              refine wp_region_any (by kernel_rfl) ?_
              refine wpAny_vals (fun u => Below wr.heap.size wr u) (fun i v u => match i with
                | 0 => v = .pointer (some ⟨G, 1, none⟩)
                | 1 => v = .slice (some ⟨b, off, none⟩) X.m c
                | 2 => v = .int .i64 (k : Int)
                | 3 => v = .pointer (some ⟨b, off + k * 13, none⟩)
                | 4 => v = .agg (dL (X.f k) a1 (X.f k).q.ws.length c1 a2 (X.f k).q.bs.length c2 a3 (X.f k).np c3 a4 (X.f k).hs.length c4 a5 (X.f k).nt c5).toArray
                | 5 => v = .bool true
                | 6 => v = .bool false
                | 7 => v = .bool false
                | 8 => v = .pointer (some ⟨G, 1, none⟩)
                | 9 => v = .slice (some ⟨b, off, none⟩) X.m c
                | 10 => v = .int .i64 (k : Int)
                | 11 => v = .pointer (some ⟨b, off + k * 13, none⟩)
                | 12 => v = .pointer (some ⟨b, off + k * 13, none⟩)
                | 13 => v = .int .i64 (X.f k).id
                | 14 => v = .pointer (some ⟨G, 0, none⟩)
                | 15 => v = .int .i64 X.nx
                | 16 => v = .int .i64 (X.nx - 1)
                | 17 => v = .bool false
                | 18 => v = .bool true
                | 19 => v = .bool true
                | 20 => v = .bool true
                | 21 => v = undef
                | 22 => v = undef
                | 23 => v = undef
                | 24 => v = undef
                | 25 => v = undef
                | 26 => v = undef
                | 27 => v = undef
                | 28 => v = undef
                | 29 => v = undef
                | 30 => v = undef
                | 31 => v = undef
                | 32 => v = undef
                | 33 => v = undef
                | 34 => v = undef
                | 35 => v = undef
                | 36 => v = undef
                | 37 => v = undef
                | 38 => v = undef
                | 39 => v = .bool true
                | _ => True) (by kernel_rfl) (by kernel_rfl) (fun _ _ _ _ h _ => h) (by first | exact Below.refl _ _ | exact (Below.refl _ _).drew) ?_ ?_ _ _ rfl (by decide) (fun i => by simp [Array.getD]; try (split <;> rfl))
              · intro vs u hR hall
                have e39 : vs 39 = .bool true := hall 39 (by simp)
                simp only [putsL]
                rw [e39]
                clear hall e39
                have HF : Hid (allN (rowB X) X.m = false ∧ Below w.heap.size w u) := ⟨allN_no hlt (by rw [HA.out.2.2.2]; rfl), bel_nx HA.out.2.1 hR⟩
                clear HK HA hR
                go_simp
                go_wp2
                go_ret
                exact ⟨by rw [HF.out.1]; rfl, HF.out.2⟩
              · intro u i o ρ hR ho hρ hc hf hd
                have hi : i < 40 := by
                  have := (Array.getElem?_eq_some_iff.1 ho).1
                  simpa using this
                obtain rfl | rfl | rfl | rfl | rfl | rfl | rfl | rfl | rfl | rfl | rfl | rfl | rfl | rfl | rfl | rfl | rfl | rfl | rfl | rfl | rfl | rfl | rfl | rfl | rfl | rfl | rfl | rfl | rfl | rfl | rfl | rfl | rfl | rfl | rfl | rfl | rfl | rfl | rfl | rfl : i = 0 ∨ i = 1 ∨ i = 2 ∨ i = 3 ∨ i = 4 ∨ i = 5 ∨ i = 6 ∨ i = 7 ∨ i = 8 ∨ i = 9 ∨ i = 10 ∨ i = 11 ∨ i = 12 ∨ i = 13 ∨ i = 14 ∨ i = 15 ∨ i = 16 ∨ i = 17 ∨ i = 18 ∨ i = 19 ∨ i = 20 ∨ i = 21 ∨ i = 22 ∨ i = 23 ∨ i = 24 ∨ i = 25 ∨ i = 26 ∨ i = 27 ∨ i = 28 ∨ i = 29 ∨ i = 30 ∨ i = 31 ∨ i = 32 ∨ i = 33 ∨ i = 34 ∨ i = 35 ∨ i = 36 ∨ i = 37 ∨ i = 38 ∨ i = 39 := by omega
                all_goals (simp only [List.getElem?_toArray, List.getElem?_cons_zero, List.getElem?_cons_succ, Option.some.injEq] at ho; subst ho)
                · -- 0
                  have s1 : ρ (.tmp 1) = .pointer (some ⟨G, 0, none⟩) := (hρ 1 (by kernel_rfl)).trans rfl
                  exact .inl ⟨rfl, .inl ⟨.pointer (some ⟨G, 1, none⟩), u, run_field_op rfl s1 (by go_simp), rfl, hR, Below.refl _ _⟩⟩
                · -- 1
                  have h0 : ρ (.tmp 21) = .pointer (some ⟨G, 1, none⟩) := hd ⟨0, .data⟩ (by simp) rfl 21 rfl
                  have y9 : u.cell? ⟨G, 1, none⟩ = some (.slice (some ⟨b, off, none⟩) X.m c) := (HK.out.1.below hR).rng 1 _ rfl
                  have hr : (Instr.loadAt 27 (.pointer (some ⟨G, 1, none⟩))).run Try.prog u = .ok (.slice (some ⟨b, off, none⟩) X.m c) u := by go_simp
                  exact .inl ⟨rfl, .inl ⟨.slice (some ⟨b, off, none⟩) X.m c, u, run_load_op rfl h0 hr, rfl, hR, Below.refl _ _⟩⟩
                · -- 2
                  have s3 : ρ (.tmp 3) = .int .i64 (k : Int) := (hρ 3 (by kernel_rfl)).trans rfl
                  exact .inl ⟨rfl, .inl ⟨_, u, rfl, s3, hR, Below.refl _ _⟩⟩
                · -- 3
                  have h1 : ρ (.tmp 22) = .slice (some ⟨b, off, none⟩) X.m c := hd ⟨1, .data⟩ (by simp) rfl 22 rfl
                  have h2 : ρ (.tmp 23) = .int .i64 (k : Int) := hd ⟨2, .data⟩ (by simp) rfl 23 rfl
                  exact .inl ⟨rfl, .inl ⟨.pointer (some ⟨b, off + k * 13, none⟩), u, run_index_op rfl h1 h2 (by go_simp), rfl, hR, Below.refl _ _⟩⟩
                · -- 4
                  have h3 : ρ (.tmp 24) = .pointer (some ⟨b, off + k * 13, none⟩) := hd ⟨3, .data⟩ (by simp) rfl 24 rfl
                  have hr : (Instr.loadAt 44 (.pointer (some ⟨b, off + k * 13, none⟩))).run Try.prog u = .ok (.agg (dL (X.f k) a1 (X.f k).q.ws.length c1 a2 (X.f k).q.bs.length c2 a3 (X.f k).np c3 a4 (X.f k).hs.length c4 a5 (X.f k).nt c5).toArray) u := run_loadAt_mid u b (off + k * 13) 44 (dL (X.f k) a1 (X.f k).q.ws.length c1 a2 (X.f k).q.bs.length c2 a3 (X.f k).np c3 a4 (X.f k).hs.length c4 a5 (X.f k).nt c5) _ (rangeAt_below HK.out.2.2.1 HK.out.2.1 hR) Try.underlying44 rfl (by kernel_rfl)
                  exact .inl ⟨rfl, .inl ⟨.agg (dL (X.f k) a1 (X.f k).q.ws.length c1 a2 (X.f k).q.bs.length c2 a3 (X.f k).np c3 a4 (X.f k).hs.length c4 a5 (X.f k).nt c5).toArray, u, run_load_op rfl h3 hr, rfl, hR, Below.refl _ _⟩⟩
                · -- 5
                  have h4 : ρ (.tmp 25) = .agg (dL (X.f k) a1 (X.f k).q.ws.length c1 a2 (X.f k).q.bs.length c2 a3 (X.f k).np c3 a4 (X.f k).hs.length c4 a5 (X.f k).nt c5).toArray := hd ⟨4, .data⟩ (by simp) rfl 25 rfl
                  refine .inl ⟨rfl, .inr ⟨_, _, run_call_op rfl (hf _) (args := #[.agg (dL (X.f k) a1 (X.f k).q.ws.length c1 a2 (X.f k).q.bs.length c2 a3 (X.f k).np c3 a4 (X.f k).hs.length c4 a5 (X.f k).nt c5).toArray]) (by simp [h4]) (by kernel_rfl), ?_⟩⟩
                  refine (specPend_any (X.f k) a1 c1 a2 c2 a3 c3 a4 c4 a5 c5 _ (HK.out.2.2.2.1.below hR) (HK.out.2.2.2.2.1.below hR) (HK.out.2.2.2.2.2.1.below hR) (HK.out.2.2.2.2.2.2.1.below hR) (HK.out.2.2.2.2.2.2.2.1.below hR) HK.out.2.2.2.2.2.2.2.2).mono ?_
                  rintro e u' ⟨he, b'⟩
                  exact ⟨_, he.trans (by rw [HX.out.1]), rfl, bel_nx hR b', b'⟩
                · -- 6
                  have h5 : ρ (.tmp 26) = .bool true := hd ⟨5, .data⟩ (by simp) rfl 26 rfl
                  exact .inl ⟨rfl, .inl ⟨.bool false, u, run_un_op rfl h5 (by go_simp), rfl, hR, Below.refl _ _⟩⟩
                · -- 7
                  have h6 : ρ (.tmp 27) = .bool false := hd ⟨6, .data⟩ (by simp) rfl 27 rfl
                  exact .inl ⟨rfl, .inl ⟨_, u, rfl, h6, hR, Below.refl _ _⟩⟩
                · -- 8
                  have g7 : ρ (.tmp 28) = .bool false := hd ⟨7, .guard⟩ (by simp) rfl 28 rfl
                  have s1 : ρ (.tmp 1) = .pointer (some ⟨G, 0, none⟩) := (hρ 1 (by kernel_rfl)).trans rfl
                  exact .inl ⟨(by show (match ρ (.tmp 28) with | .bool b => b == false | _ => false) = true; rw [g7]; rfl), .inl ⟨.pointer (some ⟨G, 1, none⟩), u, run_field_op rfl s1 (by go_simp), rfl, hR, Below.refl _ _⟩⟩
                · -- 9
                  have g7 : ρ (.tmp 28) = .bool false := hd ⟨7, .guard⟩ (by simp) rfl 28 rfl
                  have h8 : ρ (.tmp 29) = .pointer (some ⟨G, 1, none⟩) := hd ⟨8, .data⟩ (by simp) rfl 29 rfl
                  have y9 : u.cell? ⟨G, 1, none⟩ = some (.slice (some ⟨b, off, none⟩) X.m c) := (HK.out.1.below hR).rng 1 _ rfl
                  have hr : (Instr.loadAt 27 (.pointer (some ⟨G, 1, none⟩))).run Try.prog u = .ok (.slice (some ⟨b, off, none⟩) X.m c) u := by go_simp
                  exact .inl ⟨(by show (match ρ (.tmp 28) with | .bool b => b == false | _ => false) = true; rw [g7]; rfl), .inl ⟨.slice (some ⟨b, off, none⟩) X.m c, u, run_load_op rfl h8 hr, rfl, hR, Below.refl _ _⟩⟩
                · -- 10
                  have g7 : ρ (.tmp 28) = .bool false := hd ⟨7, .guard⟩ (by simp) rfl 28 rfl
                  have s3 : ρ (.tmp 3) = .int .i64 (k : Int) := (hρ 3 (by kernel_rfl)).trans rfl
                  exact .inl ⟨(by show (match ρ (.tmp 28) with | .bool b => b == false | _ => false) = true; rw [g7]; rfl), .inl ⟨_, u, rfl, s3, hR, Below.refl _ _⟩⟩
                · -- 11
                  have g7 : ρ (.tmp 28) = .bool false := hd ⟨7, .guard⟩ (by simp) rfl 28 rfl
                  have h9 : ρ (.tmp 30) = .slice (some ⟨b, off, none⟩) X.m c := hd ⟨9, .data⟩ (by simp) rfl 30 rfl
                  have h10 : ρ (.tmp 31) = .int .i64 (k : Int) := hd ⟨10, .data⟩ (by simp) rfl 31 rfl
                  exact .inl ⟨(by show (match ρ (.tmp 28) with | .bool b => b == false | _ => false) = true; rw [g7]; rfl), .inl ⟨.pointer (some ⟨b, off + k * 13, none⟩), u, run_index_op rfl h9 h10 (by go_simp), rfl, hR, Below.refl _ _⟩⟩
                · -- 12
                  have g7 : ρ (.tmp 28) = .bool false := hd ⟨7, .guard⟩ (by simp) rfl 28 rfl
                  have h11 : ρ (.tmp 32) = .pointer (some ⟨b, off + k * 13, none⟩) := hd ⟨11, .data⟩ (by simp) rfl 32 rfl
                  exact .inl ⟨(by show (match ρ (.tmp 28) with | .bool b => b == false | _ => false) = true; rw [g7]; rfl), .inl ⟨.pointer (some ⟨b, off + k * 13, none⟩), u, run_field_op rfl h11 (by go_simp), rfl, hR, Below.refl _ _⟩⟩
                · -- 13
                  have g7 : ρ (.tmp 28) = .bool false := hd ⟨7, .guard⟩ (by simp) rfl 28 rfl
                  have h12 : ρ (.tmp 33) = .pointer (some ⟨b, off + k * 13, none⟩) := hd ⟨12, .data⟩ (by simp) rfl 33 rfl
                  have y9 : u.cell? ⟨b, off + k * 13, none⟩ = some (.int .i64 (X.f k).id) := (rangeAt_below HK.out.2.2.1 HK.out.2.1 hR) 0 _ rfl
                  have hr : (Instr.loadAt 3 (.pointer (some ⟨b, off + k * 13, none⟩))).run Try.prog u = .ok (.int .i64 (X.f k).id) u := by go_simp
                  exact .inl ⟨(by show (match ρ (.tmp 28) with | .bool b => b == false | _ => false) = true; rw [g7]; rfl), .inl ⟨.int .i64 (X.f k).id, u, run_load_op rfl h12 hr, rfl, hR, Below.refl _ _⟩⟩
                · -- 14
                  have g7 : ρ (.tmp 28) = .bool false := hd ⟨7, .guard⟩ (by simp) rfl 28 rfl
                  have s1 : ρ (.tmp 1) = .pointer (some ⟨G, 0, none⟩) := (hρ 1 (by kernel_rfl)).trans rfl
                  exact .inl ⟨(by show (match ρ (.tmp 28) with | .bool b => b == false | _ => false) = true; rw [g7]; rfl), .inl ⟨.pointer (some ⟨G, 0, none⟩), u, run_field_op rfl s1 (by go_simp), rfl, hR, Below.refl _ _⟩⟩
                · -- 15
                  have g7 : ρ (.tmp 28) = .bool false := hd ⟨7, .guard⟩ (by simp) rfl 28 rfl
                  have h14 : ρ (.tmp 35) = .pointer (some ⟨G, 0, none⟩) := hd ⟨14, .data⟩ (by simp) rfl 35 rfl
                  have y9 : u.cell? ⟨G, 0, none⟩ = some (.int .i64 X.nx) := (HK.out.1.below hR).rng 0 _ rfl
                  have hr : (Instr.loadAt 3 (.pointer (some ⟨G, 0, none⟩))).run Try.prog u = .ok (.int .i64 X.nx) u := by go_simp
                  exact .inl ⟨(by show (match ρ (.tmp 28) with | .bool b => b == false | _ => false) = true; rw [g7]; rfl), .inl ⟨.int .i64 X.nx, u, run_load_op rfl h14 hr, rfl, hR, Below.refl _ _⟩⟩
                · -- 16
                  have g7 : ρ (.tmp 28) = .bool false := hd ⟨7, .guard⟩ (by simp) rfl 28 rfl
                  have h15 : ρ (.tmp 36) = .int .i64 X.nx := hd ⟨15, .data⟩ (by simp) rfl 36 rfl
                  exact .inl ⟨(by show (match ρ (.tmp 28) with | .bool b => b == false | _ => false) = true; rw [g7]; rfl), .inl ⟨.int .i64 (X.nx - 1), u, run_bin_op rfl h15 (hc _) (by go_simp), rfl, hR, Below.refl _ _⟩⟩
                · -- 17
                  have g7 : ρ (.tmp 28) = .bool false := hd ⟨7, .guard⟩ (by simp) rfl 28 rfl
                  have h13 : ρ (.tmp 34) = .int .i64 (X.f k).id := hd ⟨13, .data⟩ (by simp) rfl 34 rfl
                  have h16 : ρ (.tmp 37) = .int .i64 (X.nx - 1) := hd ⟨16, .data⟩ (by simp) rfl 37 rfl
                  refine .inl ⟨(by show (match ρ (.tmp 28) with | .bool b => b == false | _ => false) = true; rw [g7]; rfl), .inr ⟨_, _, run_call_op rfl (hf _) (args := #[.int .i64 (X.f k).id, .int .i64 0, .int .i64 (X.nx - 1)]) (by simp [h13, hc, h16]) (by kernel_rfl), ?_⟩⟩
                  refine (l1In_any _ _ _ _ _ HX.out.2).mono ?_
                  rintro e u' ⟨he, rfl⟩
                  exact ⟨_, he, rfl, hR, Below.refl _ _⟩
                · -- 18
                  have g7 : ρ (.tmp 28) = .bool false := hd ⟨7, .guard⟩ (by simp) rfl 28 rfl
                  have h17 : ρ (.tmp 38) = .bool false := hd ⟨17, .data⟩ (by simp) rfl 38 rfl
                  exact .inl ⟨(by show (match ρ (.tmp 28) with | .bool b => b == false | _ => false) = true; rw [g7]; rfl), .inl ⟨.bool true, u, run_un_op rfl h17 (by go_simp), rfl, hR, Below.refl _ _⟩⟩
                · -- 19
                  have h7 : ρ (.tmp 28) = .bool false := hd ⟨7, .data⟩ (by simp) rfl 28 rfl
                  have h18 : ρ (.tmp 39) = .bool true := hd ⟨18, .data⟩ (by simp) rfl 39 rfl
                  exact .inl ⟨rfl, .inl ⟨_, u, run_pick_op rfl h7, (by simpa using h18), hR, Below.refl _ _⟩⟩
                · -- 20
                  have h19 : ρ (.tmp 40) = .bool true := hd ⟨19, .data⟩ (by simp) rfl 40 rfl
                  exact .inl ⟨rfl, .inl ⟨_, u, rfl, h19, hR, Below.refl _ _⟩⟩
                · -- 21
                  have g20 : ρ (.tmp 41) = .bool true := hd ⟨20, .guard⟩ (by simp) rfl 41 rfl
                  exact .inr ⟨(by show (match ρ (.tmp 41) with | .bool b => b == false | _ => false) = false; rw [g20]; rfl), rfl⟩
                · -- 22
                  have g20 : ρ (.tmp 41) = .bool true := hd ⟨20, .guard⟩ (by simp) rfl 41 rfl
                  exact .inr ⟨(by show (match ρ (.tmp 41) with | .bool b => b == false | _ => false) = false; rw [g20]; rfl), rfl⟩
                · -- 23
                  have g20 : ρ (.tmp 41) = .bool true := hd ⟨20, .guard⟩ (by simp) rfl 41 rfl
                  exact .inr ⟨(by show (match ρ (.tmp 41) with | .bool b => b == false | _ => false) = false; rw [g20]; rfl), rfl⟩
                · -- 24
                  have g23 : ρ (.tmp 44) = undef := hd ⟨23, .guard⟩ (by simp) rfl 44 rfl
                  exact .inr ⟨(by show (match ρ (.tmp 44) with | .bool b => b == true | _ => false) = false; rw [g23]; rfl), rfl⟩
                · -- 25
                  have g23 : ρ (.tmp 44) = undef := hd ⟨23, .guard⟩ (by simp) rfl 44 rfl
                  exact .inr ⟨(by show (match ρ (.tmp 44) with | .bool b => b == true | _ => false) = false; rw [g23]; rfl), rfl⟩
                · -- 26
                  have g23 : ρ (.tmp 44) = undef := hd ⟨23, .guard⟩ (by simp) rfl 44 rfl
                  exact .inr ⟨(by show (match ρ (.tmp 44) with | .bool b => b == true | _ => false) = false; rw [g23]; rfl), rfl⟩
                · -- 27
                  have g23 : ρ (.tmp 44) = undef := hd ⟨23, .guard⟩ (by simp) rfl 44 rfl
                  exact .inr ⟨(by show (match ρ (.tmp 44) with | .bool b => b == true | _ => false) = false; rw [g23]; rfl), rfl⟩
                · -- 28
                  have g23 : ρ (.tmp 44) = undef := hd ⟨23, .guard⟩ (by simp) rfl 44 rfl
                  exact .inr ⟨(by show (match ρ (.tmp 44) with | .bool b => b == true | _ => false) = false; rw [g23]; rfl), rfl⟩
                · -- 29
                  have g23 : ρ (.tmp 44) = undef := hd ⟨23, .guard⟩ (by simp) rfl 44 rfl
                  exact .inr ⟨(by show (match ρ (.tmp 44) with | .bool b => b == true | _ => false) = false; rw [g23]; rfl), rfl⟩
                · -- 30
                  have g23 : ρ (.tmp 44) = undef := hd ⟨23, .guard⟩ (by simp) rfl 44 rfl
                  exact .inr ⟨(by show (match ρ (.tmp 44) with | .bool b => b == true | _ => false) = false; rw [g23]; rfl), rfl⟩
                · -- 31
                  have g23 : ρ (.tmp 44) = undef := hd ⟨23, .guard⟩ (by simp) rfl 44 rfl
                  exact .inr ⟨(by show (match ρ (.tmp 44) with | .bool b => b == true | _ => false) = false; rw [g23]; rfl), rfl⟩
                · -- 32
                  have g23 : ρ (.tmp 44) = undef := hd ⟨23, .guard⟩ (by simp) rfl 44 rfl
                  exact .inr ⟨(by show (match ρ (.tmp 44) with | .bool b => b == true | _ => false) = false; rw [g23]; rfl), rfl⟩
                · -- 33
                  have g23 : ρ (.tmp 44) = undef := hd ⟨23, .guard⟩ (by simp) rfl 44 rfl
                  exact .inr ⟨(by show (match ρ (.tmp 44) with | .bool b => b == true | _ => false) = false; rw [g23]; rfl), rfl⟩
                · -- 34
                  have g23 : ρ (.tmp 44) = undef := hd ⟨23, .guard⟩ (by simp) rfl 44 rfl
                  exact .inr ⟨(by show (match ρ (.tmp 44) with | .bool b => b == true | _ => false) = false; rw [g23]; rfl), rfl⟩
                · -- 35
                  have g23 : ρ (.tmp 44) = undef := hd ⟨23, .guard⟩ (by simp) rfl 44 rfl
                  exact .inr ⟨(by show (match ρ (.tmp 44) with | .bool b => b == true | _ => false) = false; rw [g23]; rfl), rfl⟩
                · -- 36
                  have g23 : ρ (.tmp 44) = undef := hd ⟨23, .guard⟩ (by simp) rfl 44 rfl
                  exact .inr ⟨(by show (match ρ (.tmp 44) with | .bool b => b == true | _ => false) = false; rw [g23]; rfl), rfl⟩
                · -- 37
                  have g23 : ρ (.tmp 44) = undef := hd ⟨23, .guard⟩ (by simp) rfl 44 rfl
                  exact .inr ⟨(by show (match ρ (.tmp 44) with | .bool b => b == true | _ => false) = false; rw [g23]; rfl), rfl⟩
                · -- 38
                  have g20 : ρ (.tmp 41) = .bool true := hd ⟨20, .guard⟩ (by simp) rfl 41 rfl
                  exact .inr ⟨(by show (match ρ (.tmp 41) with | .bool b => b == false | _ => false) = false; rw [g20]; rfl), rfl⟩
                · -- 39
                  have h20 : ρ (.tmp 41) = .bool true := hd ⟨20, .data⟩ (by simp) rfl 41 rfl
                  exact .inl ⟨rfl, .inl ⟨_, u, run_pick_op rfl h20, (by simpa using hc _), hR, Below.refl _ _⟩⟩
            | true =>
              by_cases k0 : k = 0
              · have hn0 : ¬ (0 : Int) < (k : Int) := by omega
                have hn9 : ¬ 0 < k := by omega
                have HK0 : Hid (k = 0) := k0
                clear k0
                refine wp_region_any (by kernel_rfl) ?_
                refine wpAny_vals (fun u => Below wr.heap.size wr u) (fun i v u => match i with
                  | 0 => v = .pointer (some ⟨G, 1, none⟩)
                  | 1 => v = .slice (some ⟨b, off, none⟩) X.m c
                  | 2 => v = .int .i64 (k : Int)
                  | 3 => v = .pointer (some ⟨b, off + k * 13, none⟩)
                  | 4 => v = .agg (dL (X.f k) a1 (X.f k).q.ws.length c1 a2 (X.f k).q.bs.length c2 a3 (X.f k).np c3 a4 (X.f k).hs.length c4 a5 (X.f k).nt c5).toArray
                  | 5 => v = .bool true
                  | 6 => v = .bool false
                  | 7 => v = .bool false
                  | 8 => v = .pointer (some ⟨G, 1, none⟩)
                  | 9 => v = .slice (some ⟨b, off, none⟩) X.m c
                  | 10 => v = .int .i64 (k : Int)
                  | 11 => v = .pointer (some ⟨b, off + k * 13, none⟩)
                  | 12 => v = .pointer (some ⟨b, off + k * 13, none⟩)
                  | 13 => v = .int .i64 (X.f k).id
                  | 14 => v = .pointer (some ⟨G, 0, none⟩)
                  | 15 => v = .int .i64 X.nx
                  | 16 => v = .int .i64 (X.nx - 1)
                  | 17 => v = .bool true
                  | 18 => v = .bool false
                  | 19 => v = .bool false
                  | 20 => v = .bool false
                  | 21 => v = .int .i64 (k : Int)
                  | 22 => v = .bool false
                  | 23 => v = .bool false
                  | 24 => v = undef
                  | 25 => v = undef
                  | 26 => v = undef
                  | 27 => v = undef
                  | 28 => v = undef
                  | 29 => v = undef
                  | 30 => v = undef
                  | 31 => v = undef
                  | 32 => v = undef
                  | 33 => v = undef
                  | 34 => v = undef
                  | 35 => v = undef
                  | 36 => v = undef
                  | 37 => v = undef
                  | 38 => v = .bool false
                  | 39 => v = .bool false
                  | _ => True) (by kernel_rfl) (by kernel_rfl) (fun _ _ _ _ h _ => h) (by first | exact Below.refl _ _ | exact (Below.refl _ _).drew) ?_ ?_ _ _ rfl (by decide) (fun i => by simp [Array.getD]; try (split <;> rfl))
                · intro vs u hR hall
                  have e39 : vs 39 = .bool false := hall 39 (by simp)
                  simp only [putsL]
                  rw [e39]
                  clear hall e39
                  have hgood : rowB X k = true := by rw [HA.out.2.2.2]; simp [HK0.out]
                  have HF : Hid (allN (rowB X) (k + 1) = true ∧ Below W.heap.size W u) := ⟨allN_succ HA.out.1 hgood, bel_nx HA.out.2.2.1 hR⟩
                  clear HK HA hR hgood
                  go_simp
                  go_wp2
                  go_roundw
                  case rel => exact ⟨k + 1, by omega, by go_num, HF.out.1, HF.out.2⟩
                  case measure => simp [intOf]; omega
                · intro u i o ρ hR ho hρ hc hf hd
                  have hi : i < 40 := by
                    have := (Array.getElem?_eq_some_iff.1 ho).1
                    simpa using this
                  obtain rfl | rfl | rfl | rfl | rfl | rfl | rfl | rfl | rfl | rfl | rfl | rfl | rfl | rfl | rfl | rfl | rfl | rfl | rfl | rfl | rfl | rfl | rfl | rfl | rfl | rfl | rfl | rfl | rfl | rfl | rfl | rfl | rfl | rfl | rfl | rfl | rfl | rfl | rfl | rfl : i = 0 ∨ i = 1 ∨ i = 2 ∨ i = 3 ∨ i = 4 ∨ i = 5 ∨ i = 6 ∨ i = 7 ∨ i = 8 ∨ i = 9 ∨ i = 10 ∨ i = 11 ∨ i = 12 ∨ i = 13 ∨ i = 14 ∨ i = 15 ∨ i = 16 ∨ i = 17 ∨ i = 18 ∨ i = 19 ∨ i = 20 ∨ i = 21 ∨ i = 22 ∨ i = 23 ∨ i = 24 ∨ i = 25 ∨ i = 26 ∨ i = 27 ∨ i = 28 ∨ i = 29 ∨ i = 30 ∨ i = 31 ∨ i = 32 ∨ i = 33 ∨ i = 34 ∨ i = 35 ∨ i = 36 ∨ i = 37 ∨ i = 38 ∨ i = 39 := by omega
                  all_goals (simp only [List.getElem?_toArray, List.getElem?_cons_zero, List.getElem?_cons_succ, Option.some.injEq] at ho; subst ho)
                  · -- 0
                    have s1 : ρ (.tmp 1) = .pointer (some ⟨G, 0, none⟩) := (hρ 1 (by kernel_rfl)).trans rfl
                    exact .inl ⟨rfl, .inl ⟨.pointer (some ⟨G, 1, none⟩), u, run_field_op rfl s1 (by go_simp), rfl, hR, Below.refl _ _⟩⟩
                  · -- 1
                    have h0 : ρ (.tmp 21) = .pointer (some ⟨G, 1, none⟩) := hd ⟨0, .data⟩ (by simp) rfl 21 rfl
                    have y9 : u.cell? ⟨G, 1, none⟩ = some (.slice (some ⟨b, off, none⟩) X.m c) := (HK.out.1.below hR).rng 1 _ rfl
                    have hr : (Instr.loadAt 27 (.pointer (some ⟨G, 1, none⟩))).run Try.prog u = .ok (.slice (some ⟨b, off, none⟩) X.m c) u := by go_simp
                    exact .inl ⟨rfl, .inl ⟨.slice (some ⟨b, off, none⟩) X.m c, u, run_load_op rfl h0 hr, rfl, hR, Below.refl _ _⟩⟩
                  · -- 2
                    have s3 : ρ (.tmp 3) = .int .i64 (k : Int) := (hρ 3 (by kernel_rfl)).trans rfl
                    exact .inl ⟨rfl, .inl ⟨_, u, rfl, s3, hR, Below.refl _ _⟩⟩
                  · -- 3
                    have h1 : ρ (.tmp 22) = .slice (some ⟨b, off, none⟩) X.m c := hd ⟨1, .data⟩ (by simp) rfl 22 rfl
                    have h2 : ρ (.tmp 23) = .int .i64 (k : Int) := hd ⟨2, .data⟩ (by simp) rfl 23 rfl
                    exact .inl ⟨rfl, .inl ⟨.pointer (some ⟨b, off + k * 13, none⟩), u, run_index_op rfl h1 h2 (by go_simp), rfl, hR, Below.refl _ _⟩⟩
                  · -- 4
                    have h3 : ρ (.tmp 24) = .pointer (some ⟨b, off + k * 13, none⟩) := hd ⟨3, .data⟩ (by simp) rfl 24 rfl
                    have hr : (Instr.loadAt 44 (.pointer (some ⟨b, off + k * 13, none⟩))).run Try.prog u = .ok (.agg (dL (X.f k) a1 (X.f k).q.ws.length c1 a2 (X.f k).q.bs.length c2 a3 (X.f k).np c3 a4 (X.f k).hs.length c4 a5 (X.f k).nt c5).toArray) u := run_loadAt_mid u b (off + k * 13) 44 (dL (X.f k) a1 (X.f k).q.ws.length c1 a2 (X.f k).q.bs.length c2 a3 (X.f k).np c3 a4 (X.f k).hs.length c4 a5 (X.f k).nt c5) _ (rangeAt_below HK.out.2.2.1 HK.out.2.1 hR) Try.underlying44 rfl (by kernel_rfl)
                    exact .inl ⟨rfl, .inl ⟨.agg (dL (X.f k) a1 (X.f k).q.ws.length c1 a2 (X.f k).q.bs.length c2 a3 (X.f k).np c3 a4 (X.f k).hs.length c4 a5 (X.f k).nt c5).toArray, u, run_load_op rfl h3 hr, rfl, hR, Below.refl _ _⟩⟩
                  · -- 5
                    have h4 : ρ (.tmp 25) = .agg (dL (X.f k) a1 (X.f k).q.ws.length c1 a2 (X.f k).q.bs.length c2 a3 (X.f k).np c3 a4 (X.f k).hs.length c4 a5 (X.f k).nt c5).toArray := hd ⟨4, .data⟩ (by simp) rfl 25 rfl
                    refine .inl ⟨rfl, .inr ⟨_, _, run_call_op rfl (hf _) (args := #[.agg (dL (X.f k) a1 (X.f k).q.ws.length c1 a2 (X.f k).q.bs.length c2 a3 (X.f k).np c3 a4 (X.f k).hs.length c4 a5 (X.f k).nt c5).toArray]) (by simp [h4]) (by kernel_rfl), ?_⟩⟩
                    refine (specPend_any (X.f k) a1 c1 a2 c2 a3 c3 a4 c4 a5 c5 _ (HK.out.2.2.2.1.below hR) (HK.out.2.2.2.2.1.below hR) (HK.out.2.2.2.2.2.1.below hR) (HK.out.2.2.2.2.2.2.1.below hR) (HK.out.2.2.2.2.2.2.2.1.below hR) HK.out.2.2.2.2.2.2.2.2).mono ?_
                    rintro e u' ⟨he, b'⟩
                    exact ⟨_, he.trans (by rw [HX.out.1]), rfl, bel_nx hR b', b'⟩
                  · -- 6
                    have h5 : ρ (.tmp 26) = .bool true := hd ⟨5, .data⟩ (by simp) rfl 26 rfl
                    exact .inl ⟨rfl, .inl ⟨.bool false, u, run_un_op rfl h5 (by go_simp), rfl, hR, Below.refl _ _⟩⟩
                  · -- 7
                    have h6 : ρ (.tmp 27) = .bool false := hd ⟨6, .data⟩ (by simp) rfl 27 rfl
                    exact .inl ⟨rfl, .inl ⟨_, u, rfl, h6, hR, Below.refl _ _⟩⟩
                  · -- 8
                    have g7 : ρ (.tmp 28) = .bool false := hd ⟨7, .guard⟩ (by simp) rfl 28 rfl
                    have s1 : ρ (.tmp 1) = .pointer (some ⟨G, 0, none⟩) := (hρ 1 (by kernel_rfl)).trans rfl
                    exact .inl ⟨(by show (match ρ (.tmp 28) with | .bool b => b == false | _ => false) = true; rw [g7]; rfl), .inl ⟨.pointer (some ⟨G, 1, none⟩), u, run_field_op rfl s1 (by go_simp), rfl, hR, Below.refl _ _⟩⟩
                  · -- 9
                    have g7 : ρ (.tmp 28) = .bool false := hd ⟨7, .guard⟩ (by simp) rfl 28 rfl
                    have h8 : ρ (.tmp 29) = .pointer (some ⟨G, 1, none⟩) := hd ⟨8, .data⟩ (by simp) rfl 29 rfl
                    have y9 : u.cell? ⟨G, 1, none⟩ = some (.slice (some ⟨b, off, none⟩) X.m c) := (HK.out.1.below hR).rng 1 _ rfl
                    have hr : (Instr.loadAt 27 (.pointer (some ⟨G, 1, none⟩))).run Try.prog u = .ok (.slice (some ⟨b, off, none⟩) X.m c) u := by go_simp
                    exact .inl ⟨(by show (match ρ (.tmp 28) with | .bool b => b == false | _ => false) = true; rw [g7]; rfl), .inl ⟨.slice (some ⟨b, off, none⟩) X.m c, u, run_load_op rfl h8 hr, rfl, hR, Below.refl _ _⟩⟩
                  · -- 10
                    have g7 : ρ (.tmp 28) = .bool false := hd ⟨7, .guard⟩ (by simp) rfl 28 rfl
                    have s3 : ρ (.tmp 3) = .int .i64 (k : Int) := (hρ 3 (by kernel_rfl)).trans rfl
                    exact .inl ⟨(by show (match ρ (.tmp 28) with | .bool b => b == false | _ => false) = true; rw [g7]; rfl), .inl ⟨_, u, rfl, s3, hR, Below.refl _ _⟩⟩
                  · -- 11
                    have g7 : ρ (.tmp 28) = .bool false := hd ⟨7, .guard⟩ (by simp) rfl 28 rfl
                    have h9 : ρ (.tmp 30) = .slice (some ⟨b, off, none⟩) X.m c := hd ⟨9, .data⟩ (by simp) rfl 30 rfl
                    have h10 : ρ (.tmp 31) = .int .i64 (k : Int) := hd ⟨10, .data⟩ (by simp) rfl 31 rfl
                    exact .inl ⟨(by show (match ρ (.tmp 28) with | .bool b => b == false | _ => false) = true; rw [g7]; rfl), .inl ⟨.pointer (some ⟨b, off + k * 13, none⟩), u, run_index_op rfl h9 h10 (by go_simp), rfl, hR, Below.refl _ _⟩⟩
                  · -- 12
                    have g7 : ρ (.tmp 28) = .bool false := hd ⟨7, .guard⟩ (by simp) rfl 28 rfl
                    have h11 : ρ (.tmp 32) = .pointer (some ⟨b, off + k * 13, none⟩) := hd ⟨11, .data⟩ (by simp) rfl 32 rfl
                    exact .inl ⟨(by show (match ρ (.tmp 28) with | .bool b => b == false | _ => false) = true; rw [g7]; rfl), .inl ⟨.pointer (some ⟨b, off + k * 13, none⟩), u, run_field_op rfl h11 (by go_simp), rfl, hR, Below.refl _ _⟩⟩
                  · -- 13
                    have g7 : ρ (.tmp 28) = .bool false := hd ⟨7, .guard⟩ (by simp) rfl 28 rfl
                    have h12 : ρ (.tmp 33) = .pointer (some ⟨b, off + k * 13, none⟩) := hd ⟨12, .data⟩ (by simp) rfl 33 rfl
                    have y9 : u.cell? ⟨b, off + k * 13, none⟩ = some (.int .i64 (X.f k).id) := (rangeAt_below HK.out.2.2.1 HK.out.2.1 hR) 0 _ rfl
                    have hr : (Instr.loadAt 3 (.pointer (some ⟨b, off + k * 13, none⟩))).run Try.prog u = .ok (.int .i64 (X.f k).id) u := by go_simp
                    exact .inl ⟨(by show (match ρ (.tmp 28) with | .bool b => b == false | _ => false) = true; rw [g7]; rfl), .inl ⟨.int .i64 (X.f k).id, u, run_load_op rfl h12 hr, rfl, hR, Below.refl _ _⟩⟩
                  · -- 14
                    have g7 : ρ (.tmp 28) = .bool false := hd ⟨7, .guard⟩ (by simp) rfl 28 rfl
                    have s1 : ρ (.tmp 1) = .pointer (some ⟨G, 0, none⟩) := (hρ 1 (by kernel_rfl)).trans rfl
                    exact .inl ⟨(by show (match ρ (.tmp 28) with | .bool b => b == false | _ => false) = true; rw [g7]; rfl), .inl ⟨.pointer (some ⟨G, 0, none⟩), u, run_field_op rfl s1 (by go_simp), rfl, hR, Below.refl _ _⟩⟩
                  · -- 15
                    have g7 : ρ (.tmp 28) = .bool false := hd ⟨7, .guard⟩ (by simp) rfl 28 rfl
                    have h14 : ρ (.tmp 35) = .pointer (some ⟨G, 0, none⟩) := hd ⟨14, .data⟩ (by simp) rfl 35 rfl
                    have y9 : u.cell? ⟨G, 0, none⟩ = some (.int .i64 X.nx) := (HK.out.1.below hR).rng 0 _ rfl
                    have hr : (Instr.loadAt 3 (.pointer (some ⟨G, 0, none⟩))).run Try.prog u = .ok (.int .i64 X.nx) u := by go_simp
                    exact .inl ⟨(by show (match ρ (.tmp 28) with | .bool b => b == false | _ => false) = true; rw [g7]; rfl), .inl ⟨.int .i64 X.nx, u, run_load_op rfl h14 hr, rfl, hR, Below.refl _ _⟩⟩
                  · -- 16
                    have g7 : ρ (.tmp 28) = .bool false := hd ⟨7, .guard⟩ (by simp) rfl 28 rfl
                    have h15 : ρ (.tmp 36) = .int .i64 X.nx := hd ⟨15, .data⟩ (by simp) rfl 36 rfl
                    exact .inl ⟨(by show (match ρ (.tmp 28) with | .bool b => b == false | _ => false) = true; rw [g7]; rfl), .inl ⟨.int .i64 (X.nx - 1), u, run_bin_op rfl h15 (hc _) (by go_simp), rfl, hR, Below.refl _ _⟩⟩
                  · -- 17
                    have g7 : ρ (.tmp 28) = .bool false := hd ⟨7, .guard⟩ (by simp) rfl 28 rfl
                    have h13 : ρ (.tmp 34) = .int .i64 (X.f k).id := hd ⟨13, .data⟩ (by simp) rfl 34 rfl
                    have h16 : ρ (.tmp 37) = .int .i64 (X.nx - 1) := hd ⟨16, .data⟩ (by simp) rfl 37 rfl
                    refine .inl ⟨(by show (match ρ (.tmp 28) with | .bool b => b == false | _ => false) = true; rw [g7]; rfl), .inr ⟨_, _, run_call_op rfl (hf _) (args := #[.int .i64 (X.f k).id, .int .i64 0, .int .i64 (X.nx - 1)]) (by simp [h13, hc, h16]) (by kernel_rfl), ?_⟩⟩
                    refine (l1In_any _ _ _ _ _ HX.out.2).mono ?_
                    rintro e u' ⟨he, rfl⟩
                    exact ⟨_, he, rfl, hR, Below.refl _ _⟩
                  · -- 18
                    have g7 : ρ (.tmp 28) = .bool false := hd ⟨7, .guard⟩ (by simp) rfl 28 rfl
                    have h17 : ρ (.tmp 38) = .bool true := hd ⟨17, .data⟩ (by simp) rfl 38 rfl
                    exact .inl ⟨(by show (match ρ (.tmp 28) with | .bool b => b == false | _ => false) = true; rw [g7]; rfl), .inl ⟨.bool false, u, run_un_op rfl h17 (by go_simp), rfl, hR, Below.refl _ _⟩⟩
                  · -- 19
                    have h7 : ρ (.tmp 28) = .bool false := hd ⟨7, .data⟩ (by simp) rfl 28 rfl
                    have h18 : ρ (.tmp 39) = .bool false := hd ⟨18, .data⟩ (by simp) rfl 39 rfl
                    exact .inl ⟨rfl, .inl ⟨_, u, run_pick_op rfl h7, (by simpa using h18), hR, Below.refl _ _⟩⟩
                  · -- 20
                    have h19 : ρ (.tmp 40) = .bool false := hd ⟨19, .data⟩ (by simp) rfl 40 rfl
                    exact .inl ⟨rfl, .inl ⟨_, u, rfl, h19, hR, Below.refl _ _⟩⟩
                  · -- 21
                    have g20 : ρ (.tmp 41) = .bool false := hd ⟨20, .guard⟩ (by simp) rfl 41 rfl
                    have s3 : ρ (.tmp 3) = .int .i64 (k : Int) := (hρ 3 (by kernel_rfl)).trans rfl
                    exact .inl ⟨(by show (match ρ (.tmp 41) with | .bool b => b == false | _ => false) = true; rw [g20]; rfl), .inl ⟨_, u, rfl, s3, hR, Below.refl _ _⟩⟩
                  · -- 22
                    have g20 : ρ (.tmp 41) = .bool false := hd ⟨20, .guard⟩ (by simp) rfl 41 rfl
                    have h21 : ρ (.tmp 42) = .int .i64 (k : Int) := hd ⟨21, .data⟩ (by simp) rfl 42 rfl
                    exact .inl ⟨(by show (match ρ (.tmp 41) with | .bool b => b == false | _ => false) = true; rw [g20]; rfl), .inl ⟨.bool false, u, run_bin_op rfl h21 (hc _) (by go_simp), rfl, hR, Below.refl _ _⟩⟩
                  · -- 23
                    have g20 : ρ (.tmp 41) = .bool false := hd ⟨20, .guard⟩ (by simp) rfl 41 rfl
                    have h22 : ρ (.tmp 43) = .bool false := hd ⟨22, .data⟩ (by simp) rfl 43 rfl
                    exact .inl ⟨(by show (match ρ (.tmp 41) with | .bool b => b == false | _ => false) = true; rw [g20]; rfl), .inl ⟨_, u, rfl, h22, hR, Below.refl _ _⟩⟩
                  · -- 24
                    have g23 : ρ (.tmp 44) = .bool false := hd ⟨23, .guard⟩ (by simp) rfl 44 rfl
                    exact .inr ⟨(by show (match ρ (.tmp 44) with | .bool b => b == true | _ => false) = false; rw [g23]; rfl), rfl⟩
                  · -- 25
                    have g23 : ρ (.tmp 44) = .bool false := hd ⟨23, .guard⟩ (by simp) rfl 44 rfl
                    exact .inr ⟨(by show (match ρ (.tmp 44) with | .bool b => b == true | _ => false) = false; rw [g23]; rfl), rfl⟩
                  · -- 26
                    have g23 : ρ (.tmp 44) = .bool false := hd ⟨23, .guard⟩ (by simp) rfl 44 rfl
                    exact .inr ⟨(by show (match ρ (.tmp 44) with | .bool b => b == true | _ => false) = false; rw [g23]; rfl), rfl⟩
                  · -- 27
                    have g23 : ρ (.tmp 44) = .bool false := hd ⟨23, .guard⟩ (by simp) rfl 44 rfl
                    exact .inr ⟨(by show (match ρ (.tmp 44) with | .bool b => b == true | _ => false) = false; rw [g23]; rfl), rfl⟩
                  · -- 28
                    have g23 : ρ (.tmp 44) = .bool false := hd ⟨23, .guard⟩ (by simp) rfl 44 rfl
                    exact .inr ⟨(by show (match ρ (.tmp 44) with | .bool b => b == true | _ => false) = false; rw [g23]; rfl), rfl⟩
                  · -- 29
                    have g23 : ρ (.tmp 44) = .bool false := hd ⟨23, .guard⟩ (by simp) rfl 44 rfl
                    exact .inr ⟨(by show (match ρ (.tmp 44) with | .bool b => b == true | _ => false) = false; rw [g23]; rfl), rfl⟩
                  · -- 30
                    have g23 : ρ (.tmp 44) = .bool false := hd ⟨23, .guard⟩ (by simp) rfl 44 rfl
                    exact .inr ⟨(by show (match ρ (.tmp 44) with | .bool b => b == true | _ => false) = false; rw [g23]; rfl), rfl⟩
                  · -- 31
                    have g23 : ρ (.tmp 44) = .bool false := hd ⟨23, .guard⟩ (by simp) rfl 44 rfl
                    exact .inr ⟨(by show (match ρ (.tmp 44) with | .bool b => b == true | _ => false) = false; rw [g23]; rfl), rfl⟩
                  · -- 32
                    have g23 : ρ (.tmp 44) = .bool false := hd ⟨23, .guard⟩ (by simp) rfl 44 rfl
                    exact .inr ⟨(by show (match ρ (.tmp 44) with | .bool b => b == true | _ => false) = false; rw [g23]; rfl), rfl⟩
                  · -- 33
                    have g23 : ρ (.tmp 44) = .bool false := hd ⟨23, .guard⟩ (by simp) rfl 44 rfl
                    exact .inr ⟨(by show (match ρ (.tmp 44) with | .bool b => b == true | _ => false) = false; rw [g23]; rfl), rfl⟩
                  · -- 34
                    have g23 : ρ (.tmp 44) = .bool false := hd ⟨23, .guard⟩ (by simp) rfl 44 rfl
                    exact .inr ⟨(by show (match ρ (.tmp 44) with | .bool b => b == true | _ => false) = false; rw [g23]; rfl), rfl⟩
                  · -- 35
                    have g23 : ρ (.tmp 44) = .bool false := hd ⟨23, .guard⟩ (by simp) rfl 44 rfl
                    exact .inr ⟨(by show (match ρ (.tmp 44) with | .bool b => b == true | _ => false) = false; rw [g23]; rfl), rfl⟩
                  · -- 36
                    have g23 : ρ (.tmp 44) = .bool false := hd ⟨23, .guard⟩ (by simp) rfl 44 rfl
                    exact .inr ⟨(by show (match ρ (.tmp 44) with | .bool b => b == true | _ => false) = false; rw [g23]; rfl), rfl⟩
                  · -- 37
                    have g23 : ρ (.tmp 44) = .bool false := hd ⟨23, .guard⟩ (by simp) rfl 44 rfl
                    exact .inr ⟨(by show (match ρ (.tmp 44) with | .bool b => b == true | _ => false) = false; rw [g23]; rfl), rfl⟩
                  · -- 38
                    have g20 : ρ (.tmp 41) = .bool false := hd ⟨20, .guard⟩ (by simp) rfl 41 rfl
                    have h23 : ρ (.tmp 44) = .bool false := hd ⟨23, .data⟩ (by simp) rfl 44 rfl
                    exact .inl ⟨(by show (match ρ (.tmp 41) with | .bool b => b == false | _ => false) = true; rw [g20]; rfl), .inl ⟨_, u, run_pick_op rfl h23, (by simpa using hc _), hR, Below.refl _ _⟩⟩
                  · -- 39
                    have h20 : ρ (.tmp 41) = .bool false := hd ⟨20, .data⟩ (by simp) rfl 41 rfl
                    have h38 : ρ (.tmp 59) = .bool false := hd ⟨38, .data⟩ (by simp) rfl 59 rfl
                    exact .inl ⟨rfl, .inl ⟨_, u, run_pick_op rfl h20, (by simpa using h38), hR, Below.refl _ _⟩⟩
              · have hn0 : (0 : Int) < (k : Int) := by omega
                have hn9 : 0 < k := by omega
                obtain ⟨j, hj⟩ : ∃ j, j = k - 1 := ⟨_, rfl⟩
                have wj : IntKind.i64.wrap ((k : Int) - 1) = (j : Int) := by rw [IntKind.wrap_i64]; omega
                have hij : (j : Int) < (X.m : Int) := by omega
                have HJ : Hid (wr.rangeAt b (off + j * 13) [.int .i64 (X.f j).id]) := HJ0.out j (by omega)
                have HJ1 : Hid (j = k - 1) := hj
                clear hj HJ0
                by_cases t1 : (X.f k).id ≤ (X.f j).id
                · refine wp_region_any (by kernel_rfl) ?_
                  refine wpAny_vals (fun u => Below wr.heap.size wr u) (fun i v u => match i with
                    | 0 => v = .pointer (some ⟨G, 1, none⟩)
                    | 1 => v = .slice (some ⟨b, off, none⟩) X.m c
                    | 2 => v = .int .i64 (k : Int)
                    | 3 => v = .pointer (some ⟨b, off + k * 13, none⟩)
                    | 4 => v = .agg (dL (X.f k) a1 (X.f k).q.ws.length c1 a2 (X.f k).q.bs.length c2 a3 (X.f k).np c3 a4 (X.f k).hs.length c4 a5 (X.f k).nt c5).toArray
                    | 5 => v = .bool true
                    | 6 => v = .bool false
                    | 7 => v = .bool false
                    | 8 => v = .pointer (some ⟨G, 1, none⟩)
                    | 9 => v = .slice (some ⟨b, off, none⟩) X.m c
                    | 10 => v = .int .i64 (k : Int)
                    | 11 => v = .pointer (some ⟨b, off + k * 13, none⟩)
                    | 12 => v = .pointer (some ⟨b, off + k * 13, none⟩)
                    | 13 => v = .int .i64 (X.f k).id
                    | 14 => v = .pointer (some ⟨G, 0, none⟩)
                    | 15 => v = .int .i64 X.nx
                    | 16 => v = .int .i64 (X.nx - 1)
                    | 17 => v = .bool true
                    | 18 => v = .bool false
                    | 19 => v = .bool false
                    | 20 => v = .bool false
                    | 21 => v = .int .i64 (k : Int)
                    | 22 => v = .bool true
                    | 23 => v = .bool true
                    | 24 => v = .pointer (some ⟨G, 1, none⟩)
                    | 25 => v = .slice (some ⟨b, off, none⟩) X.m c
                    | 26 => v = .int .i64 (k : Int)
                    | 27 => v = .int .i64 (j : Int)
                    | 28 => v = .pointer (some ⟨b, off + j * 13, none⟩)
                    | 29 => v = .pointer (some ⟨b, off + j * 13, none⟩)
                    | 30 => v = .int .i64 (X.f j).id
                    | 31 => v = .pointer (some ⟨G, 1, none⟩)
                    | 32 => v = .slice (some ⟨b, off, none⟩) X.m c
                    | 33 => v = .int .i64 (k : Int)
                    | 34 => v = .pointer (some ⟨b, off + k * 13, none⟩)
                    | 35 => v = .pointer (some ⟨b, off + k * 13, none⟩)
                    | 36 => v = .int .i64 (X.f k).id
                    | 37 => v = .bool true
                    | 38 => v = .bool true
                    | 39 => v = .bool true
                    | _ => True) (by kernel_rfl) (by kernel_rfl) (fun _ _ _ _ h _ => h) (by first | exact Below.refl _ _ | exact (Below.refl _ _).drew) ?_ ?_ _ _ rfl (by decide) (fun i => by simp [Array.getD]; try (split <;> rfl))
                  · intro vs u hR hall
                    have e39 : vs 39 = .bool true := hall 39 (by simp)
                    simp only [putsL]
                    rw [e39]
                    clear hall e39
                    have HF : Hid (allN (rowB X) X.m = false ∧ Below w.heap.size w u) := ⟨allN_no hlt (by rw [HA.out.2.2.2]; rw [← HJ1.out]; simp [k0]; omega), bel_nx HA.out.2.1 hR⟩
                    clear HK HA hR
                    go_simp
                    go_wp2
                    go_ret
                    exact ⟨by rw [HF.out.1]; rfl, HF.out.2⟩
                  · intro u i o ρ hR ho hρ hc hf hd
                    have hi : i < 40 := by
                      have := (Array.getElem?_eq_some_iff.1 ho).1
                      simpa using this
                    obtain rfl | rfl | rfl | rfl | rfl | rfl | rfl | rfl | rfl | rfl | rfl | rfl | rfl | rfl | rfl | rfl | rfl | rfl | rfl | rfl | rfl | rfl | rfl | rfl | rfl | rfl | rfl | rfl | rfl | rfl | rfl | rfl | rfl | rfl | rfl | rfl | rfl | rfl | rfl | rfl : i = 0 ∨ i = 1 ∨ i = 2 ∨ i = 3 ∨ i = 4 ∨ i = 5 ∨ i = 6 ∨ i = 7 ∨ i = 8 ∨ i = 9 ∨ i = 10 ∨ i = 11 ∨ i = 12 ∨ i = 13 ∨ i = 14 ∨ i = 15 ∨ i = 16 ∨ i = 17 ∨ i = 18 ∨ i = 19 ∨ i = 20 ∨ i = 21 ∨ i = 22 ∨ i = 23 ∨ i = 24 ∨ i = 25 ∨ i = 26 ∨ i = 27 ∨ i = 28 ∨ i = 29 ∨ i = 30 ∨ i = 31 ∨ i = 32 ∨ i = 33 ∨ i = 34 ∨ i = 35 ∨ i = 36 ∨ i = 37 ∨ i = 38 ∨ i = 39 := by omega
                    all_goals (simp only [List.getElem?_toArray, List.getElem?_cons_zero, List.getElem?_cons_succ, Option.some.injEq] at ho; subst ho)
                    · -- 0
                      have s1 : ρ (.tmp 1) = .pointer (some ⟨G, 0, none⟩) := (hρ 1 (by kernel_rfl)).trans rfl
                      exact .inl ⟨rfl, .inl ⟨.pointer (some ⟨G, 1, none⟩), u, run_field_op rfl s1 (by go_simp), rfl, hR, Below.refl _ _⟩⟩
                    · -- 1
                      have h0 : ρ (.tmp 21) = .pointer (some ⟨G, 1, none⟩) := hd ⟨0, .data⟩ (by simp) rfl 21 rfl
                      have y9 : u.cell? ⟨G, 1, none⟩ = some (.slice (some ⟨b, off, none⟩) X.m c) := (HK.out.1.below hR).rng 1 _ rfl
                      have hr : (Instr.loadAt 27 (.pointer (some ⟨G, 1, none⟩))).run Try.prog u = .ok (.slice (some ⟨b, off, none⟩) X.m c) u := by go_simp
                      exact .inl ⟨rfl, .inl ⟨.slice (some ⟨b, off, none⟩) X.m c, u, run_load_op rfl h0 hr, rfl, hR, Below.refl _ _⟩⟩
                    · -- 2
                      have s3 : ρ (.tmp 3) = .int .i64 (k : Int) := (hρ 3 (by kernel_rfl)).trans rfl
                      exact .inl ⟨rfl, .inl ⟨_, u, rfl, s3, hR, Below.refl _ _⟩⟩
                    · -- 3
                      have h1 : ρ (.tmp 22) = .slice (some ⟨b, off, none⟩) X.m c := hd ⟨1, .data⟩ (by simp) rfl 22 rfl
                      have h2 : ρ (.tmp 23) = .int .i64 (k : Int) := hd ⟨2, .data⟩ (by simp) rfl 23 rfl
                      exact .inl ⟨rfl, .inl ⟨.pointer (some ⟨b, off + k * 13, none⟩), u, run_index_op rfl h1 h2 (by go_simp), rfl, hR, Below.refl _ _⟩⟩
                    · -- 4
                      have h3 : ρ (.tmp 24) = .pointer (some ⟨b, off + k * 13, none⟩) := hd ⟨3, .data⟩ (by simp) rfl 24 rfl
                      have hr : (Instr.loadAt 44 (.pointer (some ⟨b, off + k * 13, none⟩))).run Try.prog u = .ok (.agg (dL (X.f k) a1 (X.f k).q.ws.length c1 a2 (X.f k).q.bs.length c2 a3 (X.f k).np c3 a4 (X.f k).hs.length c4 a5 (X.f k).nt c5).toArray) u := run_loadAt_mid u b (off + k * 13) 44 (dL (X.f k) a1 (X.f k).q.ws.length c1 a2 (X.f k).q.bs.length c2 a3 (X.f k).np c3 a4 (X.f k).hs.length c4 a5 (X.f k).nt c5) _ (rangeAt_below HK.out.2.2.1 HK.out.2.1 hR) Try.underlying44 rfl (by kernel_rfl)
                      exact .inl ⟨rfl, .inl ⟨.agg (dL (X.f k) a1 (X.f k).q.ws.length c1 a2 (X.f k).q.bs.length c2 a3 (X.f k).np c3 a4 (X.f k).hs.length c4 a5 (X.f k).nt c5).toArray, u, run_load_op rfl h3 hr, rfl, hR, Below.refl _ _⟩⟩
                    · -- 5
                      have h4 : ρ (.tmp 25) = .agg (dL (X.f k) a1 (X.f k).q.ws.length c1 a2 (X.f k).q.bs.length c2 a3 (X.f k).np c3 a4 (X.f k).hs.length c4 a5 (X.f k).nt c5).toArray := hd ⟨4, .data⟩ (by simp) rfl 25 rfl
                      refine .inl ⟨rfl, .inr ⟨_, _, run_call_op rfl (hf _) (args := #[.agg (dL (X.f k) a1 (X.f k).q.ws.length c1 a2 (X.f k).q.bs.length c2 a3 (X.f k).np c3 a4 (X.f k).hs.length c4 a5 (X.f k).nt c5).toArray]) (by simp [h4]) (by kernel_rfl), ?_⟩⟩
                      refine (specPend_any (X.f k) a1 c1 a2 c2 a3 c3 a4 c4 a5 c5 _ (HK.out.2.2.2.1.below hR) (HK.out.2.2.2.2.1.below hR) (HK.out.2.2.2.2.2.1.below hR) (HK.out.2.2.2.2.2.2.1.below hR) (HK.out.2.2.2.2.2.2.2.1.below hR) HK.out.2.2.2.2.2.2.2.2).mono ?_
                      rintro e u' ⟨he, b'⟩
                      exact ⟨_, he.trans (by rw [HX.out.1]), rfl, bel_nx hR b', b'⟩
                    · -- 6
                      have h5 : ρ (.tmp 26) = .bool true := hd ⟨5, .data⟩ (by simp) rfl 26 rfl
                      exact .inl ⟨rfl, .inl ⟨.bool false, u, run_un_op rfl h5 (by go_simp), rfl, hR, Below.refl _ _⟩⟩
                    · -- 7
                      have h6 : ρ (.tmp 27) = .bool false := hd ⟨6, .data⟩ (by simp) rfl 27 rfl
                      exact .inl ⟨rfl, .inl ⟨_, u, rfl, h6, hR, Below.refl _ _⟩⟩
                    · -- 8
                      have g7 : ρ (.tmp 28) = .bool false := hd ⟨7, .guard⟩ (by simp) rfl 28 rfl
                      have s1 : ρ (.tmp 1) = .pointer (some ⟨G, 0, none⟩) := (hρ 1 (by kernel_rfl)).trans rfl
                      exact .inl ⟨(by show (match ρ (.tmp 28) with | .bool b => b == false | _ => false) = true; rw [g7]; rfl), .inl ⟨.pointer (some ⟨G, 1, none⟩), u, run_field_op rfl s1 (by go_simp), rfl, hR, Below.refl _ _⟩⟩
                    · -- 9
                      have g7 : ρ (.tmp 28) = .bool false := hd ⟨7, .guard⟩ (by simp) rfl 28 rfl
                      have h8 : ρ (.tmp 29) = .pointer (some ⟨G, 1, none⟩) := hd ⟨8, .data⟩ (by simp) rfl 29 rfl
                      have y9 : u.cell? ⟨G, 1, none⟩ = some (.slice (some ⟨b, off, none⟩) X.m c) := (HK.out.1.below hR).rng 1 _ rfl
                      have hr : (Instr.loadAt 27 (.pointer (some ⟨G, 1, none⟩))).run Try.prog u = .ok (.slice (some ⟨b, off, none⟩) X.m c) u := by go_simp
                      exact .inl ⟨(by show (match ρ (.tmp 28) with | .bool b => b == false | _ => false) = true; rw [g7]; rfl), .inl ⟨.slice (some ⟨b, off, none⟩) X.m c, u, run_load_op rfl h8 hr, rfl, hR, Below.refl _ _⟩⟩
                    · -- 10
                      have g7 : ρ (.tmp 28) = .bool false := hd ⟨7, .guard⟩ (by simp) rfl 28 rfl
                      have s3 : ρ (.tmp 3) = .int .i64 (k : Int) := (hρ 3 (by kernel_rfl)).trans rfl
                      exact .inl ⟨(by show (match ρ (.tmp 28) with | .bool b => b == false | _ => false) = true; rw [g7]; rfl), .inl ⟨_, u, rfl, s3, hR, Below.refl _ _⟩⟩
                    · -- 11
                      have g7 : ρ (.tmp 28) = .bool false := hd ⟨7, .guard⟩ (by simp) rfl 28 rfl
                      have h9 : ρ (.tmp 30) = .slice (some ⟨b, off, none⟩) X.m c := hd ⟨9, .data⟩ (by simp) rfl 30 rfl
                      have h10 : ρ (.tmp 31) = .int .i64 (k : Int) := hd ⟨10, .data⟩ (by simp) rfl 31 rfl
                      exact .inl ⟨(by show (match ρ (.tmp 28) with | .bool b => b == false | _ => false) = true; rw [g7]; rfl), .inl ⟨.pointer (some ⟨b, off + k * 13, none⟩), u, run_index_op rfl h9 h10 (by go_simp), rfl, hR, Below.refl _ _⟩⟩
                    · -- 12
                      have g7 : ρ (.tmp 28) = .bool false := hd ⟨7, .guard⟩ (by simp) rfl 28 rfl
                      have h11 : ρ (.tmp 32) = .pointer (some ⟨b, off + k * 13, none⟩) := hd ⟨11, .data⟩ (by simp) rfl 32 rfl
                      exact .inl ⟨(by show (match ρ (.tmp 28) with | .bool b => b == false | _ => false) = true; rw [g7]; rfl), .inl ⟨.pointer (some ⟨b, off + k * 13, none⟩), u, run_field_op rfl h11 (by go_simp), rfl, hR, Below.refl _ _⟩⟩
                    · -- 13
                      have g7 : ρ (.tmp 28) = .bool false := hd ⟨7, .guard⟩ (by simp) rfl 28 rfl
                      have h12 : ρ (.tmp 33) = .pointer (some ⟨b, off + k * 13, none⟩) := hd ⟨12, .data⟩ (by simp) rfl 33 rfl
                      have y9 : u.cell? ⟨b, off + k * 13, none⟩ = some (.int .i64 (X.f k).id) := (rangeAt_below HK.out.2.2.1 HK.out.2.1 hR) 0 _ rfl
                      have hr : (Instr.loadAt 3 (.pointer (some ⟨b, off + k * 13, none⟩))).run Try.prog u = .ok (.int .i64 (X.f k).id) u := by go_simp
                      exact .inl ⟨(by show (match ρ (.tmp 28) with | .bool b => b == false | _ => false) = true; rw [g7]; rfl), .inl ⟨.int .i64 (X.f k).id, u, run_load_op rfl h12 hr, rfl, hR, Below.refl _ _⟩⟩
                    · -- 14
                      have g7 : ρ (.tmp 28) = .bool false := hd ⟨7, .guard⟩ (by simp) rfl 28 rfl
                      have s1 : ρ (.tmp 1) = .pointer (some ⟨G, 0, none⟩) := (hρ 1 (by kernel_rfl)).trans rfl
                      exact .inl ⟨(by show (match ρ (.tmp 28) with | .bool b => b == false | _ => false) = true; rw [g7]; rfl), .inl ⟨.pointer (some ⟨G, 0, none⟩), u, run_field_op rfl s1 (by go_simp), rfl, hR, Below.refl _ _⟩⟩
                    · -- 15
                      have g7 : ρ (.tmp 28) = .bool false := hd ⟨7, .guard⟩ (by simp) rfl 28 rfl
                      have h14 : ρ (.tmp 35) = .pointer (some ⟨G, 0, none⟩) := hd ⟨14, .data⟩ (by simp) rfl 35 rfl
                      have y9 : u.cell? ⟨G, 0, none⟩ = some (.int .i64 X.nx) := (HK.out.1.below hR).rng 0 _ rfl
                      have hr : (Instr.loadAt 3 (.pointer (some ⟨G, 0, none⟩))).run Try.prog u = .ok (.int .i64 X.nx) u := by go_simp
                      exact .inl ⟨(by show (match ρ (.tmp 28) with | .bool b => b == false | _ => false) = true; rw [g7]; rfl), .inl ⟨.int .i64 X.nx, u, run_load_op rfl h14 hr, rfl, hR, Below.refl _ _⟩⟩
                    · -- 16
                      have g7 : ρ (.tmp 28) = .bool false := hd ⟨7, .guard⟩ (by simp) rfl 28 rfl
                      have h15 : ρ (.tmp 36) = .int .i64 X.nx := hd ⟨15, .data⟩ (by simp) rfl 36 rfl
                      exact .inl ⟨(by show (match ρ (.tmp 28) with | .bool b => b == false | _ => false) = true; rw [g7]; rfl), .inl ⟨.int .i64 (X.nx - 1), u, run_bin_op rfl h15 (hc _) (by go_simp), rfl, hR, Below.refl _ _⟩⟩
                    · -- 17
                      have g7 : ρ (.tmp 28) = .bool false := hd ⟨7, .guard⟩ (by simp) rfl 28 rfl
                      have h13 : ρ (.tmp 34) = .int .i64 (X.f k).id := hd ⟨13, .data⟩ (by simp) rfl 34 rfl
                      have h16 : ρ (.tmp 37) = .int .i64 (X.nx - 1) := hd ⟨16, .data⟩ (by simp) rfl 37 rfl
                      refine .inl ⟨(by show (match ρ (.tmp 28) with | .bool b => b == false | _ => false) = true; rw [g7]; rfl), .inr ⟨_, _, run_call_op rfl (hf _) (args := #[.int .i64 (X.f k).id, .int .i64 0, .int .i64 (X.nx - 1)]) (by simp [h13, hc, h16]) (by kernel_rfl), ?_⟩⟩
                      refine (l1In_any _ _ _ _ _ HX.out.2).mono ?_
                      rintro e u' ⟨he, rfl⟩
                      exact ⟨_, he, rfl, hR, Below.refl _ _⟩
                    · -- 18
                      have g7 : ρ (.tmp 28) = .bool false := hd ⟨7, .guard⟩ (by simp) rfl 28 rfl
                      have h17 : ρ (.tmp 38) = .bool true := hd ⟨17, .data⟩ (by simp) rfl 38 rfl
                      exact .inl ⟨(by show (match ρ (.tmp 28) with | .bool b => b == false | _ => false) = true; rw [g7]; rfl), .inl ⟨.bool false, u, run_un_op rfl h17 (by go_simp), rfl, hR, Below.refl _ _⟩⟩
                    · -- 19
                      have h7 : ρ (.tmp 28) = .bool false := hd ⟨7, .data⟩ (by simp) rfl 28 rfl
                      have h18 : ρ (.tmp 39) = .bool false := hd ⟨18, .data⟩ (by simp) rfl 39 rfl
                      exact .inl ⟨rfl, .inl ⟨_, u, run_pick_op rfl h7, (by simpa using h18), hR, Below.refl _ _⟩⟩
                    · -- 20
                      have h19 : ρ (.tmp 40) = .bool false := hd ⟨19, .data⟩ (by simp) rfl 40 rfl
                      exact .inl ⟨rfl, .inl ⟨_, u, rfl, h19, hR, Below.refl _ _⟩⟩
                    · -- 21
                      have g20 : ρ (.tmp 41) = .bool false := hd ⟨20, .guard⟩ (by simp) rfl 41 rfl
                      have s3 : ρ (.tmp 3) = .int .i64 (k : Int) := (hρ 3 (by kernel_rfl)).trans rfl
                      exact .inl ⟨(by show (match ρ (.tmp 41) with | .bool b => b == false | _ => false) = true; rw [g20]; rfl), .inl ⟨_, u, rfl, s3, hR, Below.refl _ _⟩⟩
                    · -- 22
                      have g20 : ρ (.tmp 41) = .bool false := hd ⟨20, .guard⟩ (by simp) rfl 41 rfl
                      have h21 : ρ (.tmp 42) = .int .i64 (k : Int) := hd ⟨21, .data⟩ (by simp) rfl 42 rfl
                      exact .inl ⟨(by show (match ρ (.tmp 41) with | .bool b => b == false | _ => false) = true; rw [g20]; rfl), .inl ⟨.bool true, u, run_bin_op rfl h21 (hc _) (by go_simp), rfl, hR, Below.refl _ _⟩⟩
                    · -- 23
                      have g20 : ρ (.tmp 41) = .bool false := hd ⟨20, .guard⟩ (by simp) rfl 41 rfl
                      have h22 : ρ (.tmp 43) = .bool true := hd ⟨22, .data⟩ (by simp) rfl 43 rfl
                      exact .inl ⟨(by show (match ρ (.tmp 41) with | .bool b => b == false | _ => false) = true; rw [g20]; rfl), .inl ⟨_, u, rfl, h22, hR, Below.refl _ _⟩⟩
                    · -- 24
                      have g23 : ρ (.tmp 44) = .bool true := hd ⟨23, .guard⟩ (by simp) rfl 44 rfl
                      have s1 : ρ (.tmp 1) = .pointer (some ⟨G, 0, none⟩) := (hρ 1 (by kernel_rfl)).trans rfl
                      exact .inl ⟨(by show (match ρ (.tmp 44) with | .bool b => b == true | _ => false) = true; rw [g23]; rfl), .inl ⟨.pointer (some ⟨G, 1, none⟩), u, run_field_op rfl s1 (by go_simp), rfl, hR, Below.refl _ _⟩⟩
                    · -- 25
                      have g23 : ρ (.tmp 44) = .bool true := hd ⟨23, .guard⟩ (by simp) rfl 44 rfl
                      have h24 : ρ (.tmp 45) = .pointer (some ⟨G, 1, none⟩) := hd ⟨24, .data⟩ (by simp) rfl 45 rfl
                      have y9 : u.cell? ⟨G, 1, none⟩ = some (.slice (some ⟨b, off, none⟩) X.m c) := (HK.out.1.below hR).rng 1 _ rfl
                      have hr : (Instr.loadAt 27 (.pointer (some ⟨G, 1, none⟩))).run Try.prog u = .ok (.slice (some ⟨b, off, none⟩) X.m c) u := by go_simp
                      exact .inl ⟨(by show (match ρ (.tmp 44) with | .bool b => b == true | _ => false) = true; rw [g23]; rfl), .inl ⟨.slice (some ⟨b, off, none⟩) X.m c, u, run_load_op rfl h24 hr, rfl, hR, Below.refl _ _⟩⟩
                    · -- 26
                      have g23 : ρ (.tmp 44) = .bool true := hd ⟨23, .guard⟩ (by simp) rfl 44 rfl
                      have s3 : ρ (.tmp 3) = .int .i64 (k : Int) := (hρ 3 (by kernel_rfl)).trans rfl
                      exact .inl ⟨(by show (match ρ (.tmp 44) with | .bool b => b == true | _ => false) = true; rw [g23]; rfl), .inl ⟨_, u, rfl, s3, hR, Below.refl _ _⟩⟩
                    · -- 27
                      have g23 : ρ (.tmp 44) = .bool true := hd ⟨23, .guard⟩ (by simp) rfl 44 rfl
                      have h26 : ρ (.tmp 47) = .int .i64 (k : Int) := hd ⟨26, .data⟩ (by simp) rfl 47 rfl
                      exact .inl ⟨(by show (match ρ (.tmp 44) with | .bool b => b == true | _ => false) = true; rw [g23]; rfl), .inl ⟨.int .i64 (j : Int), u, run_bin_op rfl h26 (hc _) (by go_simp), rfl, hR, Below.refl _ _⟩⟩
                    · -- 28
                      have g23 : ρ (.tmp 44) = .bool true := hd ⟨23, .guard⟩ (by simp) rfl 44 rfl
                      have h25 : ρ (.tmp 46) = .slice (some ⟨b, off, none⟩) X.m c := hd ⟨25, .data⟩ (by simp) rfl 46 rfl
                      have h27 : ρ (.tmp 48) = .int .i64 (j : Int) := hd ⟨27, .data⟩ (by simp) rfl 48 rfl
                      exact .inl ⟨(by show (match ρ (.tmp 44) with | .bool b => b == true | _ => false) = true; rw [g23]; rfl), .inl ⟨.pointer (some ⟨b, off + j * 13, none⟩), u, run_index_op rfl h25 h27 (by go_simp), rfl, hR, Below.refl _ _⟩⟩
                    · -- 29
                      have g23 : ρ (.tmp 44) = .bool true := hd ⟨23, .guard⟩ (by simp) rfl 44 rfl
                      have h28 : ρ (.tmp 49) = .pointer (some ⟨b, off + j * 13, none⟩) := hd ⟨28, .data⟩ (by simp) rfl 49 rfl
                      exact .inl ⟨(by show (match ρ (.tmp 44) with | .bool b => b == true | _ => false) = true; rw [g23]; rfl), .inl ⟨.pointer (some ⟨b, off + j * 13, none⟩), u, run_field_op rfl h28 (by go_simp), rfl, hR, Below.refl _ _⟩⟩
                    · -- 30
                      have g23 : ρ (.tmp 44) = .bool true := hd ⟨23, .guard⟩ (by simp) rfl 44 rfl
                      have h29 : ρ (.tmp 50) = .pointer (some ⟨b, off + j * 13, none⟩) := hd ⟨29, .data⟩ (by simp) rfl 50 rfl
                      have y9 : u.cell? ⟨b, off + j * 13, none⟩ = some (.int .i64 (X.f j).id) := (rangeAt_below HJ.out HK.out.2.1 hR) 0 _ rfl
                      have hr : (Instr.loadAt 3 (.pointer (some ⟨b, off + j * 13, none⟩))).run Try.prog u = .ok (.int .i64 (X.f j).id) u := by go_simp
                      exact .inl ⟨(by show (match ρ (.tmp 44) with | .bool b => b == true | _ => false) = true; rw [g23]; rfl), .inl ⟨.int .i64 (X.f j).id, u, run_load_op rfl h29 hr, rfl, hR, Below.refl _ _⟩⟩
                    · -- 31
                      have g23 : ρ (.tmp 44) = .bool true := hd ⟨23, .guard⟩ (by simp) rfl 44 rfl
                      have s1 : ρ (.tmp 1) = .pointer (some ⟨G, 0, none⟩) := (hρ 1 (by kernel_rfl)).trans rfl
                      exact .inl ⟨(by show (match ρ (.tmp 44) with | .bool b => b == true | _ => false) = true; rw [g23]; rfl), .inl ⟨.pointer (some ⟨G, 1, none⟩), u, run_field_op rfl s1 (by go_simp), rfl, hR, Below.refl _ _⟩⟩
                    · -- 32
                      have g23 : ρ (.tmp 44) = .bool true := hd ⟨23, .guard⟩ (by simp) rfl 44 rfl
                      have h31 : ρ (.tmp 52) = .pointer (some ⟨G, 1, none⟩) := hd ⟨31, .data⟩ (by simp) rfl 52 rfl
                      have y9 : u.cell? ⟨G, 1, none⟩ = some (.slice (some ⟨b, off, none⟩) X.m c) := (HK.out.1.below hR).rng 1 _ rfl
                      have hr : (Instr.loadAt 27 (.pointer (some ⟨G, 1, none⟩))).run Try.prog u = .ok (.slice (some ⟨b, off, none⟩) X.m c) u := by go_simp
                      exact .inl ⟨(by show (match ρ (.tmp 44) with | .bool b => b == true | _ => false) = true; rw [g23]; rfl), .inl ⟨.slice (some ⟨b, off, none⟩) X.m c, u, run_load_op rfl h31 hr, rfl, hR, Below.refl _ _⟩⟩
                    · -- 33
                      have g23 : ρ (.tmp 44) = .bool true := hd ⟨23, .guard⟩ (by simp) rfl 44 rfl
                      have s3 : ρ (.tmp 3) = .int .i64 (k : Int) := (hρ 3 (by kernel_rfl)).trans rfl
                      exact .inl ⟨(by show (match ρ (.tmp 44) with | .bool b => b == true | _ => false) = true; rw [g23]; rfl), .inl ⟨_, u, rfl, s3, hR, Below.refl _ _⟩⟩
                    · -- 34
                      have g23 : ρ (.tmp 44) = .bool true := hd ⟨23, .guard⟩ (by simp) rfl 44 rfl
                      have h32 : ρ (.tmp 53) = .slice (some ⟨b, off, none⟩) X.m c := hd ⟨32, .data⟩ (by simp) rfl 53 rfl
                      have h33 : ρ (.tmp 54) = .int .i64 (k : Int) := hd ⟨33, .data⟩ (by simp) rfl 54 rfl
                      exact .inl ⟨(by show (match ρ (.tmp 44) with | .bool b => b == true | _ => false) = true; rw [g23]; rfl), .inl ⟨.pointer (some ⟨b, off + k * 13, none⟩), u, run_index_op rfl h32 h33 (by go_simp), rfl, hR, Below.refl _ _⟩⟩
                    · -- 35
                      have g23 : ρ (.tmp 44) = .bool true := hd ⟨23, .guard⟩ (by simp) rfl 44 rfl
                      have h34 : ρ (.tmp 55) = .pointer (some ⟨b, off + k * 13, none⟩) := hd ⟨34, .data⟩ (by simp) rfl 55 rfl
                      exact .inl ⟨(by show (match ρ (.tmp 44) with | .bool b => b == true | _ => false) = true; rw [g23]; rfl), .inl ⟨.pointer (some ⟨b, off + k * 13, none⟩), u, run_field_op rfl h34 (by go_simp), rfl, hR, Below.refl _ _⟩⟩
                    · -- 36
                      have g23 : ρ (.tmp 44) = .bool true := hd ⟨23, .guard⟩ (by simp) rfl 44 rfl
                      have h35 : ρ (.tmp 56) = .pointer (some ⟨b, off + k * 13, none⟩) := hd ⟨35, .data⟩ (by simp) rfl 56 rfl
                      have y9 : u.cell? ⟨b, off + k * 13, none⟩ = some (.int .i64 (X.f k).id) := (rangeAt_below HK.out.2.2.1 HK.out.2.1 hR) 0 _ rfl
                      have hr : (Instr.loadAt 3 (.pointer (some ⟨b, off + k * 13, none⟩))).run Try.prog u = .ok (.int .i64 (X.f k).id) u := by go_simp
                      exact .inl ⟨(by show (match ρ (.tmp 44) with | .bool b => b == true | _ => false) = true; rw [g23]; rfl), .inl ⟨.int .i64 (X.f k).id, u, run_load_op rfl h35 hr, rfl, hR, Below.refl _ _⟩⟩
                    · -- 37
                      have g23 : ρ (.tmp 44) = .bool true := hd ⟨23, .guard⟩ (by simp) rfl 44 rfl
                      have h30 : ρ (.tmp 51) = .int .i64 (X.f j).id := hd ⟨30, .data⟩ (by simp) rfl 51 rfl
                      have h36 : ρ (.tmp 57) = .int .i64 (X.f k).id := hd ⟨36, .data⟩ (by simp) rfl 57 rfl
                      exact .inl ⟨(by show (match ρ (.tmp 44) with | .bool b => b == true | _ => false) = true; rw [g23]; rfl), .inl ⟨.bool true, u, run_bin_op rfl h30 h36 (by go_simp), rfl, hR, Below.refl _ _⟩⟩
                    · -- 38
                      have g20 : ρ (.tmp 41) = .bool false := hd ⟨20, .guard⟩ (by simp) rfl 41 rfl
                      have h23 : ρ (.tmp 44) = .bool true := hd ⟨23, .data⟩ (by simp) rfl 44 rfl
                      have h37 : ρ (.tmp 58) = .bool true := hd ⟨37, .data⟩ (by simp) rfl 58 rfl
                      exact .inl ⟨(by show (match ρ (.tmp 41) with | .bool b => b == false | _ => false) = true; rw [g20]; rfl), .inl ⟨_, u, run_pick_op rfl h23, (by simpa using h37), hR, Below.refl _ _⟩⟩
                    · -- 39
                      have h20 : ρ (.tmp 41) = .bool false := hd ⟨20, .data⟩ (by simp) rfl 41 rfl
                      have h38 : ρ (.tmp 59) = .bool true := hd ⟨38, .data⟩ (by simp) rfl 59 rfl
                      exact .inl ⟨rfl, .inl ⟨_, u, run_pick_op rfl h20, (by simpa using h38), hR, Below.refl _ _⟩⟩
                · refine wp_region_any (by kernel_rfl) ?_
                  refine wpAny_vals (fun u => Below wr.heap.size wr u) (fun i v u => match i with
                    | 0 => v = .pointer (some ⟨G, 1, none⟩)
                    | 1 => v = .slice (some ⟨b, off, none⟩) X.m c
                    | 2 => v = .int .i64 (k : Int)
                    | 3 => v = .pointer (some ⟨b, off + k * 13, none⟩)
                    | 4 => v = .agg (dL (X.f k) a1 (X.f k).q.ws.length c1 a2 (X.f k).q.bs.length c2 a3 (X.f k).np c3 a4 (X.f k).hs.length c4 a5 (X.f k).nt c5).toArray
                    | 5 => v = .bool true
                    | 6 => v = .bool false
                    | 7 => v = .bool false
                    | 8 => v = .pointer (some ⟨G, 1, none⟩)
                    | 9 => v = .slice (some ⟨b, off, none⟩) X.m c
                    | 10 => v = .int .i64 (k : Int)
                    | 11 => v = .pointer (some ⟨b, off + k * 13, none⟩)
                    | 12 => v = .pointer (some ⟨b, off + k * 13, none⟩)
                    | 13 => v = .int .i64 (X.f k).id
                    | 14 => v = .pointer (some ⟨G, 0, none⟩)
                    | 15 => v = .int .i64 X.nx
                    | 16 => v = .int .i64 (X.nx - 1)
                    | 17 => v = .bool true
                    | 18 => v = .bool false
                    | 19 => v = .bool false
                    | 20 => v = .bool false
                    | 21 => v = .int .i64 (k : Int)
                    | 22 => v = .bool true
                    | 23 => v = .bool true
                    | 24 => v = .pointer (some ⟨G, 1, none⟩)
                    | 25 => v = .slice (some ⟨b, off, none⟩) X.m c
                    | 26 => v = .int .i64 (k : Int)
                    | 27 => v = .int .i64 (j : Int)
                    | 28 => v = .pointer (some ⟨b, off + j * 13, none⟩)
                    | 29 => v = .pointer (some ⟨b, off + j * 13, none⟩)
                    | 30 => v = .int .i64 (X.f j).id
                    | 31 => v = .pointer (some ⟨G, 1, none⟩)
                    | 32 => v = .slice (some ⟨b, off, none⟩) X.m c
                    | 33 => v = .int .i64 (k : Int)
                    | 34 => v = .pointer (some ⟨b, off + k * 13, none⟩)
                    | 35 => v = .pointer (some ⟨b, off + k * 13, none⟩)
                    | 36 => v = .int .i64 (X.f k).id
                    | 37 => v = .bool false
                    | 38 => v = .bool false
                    | 39 => v = .bool false
                    | _ => True) (by kernel_rfl) (by kernel_rfl) (fun _ _ _ _ h _ => h) (by first | exact Below.refl _ _ | exact (Below.refl _ _).drew) ?_ ?_ _ _ rfl (by decide) (fun i => by simp [Array.getD]; try (split <;> rfl))
                  · intro vs u hR hall
                    have e39 : vs 39 = .bool false := hall 39 (by simp)
                    simp only [putsL]
                    rw [e39]
                    clear hall e39
                    have hgood : rowB X k = true := by rw [HA.out.2.2.2]; rw [← HJ1.out]; simp [k0]; omega
                    have HF : Hid (allN (rowB X) (k + 1) = true ∧ Below W.heap.size W u) := ⟨allN_succ HA.out.1 hgood, bel_nx HA.out.2.2.1 hR⟩
                    clear HK HA hR hgood
                    go_simp
                    go_wp2
                    go_roundw
                    case rel => exact ⟨k + 1, by omega, by go_num, HF.out.1, HF.out.2⟩
                    case measure => simp [intOf]; omega
                  · intro u i o ρ hR ho hρ hc hf hd
                    have hi : i < 40 := by
                      have := (Array.getElem?_eq_some_iff.1 ho).1
                      simpa using this
                    obtain rfl | rfl | rfl | rfl | rfl | rfl | rfl | rfl | rfl | rfl | rfl | rfl | rfl | rfl | rfl | rfl | rfl | rfl | rfl | rfl | rfl | rfl | rfl | rfl | rfl | rfl | rfl | rfl | rfl | rfl | rfl | rfl | rfl | rfl | rfl | rfl | rfl | rfl | rfl | rfl : i = 0 ∨ i = 1 ∨ i = 2 ∨ i = 3 ∨ i = 4 ∨ i = 5 ∨ i = 6 ∨ i = 7 ∨ i = 8 ∨ i = 9 ∨ i = 10 ∨ i = 11 ∨ i = 12 ∨ i = 13 ∨ i = 14 ∨ i = 15 ∨ i = 16 ∨ i = 17 ∨ i = 18 ∨ i = 19 ∨ i = 20 ∨ i = 21 ∨ i = 22 ∨ i = 23 ∨ i = 24 ∨ i = 25 ∨ i = 26 ∨ i = 27 ∨ i = 28 ∨ i = 29 ∨ i = 30 ∨ i = 31 ∨ i = 32 ∨ i = 33 ∨ i = 34 ∨ i = 35 ∨ i = 36 ∨ i = 37 ∨ i = 38 ∨ i = 39 := by omega
                    all_goals (simp only [List.getElem?_toArray, List.getElem?_cons_zero, List.getElem?_cons_succ, Option.some.injEq] at ho; subst ho)
                    · -- 0
                      have s1 : ρ (.tmp 1) = .pointer (some ⟨G, 0, none⟩) := (hρ 1 (by kernel_rfl)).trans rfl
                      exact .inl ⟨rfl, .inl ⟨.pointer (some ⟨G, 1, none⟩), u, run_field_op rfl s1 (by go_simp), rfl, hR, Below.refl _ _⟩⟩
                    · -- 1
                      have h0 : ρ (.tmp 21) = .pointer (some ⟨G, 1, none⟩) := hd ⟨0, .data⟩ (by simp) rfl 21 rfl
                      have y9 : u.cell? ⟨G, 1, none⟩ = some (.slice (some ⟨b, off, none⟩) X.m c) := (HK.out.1.below hR).rng 1 _ rfl
                      have hr : (Instr.loadAt 27 (.pointer (some ⟨G, 1, none⟩))).run Try.prog u = .ok (.slice (some ⟨b, off, none⟩) X.m c) u := by go_simp
                      exact .inl ⟨rfl, .inl ⟨.slice (some ⟨b, off, none⟩) X.m c, u, run_load_op rfl h0 hr, rfl, hR, Below.refl _ _⟩⟩
                    · -- 2
                      have s3 : ρ (.tmp 3) = .int .i64 (k : Int) := (hρ 3 (by kernel_rfl)).trans rfl
                      exact .inl ⟨rfl, .inl ⟨_, u, rfl, s3, hR, Below.refl _ _⟩⟩
                    · -- 3
                      have h1 : ρ (.tmp 22) = .slice (some ⟨b, off, none⟩) X.m c := hd ⟨1, .data⟩ (by simp) rfl 22 rfl
                      have h2 : ρ (.tmp 23) = .int .i64 (k : Int) := hd ⟨2, .data⟩ (by simp) rfl 23 rfl
                      exact .inl ⟨rfl, .inl ⟨.pointer (some ⟨b, off + k * 13, none⟩), u, run_index_op rfl h1 h2 (by go_simp), rfl, hR, Below.refl _ _⟩⟩
                    · -- 4
                      have h3 : ρ (.tmp 24) = .pointer (some ⟨b, off + k * 13, none⟩) := hd ⟨3, .data⟩ (by simp) rfl 24 rfl
                      have hr : (Instr.loadAt 44 (.pointer (some ⟨b, off + k * 13, none⟩))).run Try.prog u = .ok (.agg (dL (X.f k) a1 (X.f k).q.ws.length c1 a2 (X.f k).q.bs.length c2 a3 (X.f k).np c3 a4 (X.f k).hs.length c4 a5 (X.f k).nt c5).toArray) u := run_loadAt_mid u b (off + k * 13) 44 (dL (X.f k) a1 (X.f k).q.ws.length c1 a2 (X.f k).q.bs.length c2 a3 (X.f k).np c3 a4 (X.f k).hs.length c4 a5 (X.f k).nt c5) _ (rangeAt_below HK.out.2.2.1 HK.out.2.1 hR) Try.underlying44 rfl (by kernel_rfl)
                      exact .inl ⟨rfl, .inl ⟨.agg (dL (X.f k) a1 (X.f k).q.ws.length c1 a2 (X.f k).q.bs.length c2 a3 (X.f k).np c3 a4 (X.f k).hs.length c4 a5 (X.f k).nt c5).toArray, u, run_load_op rfl h3 hr, rfl, hR, Below.refl _ _⟩⟩
                    · -- 5
                      have h4 : ρ (.tmp 25) = .agg (dL (X.f k) a1 (X.f k).q.ws.length c1 a2 (X.f k).q.bs.length c2 a3 (X.f k).np c3 a4 (X.f k).hs.length c4 a5 (X.f k).nt c5).toArray := hd ⟨4, .data⟩ (by simp) rfl 25 rfl
                      refine .inl ⟨rfl, .inr ⟨_, _, run_call_op rfl (hf _) (args := #[.agg (dL (X.f k) a1 (X.f k).q.ws.length c1 a2 (X.f k).q.bs.length c2 a3 (X.f k).np c3 a4 (X.f k).hs.length c4 a5 (X.f k).nt c5).toArray]) (by simp [h4]) (by kernel_rfl), ?_⟩⟩
                      refine (specPend_any (X.f k) a1 c1 a2 c2 a3 c3 a4 c4 a5 c5 _ (HK.out.2.2.2.1.below hR) (HK.out.2.2.2.2.1.below hR) (HK.out.2.2.2.2.2.1.below hR) (HK.out.2.2.2.2.2.2.1.below hR) (HK.out.2.2.2.2.2.2.2.1.below hR) HK.out.2.2.2.2.2.2.2.2).mono ?_
                      rintro e u' ⟨he, b'⟩
                      exact ⟨_, he.trans (by rw [HX.out.1]), rfl, bel_nx hR b', b'⟩
                    · -- 6
                      have h5 : ρ (.tmp 26) = .bool true := hd ⟨5, .data⟩ (by simp) rfl 26 rfl
                      exact .inl ⟨rfl, .inl ⟨.bool false, u, run_un_op rfl h5 (by go_simp), rfl, hR, Below.refl _ _⟩⟩
                    · -- 7
                      have h6 : ρ (.tmp 27) = .bool false := hd ⟨6, .data⟩ (by simp) rfl 27 rfl
                      exact .inl ⟨rfl, .inl ⟨_, u, rfl, h6, hR, Below.refl _ _⟩⟩
                    · -- 8
                      have g7 : ρ (.tmp 28) = .bool false := hd ⟨7, .guard⟩ (by simp) rfl 28 rfl
                      have s1 : ρ (.tmp 1) = .pointer (some ⟨G, 0, none⟩) := (hρ 1 (by kernel_rfl)).trans rfl
                      exact .inl ⟨(by show (match ρ (.tmp 28) with | .bool b => b == false | _ => false) = true; rw [g7]; rfl), .inl ⟨.pointer (some ⟨G, 1, none⟩), u, run_field_op rfl s1 (by go_simp), rfl, hR, Below.refl _ _⟩⟩
                    · -- 9
                      have g7 : ρ (.tmp 28) = .bool false := hd ⟨7, .guard⟩ (by simp) rfl 28 rfl
                      have h8 : ρ (.tmp 29) = .pointer (some ⟨G, 1, none⟩) := hd ⟨8, .data⟩ (by simp) rfl 29 rfl
                      have y9 : u.cell? ⟨G, 1, none⟩ = some (.slice (some ⟨b, off, none⟩) X.m c) := (HK.out.1.below hR).rng 1 _ rfl
                      have hr : (Instr.loadAt 27 (.pointer (some ⟨G, 1, none⟩))).run Try.prog u = .ok (.slice (some ⟨b, off, none⟩) X.m c) u := by go_simp
                      exact .inl ⟨(by show (match ρ (.tmp 28) with | .bool b => b == false | _ => false) = true; rw [g7]; rfl), .inl ⟨.slice (some ⟨b, off, none⟩) X.m c, u, run_load_op rfl h8 hr, rfl, hR, Below.refl _ _⟩⟩
                    · -- 10
                      have g7 : ρ (.tmp 28) = .bool false := hd ⟨7, .guard⟩ (by simp) rfl 28 rfl
                      have s3 : ρ (.tmp 3) = .int .i64 (k : Int) := (hρ 3 (by kernel_rfl)).trans rfl
                      exact .inl ⟨(by show (match ρ (.tmp 28) with | .bool b => b == false | _ => false) = true; rw [g7]; rfl), .inl ⟨_, u, rfl, s3, hR, Below.refl _ _⟩⟩
                    · -- 11
                      have g7 : ρ (.tmp 28) = .bool false := hd ⟨7, .guard⟩ (by simp) rfl 28 rfl
                      have h9 : ρ (.tmp 30) = .slice (some ⟨b, off, none⟩) X.m c := hd ⟨9, .data⟩ (by simp) rfl 30 rfl
                      have h10 : ρ (.tmp 31) = .int .i64 (k : Int) := hd ⟨10, .data⟩ (by simp) rfl 31 rfl
                      exact .inl ⟨(by show (match ρ (.tmp 28) with | .bool b => b == false | _ => false) = true; rw [g7]; rfl), .inl ⟨.pointer (some ⟨b, off + k * 13, none⟩), u, run_index_op rfl h9 h10 (by go_simp), rfl, hR, Below.refl _ _⟩⟩
                    · -- 12
                      have g7 : ρ (.tmp 28) = .bool false := hd ⟨7, .guard⟩ (by simp) rfl 28 rfl
                      have h11 : ρ (.tmp 32) = .pointer (some ⟨b, off + k * 13, none⟩) := hd ⟨11, .data⟩ (by simp) rfl 32 rfl
                      exact .inl ⟨(by show (match ρ (.tmp 28) with | .bool b => b == false | _ => false) = true; rw [g7]; rfl), .inl ⟨.pointer (some ⟨b, off + k * 13, none⟩), u, run_field_op rfl h11 (by go_simp), rfl, hR, Below.refl _ _⟩⟩
                    · -- 13
                      have g7 : ρ (.tmp 28) = .bool false := hd ⟨7, .guard⟩ (by simp) rfl 28 rfl
                      have h12 : ρ (.tmp 33) = .pointer (some ⟨b, off + k * 13, none⟩) := hd ⟨12, .data⟩ (by simp) rfl 33 rfl
                      have y9 : u.cell? ⟨b, off + k * 13, none⟩ = some (.int .i64 (X.f k).id) := (rangeAt_below HK.out.2.2.1 HK.out.2.1 hR) 0 _ rfl
                      have hr : (Instr.loadAt 3 (.pointer (some ⟨b, off + k * 13, none⟩))).run Try.prog u = .ok (.int .i64 (X.f k).id) u := by go_simp
                      exact .inl ⟨(by show (match ρ (.tmp 28) with | .bool b => b == false | _ => false) = true; rw [g7]; rfl), .inl ⟨.int .i64 (X.f k).id, u, run_load_op rfl h12 hr, rfl, hR, Below.refl _ _⟩⟩
                    · -- 14
                      have g7 : ρ (.tmp 28) = .bool false := hd ⟨7, .guard⟩ (by simp) rfl 28 rfl
                      have s1 : ρ (.tmp 1) = .pointer (some ⟨G, 0, none⟩) := (hρ 1 (by kernel_rfl)).trans rfl
                      exact .inl ⟨(by show (match ρ (.tmp 28) with | .bool b => b == false | _ => false) = true; rw [g7]; rfl), .inl ⟨.pointer (some ⟨G, 0, none⟩), u, run_field_op rfl s1 (by go_simp), rfl, hR, Below.refl _ _⟩⟩
                    · -- 15
                      have g7 : ρ (.tmp 28) = .bool false := hd ⟨7, .guard⟩ (by simp) rfl 28 rfl
                      have h14 : ρ (.tmp 35) = .pointer (some ⟨G, 0, none⟩) := hd ⟨14, .data⟩ (by simp) rfl 35 rfl
                      have y9 : u.cell? ⟨G, 0, none⟩ = some (.int .i64 X.nx) := (HK.out.1.below hR).rng 0 _ rfl
                      have hr : (Instr.loadAt 3 (.pointer (some ⟨G, 0, none⟩))).run Try.prog u = .ok (.int .i64 X.nx) u := by go_simp
                      exact .inl ⟨(by show (match ρ (.tmp 28) with | .bool b => b == false | _ => false) = true; rw [g7]; rfl), .inl ⟨.int .i64 X.nx, u, run_load_op rfl h14 hr, rfl, hR, Below.refl _ _⟩⟩
                    · -- 16
                      have g7 : ρ (.tmp 28) = .bool false := hd ⟨7, .guard⟩ (by simp) rfl 28 rfl
                      have h15 : ρ (.tmp 36) = .int .i64 X.nx := hd ⟨15, .data⟩ (by simp) rfl 36 rfl
                      exact .inl ⟨(by show (match ρ (.tmp 28) with | .bool b => b == false | _ => false) = true; rw [g7]; rfl), .inl ⟨.int .i64 (X.nx - 1), u, run_bin_op rfl h15 (hc _) (by go_simp), rfl, hR, Below.refl _ _⟩⟩
                    · -- 17
                      have g7 : ρ (.tmp 28) = .bool false := hd ⟨7, .guard⟩ (by simp) rfl 28 rfl
                      have h13 : ρ (.tmp 34) = .int .i64 (X.f k).id := hd ⟨13, .data⟩ (by simp) rfl 34 rfl
                      have h16 : ρ (.tmp 37) = .int .i64 (X.nx - 1) := hd ⟨16, .data⟩ (by simp) rfl 37 rfl
                      refine .inl ⟨(by show (match ρ (.tmp 28) with | .bool b => b == false | _ => false) = true; rw [g7]; rfl), .inr ⟨_, _, run_call_op rfl (hf _) (args := #[.int .i64 (X.f k).id, .int .i64 0, .int .i64 (X.nx - 1)]) (by simp [h13, hc, h16]) (by kernel_rfl), ?_⟩⟩
                      refine (l1In_any _ _ _ _ _ HX.out.2).mono ?_
                      rintro e u' ⟨he, rfl⟩
                      exact ⟨_, he, rfl, hR, Below.refl _ _⟩
                    · -- 18
                      have g7 : ρ (.tmp 28) = .bool false := hd ⟨7, .guard⟩ (by simp) rfl 28 rfl
                      have h17 : ρ (.tmp 38) = .bool true := hd ⟨17, .data⟩ (by simp) rfl 38 rfl
                      exact .inl ⟨(by show (match ρ (.tmp 28) with | .bool b => b == false | _ => false) = true; rw [g7]; rfl), .inl ⟨.bool false, u, run_un_op rfl h17 (by go_simp), rfl, hR, Below.refl _ _⟩⟩
                    · -- 19
                      have h7 : ρ (.tmp 28) = .bool false := hd ⟨7, .data⟩ (by simp) rfl 28 rfl
                      have h18 : ρ (.tmp 39) = .bool false := hd ⟨18, .data⟩ (by simp) rfl 39 rfl
                      exact .inl ⟨rfl, .inl ⟨_, u, run_pick_op rfl h7, (by simpa using h18), hR, Below.refl _ _⟩⟩
                    · -- 20
                      have h19 : ρ (.tmp 40) = .bool false := hd ⟨19, .data⟩ (by simp) rfl 40 rfl
                      exact .inl ⟨rfl, .inl ⟨_, u, rfl, h19, hR, Below.refl _ _⟩⟩
                    · -- 21
                      have g20 : ρ (.tmp 41) = .bool false := hd ⟨20, .guard⟩ (by simp) rfl 41 rfl
                      have s3 : ρ (.tmp 3) = .int .i64 (k : Int) := (hρ 3 (by kernel_rfl)).trans rfl
                      exact .inl ⟨(by show (match ρ (.tmp 41) with | .bool b => b == false | _ => false) = true; rw [g20]; rfl), .inl ⟨_, u, rfl, s3, hR, Below.refl _ _⟩⟩
                    · -- 22
                      have g20 : ρ (.tmp 41) = .bool false := hd ⟨20, .guard⟩ (by simp) rfl 41 rfl
                      have h21 : ρ (.tmp 42) = .int .i64 (k : Int) := hd ⟨21, .data⟩ (by simp) rfl 42 rfl
                      exact .inl ⟨(by show (match ρ (.tmp 41) with | .bool b => b == false | _ => false) = true; rw [g20]; rfl), .inl ⟨.bool true, u, run_bin_op rfl h21 (hc _) (by go_simp), rfl, hR, Below.refl _ _⟩⟩
                    · -- 23
                      have g20 : ρ (.tmp 41) = .bool false := hd ⟨20, .guard⟩ (by simp) rfl 41 rfl
                      have h22 : ρ (.tmp 43) = .bool true := hd ⟨22, .data⟩ (by simp) rfl 43 rfl
                      exact .inl ⟨(by show (match ρ (.tmp 41) with | .bool b => b == false | _ => false) = true; rw [g20]; rfl), .inl ⟨_, u, rfl, h22, hR, Below.refl _ _⟩⟩
                    · -- 24
                      have g23 : ρ (.tmp 44) = .bool true := hd ⟨23, .guard⟩ (by simp) rfl 44 rfl
                      have s1 : ρ (.tmp 1) = .pointer (some ⟨G, 0, none⟩) := (hρ 1 (by kernel_rfl)).trans rfl
                      exact .inl ⟨(by show (match ρ (.tmp 44) with | .bool b => b == true | _ => false) = true; rw [g23]; rfl), .inl ⟨.pointer (some ⟨G, 1, none⟩), u, run_field_op rfl s1 (by go_simp), rfl, hR, Below.refl _ _⟩⟩
                    · -- 25
                      have g23 : ρ (.tmp 44) = .bool true := hd ⟨23, .guard⟩ (by simp) rfl 44 rfl
                      have h24 : ρ (.tmp 45) = .pointer (some ⟨G, 1, none⟩) := hd ⟨24, .data⟩ (by simp) rfl 45 rfl
                      have y9 : u.cell? ⟨G, 1, none⟩ = some (.slice (some ⟨b, off, none⟩) X.m c) := (HK.out.1.below hR).rng 1 _ rfl
                      have hr : (Instr.loadAt 27 (.pointer (some ⟨G, 1, none⟩))).run Try.prog u = .ok (.slice (some ⟨b, off, none⟩) X.m c) u := by go_simp
                      exact .inl ⟨(by show (match ρ (.tmp 44) with | .bool b => b == true | _ => false) = true; rw [g23]; rfl), .inl ⟨.slice (some ⟨b, off, none⟩) X.m c, u, run_load_op rfl h24 hr, rfl, hR, Below.refl _ _⟩⟩
                    · -- 26
                      have g23 : ρ (.tmp 44) = .bool true := hd ⟨23, .guard⟩ (by simp) rfl 44 rfl
                      have s3 : ρ (.tmp 3) = .int .i64 (k : Int) := (hρ 3 (by kernel_rfl)).trans rfl
                      exact .inl ⟨(by show (match ρ (.tmp 44) with | .bool b => b == true | _ => false) = true; rw [g23]; rfl), .inl ⟨_, u, rfl, s3, hR, Below.refl _ _⟩⟩
                    · -- 27
                      have g23 : ρ (.tmp 44) = .bool true := hd ⟨23, .guard⟩ (by simp) rfl 44 rfl
                      have h26 : ρ (.tmp 47) = .int .i64 (k : Int) := hd ⟨26, .data⟩ (by simp) rfl 47 rfl
                      exact .inl ⟨(by show (match ρ (.tmp 44) with | .bool b => b == true | _ => false) = true; rw [g23]; rfl), .inl ⟨.int .i64 (j : Int), u, run_bin_op rfl h26 (hc _) (by go_simp), rfl, hR, Below.refl _ _⟩⟩
                    · -- 28
                      have g23 : ρ (.tmp 44) = .bool true := hd ⟨23, .guard⟩ (by simp) rfl 44 rfl
                      have h25 : ρ (.tmp 46) = .slice (some ⟨b, off, none⟩) X.m c := hd ⟨25, .data⟩ (by simp) rfl 46 rfl
                      have h27 : ρ (.tmp 48) = .int .i64 (j : Int) := hd ⟨27, .data⟩ (by simp) rfl 48 rfl
                      exact .inl ⟨(by show (match ρ (.tmp 44) with | .bool b => b == true | _ => false) = true; rw [g23]; rfl), .inl ⟨.pointer (some ⟨b, off + j * 13, none⟩), u, run_index_op rfl h25 h27 (by go_simp), rfl, hR, Below.refl _ _⟩⟩
                    · -- 29
                      have g23 : ρ (.tmp 44) = .bool true := hd ⟨23, .guard⟩ (by simp) rfl 44 rfl
                      have h28 : ρ (.tmp 49) = .pointer (some ⟨b, off + j * 13, none⟩) := hd ⟨28, .data⟩ (by simp) rfl 49 rfl
                      exact .inl ⟨(by show (match ρ (.tmp 44) with | .bool b => b == true | _ => false) = true; rw [g23]; rfl), .inl ⟨.pointer (some ⟨b, off + j * 13, none⟩), u, run_field_op rfl h28 (by go_simp), rfl, hR, Below.refl _ _⟩⟩
                    · -- 30
                      have g23 : ρ (.tmp 44) = .bool true := hd ⟨23, .guard⟩ (by simp) rfl 44 rfl
                      have h29 : ρ (.tmp 50) = .pointer (some ⟨b, off + j * 13, none⟩) := hd ⟨29, .data⟩ (by simp) rfl 50 rfl
                      have y9 : u.cell? ⟨b, off + j * 13, none⟩ = some (.int .i64 (X.f j).id) := (rangeAt_below HJ.out HK.out.2.1 hR) 0 _ rfl
                      have hr : (Instr.loadAt 3 (.pointer (some ⟨b, off + j * 13, none⟩))).run Try.prog u = .ok (.int .i64 (X.f j).id) u := by go_simp
                      exact .inl ⟨(by show (match ρ (.tmp 44) with | .bool b => b == true | _ => false) = true; rw [g23]; rfl), .inl ⟨.int .i64 (X.f j).id, u, run_load_op rfl h29 hr, rfl, hR, Below.refl _ _⟩⟩
                    · -- 31
                      have g23 : ρ (.tmp 44) = .bool true := hd ⟨23, .guard⟩ (by simp) rfl 44 rfl
                      have s1 : ρ (.tmp 1) = .pointer (some ⟨G, 0, none⟩) := (hρ 1 (by kernel_rfl)).trans rfl
                      exact .inl ⟨(by show (match ρ (.tmp 44) with | .bool b => b == true | _ => false) = true; rw [g23]; rfl), .inl ⟨.pointer (some ⟨G, 1, none⟩), u, run_field_op rfl s1 (by go_simp), rfl, hR, Below.refl _ _⟩⟩
                    · -- 32
                      have g23 : ρ (.tmp 44) = .bool true := hd ⟨23, .guard⟩ (by simp) rfl 44 rfl
                      have h31 : ρ (.tmp 52) = .pointer (some ⟨G, 1, none⟩) := hd ⟨31, .data⟩ (by simp) rfl 52 rfl
                      have y9 : u.cell? ⟨G, 1, none⟩ = some (.slice (some ⟨b, off, none⟩) X.m c) := (HK.out.1.below hR).rng 1 _ rfl
                      have hr : (Instr.loadAt 27 (.pointer (some ⟨G, 1, none⟩))).run Try.prog u = .ok (.slice (some ⟨b, off, none⟩) X.m c) u := by go_simp
                      exact .inl ⟨(by show (match ρ (.tmp 44) with | .bool b => b == true | _ => false) = true; rw [g23]; rfl), .inl ⟨.slice (some ⟨b, off, none⟩) X.m c, u, run_load_op rfl h31 hr, rfl, hR, Below.refl _ _⟩⟩
                    · -- 33
                      have g23 : ρ (.tmp 44) = .bool true := hd ⟨23, .guard⟩ (by simp) rfl 44 rfl
                      have s3 : ρ (.tmp 3) = .int .i64 (k : Int) := (hρ 3 (by kernel_rfl)).trans rfl
                      exact .inl ⟨(by show (match ρ (.tmp 44) with | .bool b => b == true | _ => false) = true; rw [g23]; rfl), .inl ⟨_, u, rfl, s3, hR, Below.refl _ _⟩⟩
                    · -- 34
                      have g23 : ρ (.tmp 44) = .bool true := hd ⟨23, .guard⟩ (by simp) rfl 44 rfl
                      have h32 : ρ (.tmp 53) = .slice (some ⟨b, off, none⟩) X.m c := hd ⟨32, .data⟩ (by simp) rfl 53 rfl
                      have h33 : ρ (.tmp 54) = .int .i64 (k : Int) := hd ⟨33, .data⟩ (by simp) rfl 54 rfl
                      exact .inl ⟨(by show (match ρ (.tmp 44) with | .bool b => b == true | _ => false) = true; rw [g23]; rfl), .inl ⟨.pointer (some ⟨b, off + k * 13, none⟩), u, run_index_op rfl h32 h33 (by go_simp), rfl, hR, Below.refl _ _⟩⟩
                    · -- 35
                      have g23 : ρ (.tmp 44) = .bool true := hd ⟨23, .guard⟩ (by simp) rfl 44 rfl
                      have h34 : ρ (.tmp 55) = .pointer (some ⟨b, off + k * 13, none⟩) := hd ⟨34, .data⟩ (by simp) rfl 55 rfl
                      exact .inl ⟨(by show (match ρ (.tmp 44) with | .bool b => b == true | _ => false) = true; rw [g23]; rfl), .inl ⟨.pointer (some ⟨b, off + k * 13, none⟩), u, run_field_op rfl h34 (by go_simp), rfl, hR, Below.refl _ _⟩⟩
                    · -- 36
                      have g23 : ρ (.tmp 44) = .bool true := hd ⟨23, .guard⟩ (by simp) rfl 44 rfl
                      have h35 : ρ (.tmp 56) = .pointer (some ⟨b, off + k * 13, none⟩) := hd ⟨35, .data⟩ (by simp) rfl 56 rfl
                      have y9 : u.cell? ⟨b, off + k * 13, none⟩ = some (.int .i64 (X.f k).id) := (rangeAt_below HK.out.2.2.1 HK.out.2.1 hR) 0 _ rfl
                      have hr : (Instr.loadAt 3 (.pointer (some ⟨b, off + k * 13, none⟩))).run Try.prog u = .ok (.int .i64 (X.f k).id) u := by go_simp
                      exact .inl ⟨(by show (match ρ (.tmp 44) with | .bool b => b == true | _ => false) = true; rw [g23]; rfl), .inl ⟨.int .i64 (X.f k).id, u, run_load_op rfl h35 hr, rfl, hR, Below.refl _ _⟩⟩
                    · -- 37
                      have g23 : ρ (.tmp 44) = .bool true := hd ⟨23, .guard⟩ (by simp) rfl 44 rfl
                      have h30 : ρ (.tmp 51) = .int .i64 (X.f j).id := hd ⟨30, .data⟩ (by simp) rfl 51 rfl
                      have h36 : ρ (.tmp 57) = .int .i64 (X.f k).id := hd ⟨36, .data⟩ (by simp) rfl 57 rfl
                      exact .inl ⟨(by show (match ρ (.tmp 44) with | .bool b => b == true | _ => false) = true; rw [g23]; rfl), .inl ⟨.bool false, u, run_bin_op rfl h30 h36 (by go_simp), rfl, hR, Below.refl _ _⟩⟩
                    · -- 38
                      have g20 : ρ (.tmp 41) = .bool false := hd ⟨20, .guard⟩ (by simp) rfl 41 rfl
                      have h23 : ρ (.tmp 44) = .bool true := hd ⟨23, .data⟩ (by simp) rfl 44 rfl
                      have h37 : ρ (.tmp 58) = .bool false := hd ⟨37, .data⟩ (by simp) rfl 58 rfl
                      exact .inl ⟨(by show (match ρ (.tmp 41) with | .bool b => b == false | _ => false) = true; rw [g20]; rfl), .inl ⟨_, u, run_pick_op rfl h23, (by simpa using h37), hR, Below.refl _ _⟩⟩
                    · -- 39
                      have h20 : ρ (.tmp 41) = .bool false := hd ⟨20, .data⟩ (by simp) rfl 41 rfl
                      have h38 : ρ (.tmp 59) = .bool false := hd ⟨38, .data⟩ (by simp) rfl 59 rfl
                      exact .inl ⟨rfl, .inl ⟨_, u, run_pick_op rfl h20, (by simpa using h38), hR, Below.refl _ _⟩⟩
        · have hi : ¬ (k : Int) < (X.m : Int) := by omega
          have e9 : k = X.m := by omega
          have HF : Hid (allN (rowB X) X.m = true ∧ Below w.heap.size w wr) := ⟨by rw [← e9]; exact hall, bel_nx HE.out.2.2.2.1 hbl⟩
          clear hall hbl e9
          go_wp2
          go_ret
          exact ⟨by rw [HF.out.1]; rfl, HF.out.2⟩
set_option maxRecDepth 20000 in
set_option maxHeartbeats 8000000 in
theorem specWaiting_any (X : VT) (a : Option Addr) (c : Nat) (w : World) (h : TbR w X a c) :
    Calls Try.prog 10 #[.agg (tL X a X.m c).toArray] w fun e w' => e = .returned (.int .i64 (if okTb X then (wtT X X.m : Int) else 0)) ∧ Below w.heap.size w w' := by
  obtain ⟨x0, hx0⟩ : ∃ x, okTb X = x := ⟨_, rfl⟩
  obtain ⟨G, hG⟩ : ∃ G, G = w.heap.size := ⟨_, rfl⟩
  obtain ⟨W, hW⟩ : ∃ W, W = w.alloc (.cells (tL X a X.m c).toArray 29) := ⟨_, rfl⟩
  have HE : Hid (okTb X = x0 ∧ Below w.heap.size w W ∧ Blk W G 29 (tL X a X.m c).toArray ∧ TbR W X a c) := ⟨hx0, by rw [hW]; exact bel_alloc _ _, by rw [hW, hG]; exact Blk.new _ _ _, h.below (by rw [hW]; exact bel_alloc _ _)⟩
  rw [HE.out.1]
  have hm2 := h.2.1
  clear hx0 h
  cases x0 with
  | false =>
    go_enter Try.func10, Try.ntmps10
    go_upto_region 1 with fail
    rw [← hW, ← hG]
    clear hW hG
    go_wp2
    go_loopw [3, 4] (fun s i wr => s = .int .i64 0 ∧ i = .int .i64 0 ∧ Below W.heap.size W wr) (fun _ _ _ => 0)
    case atStart => exact ⟨rfl, rfl, Below.refl _ _⟩
    case round =>
      obtain ⟨rfl, rfl, hbl⟩ := hrel
      obtain ⟨⟨y0, y1⟩, yf⟩ := (HE.out.2.2.1.below hbl).tc2
      clear yf
      have HB : Hid (Below W.heap.size W wr) := hbl
      clear hbl
      by_cases h0 : X.m = 0
      · have h1 : ¬ (0 : Int) < (X.m : Int) := by omega
        have B9 := bel_nx HE.out.2.1 HB.out
        go_wp2
        go_ret
        exact ⟨rfl, B9⟩
      · have h1 : (0 : Int) < (X.m : Int) := by omega
        go_wp2_with fail
        refine (specTableOk_any X a c _ (HE.out.2.2.2.below HB.out)).mono ?_
        rintro e w1 ⟨rfl, b1⟩
        rw [HE.out.1]
        have B9 := bel_nx (bel_nx HE.out.2.1 HB.out) b1
        clear b1 y0 y1
        go_wp2
        go_ret
        exact ⟨rfl, B9⟩
  | true =>
    have h16 : X.m ≤ 16 := by
      have := HE.out.1
      unfold okTb at this
      simp only [Bool.and_eq_true, decide_eq_true_eq] at this
      exact this.2.1
    go_enter Try.func10, Try.ntmps10
    go_upto_region 1 with fail
    rw [← hW, ← hG]
    clear hW hG
    go_wp2
    go_loopw [3, 4] (fun s i wr => ∃ k : Nat, k ≤ X.m ∧ i = .int .i64 k ∧ s = .int .i64 (wtT X k : Int) ∧ wtT X k ≤ k * 2000000 ∧ Below W.heap.size W wr) (fun _ i _ => X.m - (intOf i).toNat)
    case atStart => exact ⟨0, Nat.zero_le _, rfl, rfl, Nat.le_refl _, Below.refl _ _⟩
    case round =>
      obtain ⟨k, hk, rfl, rfl, hle, hbl⟩ := hrel
      obtain ⟨s, hs⟩ : ∃ s, s = wtT X k := ⟨_, rfl⟩
      rw [← hs] at hle ⊢
      have HS : Hid (s = wtT X k ∧ Below W.heap.size W wr) := ⟨hs, hbl⟩
      clear hs
      have hs16 : s ≤ 16 * 2000000 := Nat.le_trans hle (Nat.mul_le_mul_right _ (Nat.le_trans hk h16))
      obtain ⟨⟨y0, y1⟩, yf⟩ := (HE.out.2.2.1.below hbl).tc2
      clear yf hbl
      by_cases hlt : k < X.m
      · have hi : (k : Int) < (X.m : Int) := by omega
        go_wp2_with fail
        refine (specTableOk_any X a c _ (HE.out.2.2.2.below HS.out.2)).mono ?_
        rintro e w1 ⟨rfl, b1⟩
        rw [HE.out.1]
        have HB : Hid (Below W.heap.size W w1) := bel_nx HS.out.2 b1
        clear b1 y0 y1
        obtain ⟨⟨y0, y1⟩, yf⟩ := (HE.out.2.2.1.below HB.out).tc2
        clear yf
        obtain ⟨b, off, rfl, hp, hbd⟩ := (HE.out.2.2.2.below HB.out).at hlt
        obtain ⟨hb0, a1, c1, a2, c2, a3, c3, a4, c4, a5, c5, hr, r1, r2, r3, r4, r5⟩ := hp.cells
        have d11 : w1.cell? ⟨b, off + k * 13 + 11, none⟩ = _ := hr 11 _ rfl
        obtain ⟨N, hN⟩ : ∃ N, N = (X.f k).hs.length := ⟨_, rfl⟩
        rw [← hN] at d11 r4
        have hN2 : N ≤ 2000000 := by rw [hN]; exact hbd.2.2.1
        have HP : Hid (Rd w1 0 (boolsT (X.f k).hs) (.slice a4 N c4) ∧ N = (X.f k).hs.length) := ⟨r4, hN⟩
        clear hb0 hr r1 r2 r3 r4 r5 hp hbd hN
        go_wp2
        go_loopw [3, 5] (fun s' i wr => ∃ q : Nat, q ≤ N ∧ i = .int .i64 q ∧ s' = .int .i64 ((s : Int) + (cntF (X.f k).hs q : Int)) ∧ wr = w1) (fun _ i _ => N - (intOf i).toNat)
        case atStart => exact ⟨0, Nat.zero_le _, rfl, by simp [cntF], rfl⟩
        case round =>
          obtain ⟨q, hq, rfl, rfl, hw⟩ := hrel
          subst hw
          have hcl := cntF_le (X.f k).hs q
          obtain ⟨t, ht⟩ : ∃ t, t = cntF (X.f k).hs q := ⟨_, rfl⟩
          rw [← ht] at hcl ⊢
          have HQ : Hid (t = cntF (X.f k).hs q) := ht
          clear ht
          by_cases hql : q < N
          · have hqi : (q : Int) < (N : Int) := by omega
            obtain ⟨b4, o4, rfl, hb4, d0⟩ := HP.out.1.bit (k := q) (n := N) (by rw [← HP.out.2]; exact hql)
            obtain ⟨x, hx⟩ : ∃ x, (X.f k).hs.getD q false = x := ⟨_, rfl⟩
            rw [hx] at d0
            have HF : Hid (cntF (X.f k).hs (q + 1) = t + (if x then 0 else 1)) := by show cntF (X.f k).hs (q + 1) = _; simp only [cntF]; rw [hx, HQ.out]
            clear hx hb4
            cases x with
            | true =>
              go_wp2
              go_roundw
              case rel => exact ⟨q + 1, by omega, by go_num, by rw [HF.out]; rfl, trivial⟩
              case measure => simp [intOf]; omega
            | false =>
              go_wp2
              go_roundw
              case rel => exact ⟨q + 1, by omega, by go_num, by rw [HF.out]; go_num, trivial⟩
              case measure => simp [intOf]; omega
          · have hqi : ¬ (q : Int) < (N : Int) := by omega
            have e8 : q = N := by omega
            have HF : Hid (wtT X (k + 1) = s + t ∧ s + t ≤ (k + 1) * 2000000) := ⟨by rw [HS.out.1, HQ.out, e8, HP.out.2]; rfl, by rw [Nat.add_mul]; omega⟩
            clear e8
            go_wp2
            go_roundw
            case rel => exact ⟨k + 1, by omega, by go_num, by rw [HF.out.1]; go_num, by rw [HF.out.1]; exact HF.out.2, HB.out⟩
            case measure => simp [intOf]; omega
      · have hi : ¬ (k : Int) < (X.m : Int) := by omega
        have e9 : k = X.m := by omega
        have HF : Hid (s = wtT X X.m ∧ Below w.heap.size w wr) := ⟨by rw [← e9]; exact HS.out.1, bel_nx HE.out.2.1 HS.out.2⟩
        clear e9
        go_wp2
        go_ret
        exact ⟨by rw [← HF.out.1]; rfl, HF.out.2⟩
end Go.Proofs.Ytfagbjffhjnmaaa
