/- Texts that the proof needs, joined: Tb3. -/
import Derived.Test.YtfagbjffhjnmaaaY10
namespace Go.Proofs.Ytfagbjffhjnmaaa
open Go.RowKit Go.Joins
set_option linter.unusedVariables false
set_option linter.unusedSimpArgs false
def lsT (X : VT) (k : Nat) : Int := if k = 0 then 0 else (X.f (k - 1)).id + 1
theorem row_at {X : VT} {k : Nat} (h : rowB X k = true) : okPd (X.f k) = true ∧ 0 ≤ (X.f k).id ∧ (X.f k).id < X.nx ∧ (k = 0 ∨ (X.f (k - 1)).id < (X.f k).id) := by
  unfold rowB inB at h
  simp only [Bool.and_eq_true, decide_eq_true_eq, Bool.or_eq_true] at h
  exact ⟨h.1, h.2.1.1, by omega, h.2.2⟩
theorem row_tests {X : VT} {k : Nat} (h : allN (rowB X) k = true) : rowB X k = (!decide ((X.f k).id < lsT X k) && (!decide (X.nx ≤ (X.f k).id) && okPd (X.f k))) := by
  have hp : k = 0 ∨ 0 ≤ (X.f (k - 1)).id := by
    by_cases e : k = 0
    · exact .inl e
    · exact .inr (row_at (allN_iff.1 h (k - 1) (by omega))).2.1
  rw [Bool.eq_iff_iff]
  unfold rowB inB lsT
  simp only [Bool.and_eq_true, Bool.or_eq_true, Bool.not_eq_true', decide_eq_true_eq, decide_eq_false_iff_not]
  by_cases e : k = 0
  · subst e
    simp only [if_true]
    constructor
    · rintro ⟨h1, ⟨h2, h3⟩, _⟩
      exact ⟨by omega, by omega, h1⟩
    · rintro ⟨h1, h2, h3⟩
      exact ⟨h3, ⟨by omega, by omega⟩, .inl trivial⟩
  · simp only [if_neg e]
    have hp : 0 ≤ (X.f (k - 1)).id := by rcases hp with h | h; exact absurd h e; exact h
    constructor
    · rintro ⟨h1, ⟨h2, h3⟩, h4⟩
      exact ⟨by omega, by omega, h1⟩
    · rintro ⟨h1, h2, h3⟩
      exact ⟨h3, ⟨by omega, by omega⟩, .inr (by omega)⟩
def TbR (w : World) (X : VT) (a : Option Addr) (c : Nat) : Prop := Rd w 0 (.list 13 X.m (fun i => trs (dT (X.f i)))) (.slice a X.m c) ∧ BdT X
theorem TbR.below {w w' : World} {X : VT} {a : Option Addr} {c : Nat} (h : TbR w X a c) (hb : Below w.heap.size w w') : TbR w' X a c := ⟨h.1.below hb, h.2⟩
theorem TbR.at {w : World} {X : VT} {a : Option Addr} {c k : Nat} (h : TbR w X a c) (hk : k < X.m) : ∃ b off, a = some ⟨b, off, none⟩ ∧ PdAt w b (off + k * 13) (X.f k) ∧ BdD (X.f k) := by
  obtain ⟨b, off, vs, ha, _, hb0, hlen, hr, hrd⟩ := h.1.at hk
  exact ⟨b, off, ha, ⟨hb0, vs, hlen, hr, hrd⟩, h.2.2 k hk⟩
set_option maxRecDepth 20000 in
set_option maxHeartbeats 8000000 in
theorem implTableOk_any (X : VT) (a : Option Addr) (c : Nat) (w : World) (h : TbR w X a c) :
    Calls Try.prog 8 #[.agg (tL X a X.m c).toArray] w fun e w' => e = .returned (.bool (okTb X)) ∧ Below w.heap.size w w' := by
  obtain ⟨x0, hx0⟩ : ∃ x, inB X.nx 0 1000000000 = x := ⟨_, rfl⟩
  obtain ⟨x1, hx1⟩ : ∃ x, decide (X.m ≤ 16) = x := ⟨_, rfl⟩
  obtain ⟨G, hG⟩ : ∃ G, G = w.heap.size := ⟨_, rfl⟩
  obtain ⟨W, hW⟩ : ∃ W, W = w.alloc (.cells (tL X a X.m c).toArray 29) := ⟨_, rfl⟩
  have HE : Hid (okTb X = (x0 && (x1 && allN (rowB X) X.m)) ∧ inB X.nx 0 1000000000 = x0 ∧ decide (X.m ≤ 16) = x1 ∧ Below w.heap.size w W ∧ Blk W G 29 (tL X a X.m c).toArray ∧ TbR W X a c) := ⟨by unfold okTb; rw [hx0, hx1], hx0, hx1, by rw [hW]; exact bel_alloc _ _, by rw [hW, hG]; exact Blk.new _ _ _, h.below (by rw [hW]; exact bel_alloc _ _)⟩
  rw [HE.out.1]
  have hm2 := h.2.1
  clear hx0 hx1 h
  obtain ⟨⟨y0, y1⟩, yf⟩ := HE.out.2.2.2.2.1.tc2
  clear yf
  go_enter Try.func8, Try.ntmps8
  go_upto_region 1 with fail
  rw [← hW, ← hG]
  clear hW hG
  go_wp2_with fail
  refine (isIdT _ _ _ HE.out.2.1).mono ?_
  rintro e w1 ⟨rfl, hw⟩
  have hw := hw.symm
  subst hw
  cases x0 with
  | false =>
    go_wp2
    go_ret
    exact ⟨rfl, HE.out.2.2.2.1⟩
  | true =>
    have hnx : 0 ≤ X.nx ∧ X.nx ≤ 1000000000 := inB_yes HE.out.2.1
    obtain ⟨hnx0, hnx1⟩ := hnx
    cases x1 with
    | false =>
      have h16 : (16 : Int) < (X.m : Int) := by have := of_decide_eq_false HE.out.2.2.1; omega
      go_wp2
      go_ret
      exact ⟨rfl, HE.out.2.2.2.1⟩
    | true =>
      have h16 : ¬ (16 : Int) < (X.m : Int) := by have := of_decide_eq_true HE.out.2.2.1; omega
      go_wp2
      clear y0 y1
      go_loopw [3, 19] (fun l i wr => ∃ k : Nat, k ≤ X.m ∧ i = .int .i64 k ∧ l = .int .i64 (lsT X k) ∧ allN (rowB X) k = true ∧ Below W.heap.size W wr) (fun _ i _ => X.m - (intOf i).toNat)
      case atStart => exact ⟨0, Nat.zero_le _, rfl, rfl, rfl, Below.refl _ _⟩
      case round =>
        obtain ⟨k, hk, rfl, rfl, hall, hbl⟩ := hrel
        by_cases hlt : k < X.m
        · have hi : (k : Int) < (X.m : Int) := by omega
          obtain ⟨b, off, rfl, hp, hbd⟩ := (HE.out.2.2.2.2.2.below hbl).at hlt
          obtain ⟨⟨y0, y1⟩, yf⟩ := (HE.out.2.2.2.2.1.below hbl).tc2
          clear yf
          obtain ⟨hb0, a1, c1, a2, c2, a3, c3, a4, c4, a5, c5, hr, -⟩ := hp.cells
          obtain ⟨ls, hls⟩ : ∃ x, x = lsT X k := ⟨_, rfl⟩
          obtain ⟨x, hx⟩ : ∃ x, okPd (X.f k) = x := ⟨_, rfl⟩
          have hrt := row_tests hall
          rw [← hls, hx] at hrt
          rw [← hls]
          have HA : Hid (allN (rowB X) k = true ∧ Below w.heap.size w wr ∧ Below W.heap.size W wr ∧ ls = lsT X k ∧ rowB X k = (!decide ((X.f k).id < ls) && (!decide (X.nx ≤ (X.f k).id) && x))) := ⟨hall, bel_nx HE.out.2.2.2.1 hbl, hbl, hls, hrt⟩
          have HK : Hid (Blk wr G 29 (tL X (some ⟨b, off, none⟩) X.m c).toArray ∧ b < wr.heap.size ∧ wr.rangeAt b (off + k * 13) (dL (X.f k) a1 (X.f k).q.ws.length c1 a2 (X.f k).q.bs.length c2 a3 (X.f k).np c3 a4 (X.f k).hs.length c4 a5 (X.f k).nt c5) ∧ PdAt wr b (off + k * 13) (X.f k) ∧ BdD (X.f k) ∧ okPd (X.f k) = x) := ⟨HE.out.2.2.2.2.1.below hbl, hb0, hr, hp, hbd, hx⟩
          clear hall hbl hls hrt hb0 hr hp hbd hx
          go_upto_region 8 with fail
          clear y0 y1
          by_cases t0 : (X.f k).id < ls
          · refine wp_region_any (by kernel_rfl) ?_
            refine wpAny_vals (fun u => Below wr.heap.size wr u) (fun i v u => match i with
              | 0 => v = .pointer (some ⟨b, off + k * 13, none⟩)
              | 1 => v = .pointer (some ⟨b, off + k * 13, none⟩)
              | 2 => v = .pointer (some ⟨b, off + k * 13, none⟩)
              | 3 => v = .int .i64 (X.f k).id
              | 4 => v = .int .i64 ls
              | 5 => v = .bool true
              | 6 => v = .bool true
              | 7 => v = undef
              | 8 => v = undef
              | 9 => v = undef
              | 10 => v = undef
              | 11 => v = undef
              | 12 => v = undef
              | 13 => v = undef
              | 14 => v = .bool true
              | 15 => v = .bool true
              | 16 => v = undef
              | 17 => v = undef
              | 18 => v = undef
              | 19 => v = .bool true
              | _ => True) (by kernel_rfl) (by kernel_rfl) (fun _ _ _ _ h _ => h) (by first | exact Below.refl _ _ | exact (Below.refl _ _).drew) ?_ ?_ _ _ rfl (by decide) (fun i => by simp [Array.getD]; try (split <;> rfl))
            · intro vs u hR hall
              have e19 : vs 19 = .bool true := hall 19 (by simp)
              simp only [putsL]
              rw [e19]
              clear hall e19
              have HF : Hid (allN (rowB X) X.m = false ∧ Below w.heap.size w u) := ⟨allN_no hlt (by rw [HA.out.2.2.2.2]; simp [t0]), bel_nx HA.out.2.1 hR⟩
              clear HK HA hR
              go_simp
              go_wp2
              go_ret
              exact ⟨by rw [HF.out.1]; rfl, HF.out.2⟩
            · intro u i o ρ hR ho hρ hc hf hd
              have hi : i < 20 := by
                have := (Array.getElem?_eq_some_iff.1 ho).1
                simpa using this
              obtain rfl | rfl | rfl | rfl | rfl | rfl | rfl | rfl | rfl | rfl | rfl | rfl | rfl | rfl | rfl | rfl | rfl | rfl | rfl | rfl : i = 0 ∨ i = 1 ∨ i = 2 ∨ i = 3 ∨ i = 4 ∨ i = 5 ∨ i = 6 ∨ i = 7 ∨ i = 8 ∨ i = 9 ∨ i = 10 ∨ i = 11 ∨ i = 12 ∨ i = 13 ∨ i = 14 ∨ i = 15 ∨ i = 16 ∨ i = 17 ∨ i = 18 ∨ i = 19 := by omega
              all_goals (simp only [List.getElem?_toArray, List.getElem?_cons_zero, List.getElem?_cons_succ, Option.some.injEq] at ho; subst ho)
              · -- 0
                have s5 : ρ (.tmp 5) = .pointer (some ⟨b, off + k * 13, none⟩) := (hρ 5 (by kernel_rfl)).trans rfl
                exact .inl ⟨rfl, .inl ⟨_, u, rfl, s5, hR, Below.refl _ _⟩⟩
              · -- 1
                have h0 : ρ (.tmp 26) = .pointer (some ⟨b, off + k * 13, none⟩) := hd ⟨0, .data⟩ (by simp) rfl 26 rfl
                exact .inl ⟨rfl, .inl ⟨.pointer (some ⟨b, off + k * 13, none⟩), u, run_nilz rfl h0, rfl, hR, Below.refl _ _⟩⟩
              · -- 2
                have h1 : ρ (.tmp 27) = .pointer (some ⟨b, off + k * 13, none⟩) := hd ⟨1, .data⟩ (by simp) rfl 27 rfl
                exact .inl ⟨rfl, .inl ⟨.pointer (some ⟨b, off + k * 13, none⟩), u, run_field_op rfl h1 (by go_simp), rfl, hR, Below.refl _ _⟩⟩
              · -- 3
                have h2 : ρ (.tmp 28) = .pointer (some ⟨b, off + k * 13, none⟩) := hd ⟨2, .data⟩ (by simp) rfl 28 rfl
                have y9 : u.cell? ⟨b, off + k * 13, none⟩ = some (.int .i64 (X.f k).id) := (rangeAt_below HK.out.2.2.1 HK.out.2.1 hR) 0 _ rfl
                have hr : (Instr.loadAt 3 (.pointer (some ⟨b, off + k * 13, none⟩))).run Try.prog u = .ok (.int .i64 (X.f k).id) u := by go_simp
                exact .inl ⟨rfl, .inl ⟨.int .i64 (X.f k).id, u, run_load_op rfl h2 hr, rfl, hR, Below.refl _ _⟩⟩
              · -- 4
                have s3 : ρ (.tmp 3) = .int .i64 ls := (hρ 3 (by kernel_rfl)).trans rfl
                exact .inl ⟨rfl, .inl ⟨_, u, rfl, s3, hR, Below.refl _ _⟩⟩
              · -- 5
                have h3 : ρ (.tmp 29) = .int .i64 (X.f k).id := hd ⟨3, .data⟩ (by simp) rfl 29 rfl
                have h4 : ρ (.tmp 30) = .int .i64 ls := hd ⟨4, .data⟩ (by simp) rfl 30 rfl
                exact .inl ⟨rfl, .inl ⟨.bool true, u, run_bin_op rfl h3 h4 (by go_simp), rfl, hR, Below.refl _ _⟩⟩
              · -- 6
                have h5 : ρ (.tmp 31) = .bool true := hd ⟨5, .data⟩ (by simp) rfl 31 rfl
                exact .inl ⟨rfl, .inl ⟨_, u, rfl, h5, hR, Below.refl _ _⟩⟩
              · -- 7
                have g6 : ρ (.tmp 32) = .bool true := hd ⟨6, .guard⟩ (by simp) rfl 32 rfl
                exact .inr ⟨(by show (match ρ (.tmp 32) with | .bool b => b == false | _ => false) = false; rw [g6]; rfl), rfl⟩
              · -- 8
                have g6 : ρ (.tmp 32) = .bool true := hd ⟨6, .guard⟩ (by simp) rfl 32 rfl
                exact .inr ⟨(by show (match ρ (.tmp 32) with | .bool b => b == false | _ => false) = false; rw [g6]; rfl), rfl⟩
              · -- 9
                have g6 : ρ (.tmp 32) = .bool true := hd ⟨6, .guard⟩ (by simp) rfl 32 rfl
                exact .inr ⟨(by show (match ρ (.tmp 32) with | .bool b => b == false | _ => false) = false; rw [g6]; rfl), rfl⟩
              · -- 10
                have g6 : ρ (.tmp 32) = .bool true := hd ⟨6, .guard⟩ (by simp) rfl 32 rfl
                exact .inr ⟨(by show (match ρ (.tmp 32) with | .bool b => b == false | _ => false) = false; rw [g6]; rfl), rfl⟩
              · -- 11
                have g6 : ρ (.tmp 32) = .bool true := hd ⟨6, .guard⟩ (by simp) rfl 32 rfl
                exact .inr ⟨(by show (match ρ (.tmp 32) with | .bool b => b == false | _ => false) = false; rw [g6]; rfl), rfl⟩
              · -- 12
                have g6 : ρ (.tmp 32) = .bool true := hd ⟨6, .guard⟩ (by simp) rfl 32 rfl
                exact .inr ⟨(by show (match ρ (.tmp 32) with | .bool b => b == false | _ => false) = false; rw [g6]; rfl), rfl⟩
              · -- 13
                have g6 : ρ (.tmp 32) = .bool true := hd ⟨6, .guard⟩ (by simp) rfl 32 rfl
                exact .inr ⟨(by show (match ρ (.tmp 32) with | .bool b => b == false | _ => false) = false; rw [g6]; rfl), rfl⟩
              · -- 14
                have h6 : ρ (.tmp 32) = .bool true := hd ⟨6, .data⟩ (by simp) rfl 32 rfl
                exact .inl ⟨rfl, .inl ⟨_, u, run_pick_op rfl h6, (by simpa using hc _), hR, Below.refl _ _⟩⟩
              · -- 15
                have h14 : ρ (.tmp 40) = .bool true := hd ⟨14, .data⟩ (by simp) rfl 40 rfl
                exact .inl ⟨rfl, .inl ⟨_, u, rfl, h14, hR, Below.refl _ _⟩⟩
              · -- 16
                have g15 : ρ (.tmp 41) = .bool true := hd ⟨15, .guard⟩ (by simp) rfl 41 rfl
                exact .inr ⟨(by show (match ρ (.tmp 41) with | .bool b => b == false | _ => false) = false; rw [g15]; rfl), rfl⟩
              · -- 17
                have g15 : ρ (.tmp 41) = .bool true := hd ⟨15, .guard⟩ (by simp) rfl 41 rfl
                exact .inr ⟨(by show (match ρ (.tmp 41) with | .bool b => b == false | _ => false) = false; rw [g15]; rfl), rfl⟩
              · -- 18
                have g15 : ρ (.tmp 41) = .bool true := hd ⟨15, .guard⟩ (by simp) rfl 41 rfl
                exact .inr ⟨(by show (match ρ (.tmp 41) with | .bool b => b == false | _ => false) = false; rw [g15]; rfl), rfl⟩
              · -- 19
                have h15 : ρ (.tmp 41) = .bool true := hd ⟨15, .data⟩ (by simp) rfl 41 rfl
                exact .inl ⟨rfl, .inl ⟨_, u, run_pick_op rfl h15, (by simpa using hc _), hR, Below.refl _ _⟩⟩
          · by_cases t1 : X.nx ≤ (X.f k).id
            · refine wp_region_any (by kernel_rfl) ?_
              refine wpAny_vals (fun u => Below wr.heap.size wr u) (fun i v u => match i with
                | 0 => v = .pointer (some ⟨b, off + k * 13, none⟩)
                | 1 => v = .pointer (some ⟨b, off + k * 13, none⟩)
                | 2 => v = .pointer (some ⟨b, off + k * 13, none⟩)
                | 3 => v = .int .i64 (X.f k).id
                | 4 => v = .int .i64 ls
                | 5 => v = .bool false
                | 6 => v = .bool false
                | 7 => v = .pointer (some ⟨b, off + k * 13, none⟩)
                | 8 => v = .pointer (some ⟨b, off + k * 13, none⟩)
                | 9 => v = .pointer (some ⟨b, off + k * 13, none⟩)
                | 10 => v = .int .i64 (X.f k).id
                | 11 => v = .pointer (some ⟨G, 0, none⟩)
                | 12 => v = .int .i64 X.nx
                | 13 => v = .bool true
                | 14 => v = .bool true
                | 15 => v = .bool true
                | 16 => v = undef
                | 17 => v = undef
                | 18 => v = undef
                | 19 => v = .bool true
                | _ => True) (by kernel_rfl) (by kernel_rfl) (fun _ _ _ _ h _ => h) (by first | exact Below.refl _ _ | exact (Below.refl _ _).drew) ?_ ?_ _ _ rfl (by decide) (fun i => by simp [Array.getD]; try (split <;> rfl))
              · intro vs u hR hall
                have e19 : vs 19 = .bool true := hall 19 (by simp)
                simp only [putsL]
                rw [e19]
                clear hall e19
                have HF : Hid (allN (rowB X) X.m = false ∧ Below w.heap.size w u) := ⟨allN_no hlt (by rw [HA.out.2.2.2.2]; simp [t1]), bel_nx HA.out.2.1 hR⟩
                clear HK HA hR
                go_simp
                go_wp2
                go_ret
                exact ⟨by rw [HF.out.1]; rfl, HF.out.2⟩
              · intro u i o ρ hR ho hρ hc hf hd
                have hi : i < 20 := by
                  have := (Array.getElem?_eq_some_iff.1 ho).1
                  simpa using this
                obtain rfl | rfl | rfl | rfl | rfl | rfl | rfl | rfl | rfl | rfl | rfl | rfl | rfl | rfl | rfl | rfl | rfl | rfl | rfl | rfl : i = 0 ∨ i = 1 ∨ i = 2 ∨ i = 3 ∨ i = 4 ∨ i = 5 ∨ i = 6 ∨ i = 7 ∨ i = 8 ∨ i = 9 ∨ i = 10 ∨ i = 11 ∨ i = 12 ∨ i = 13 ∨ i = 14 ∨ i = 15 ∨ i = 16 ∨ i = 17 ∨ i = 18 ∨ i = 19 := by omega
                all_goals (simp only [List.getElem?_toArray, List.getElem?_cons_zero, List.getElem?_cons_succ, Option.some.injEq] at ho; subst ho)
                · -- 0
                  have s5 : ρ (.tmp 5) = .pointer (some ⟨b, off + k * 13, none⟩) := (hρ 5 (by kernel_rfl)).trans rfl
                  exact .inl ⟨rfl, .inl ⟨_, u, rfl, s5, hR, Below.refl _ _⟩⟩
                · -- 1
                  have h0 : ρ (.tmp 26) = .pointer (some ⟨b, off + k * 13, none⟩) := hd ⟨0, .data⟩ (by simp) rfl 26 rfl
                  exact .inl ⟨rfl, .inl ⟨.pointer (some ⟨b, off + k * 13, none⟩), u, run_nilz rfl h0, rfl, hR, Below.refl _ _⟩⟩
                · -- 2
                  have h1 : ρ (.tmp 27) = .pointer (some ⟨b, off + k * 13, none⟩) := hd ⟨1, .data⟩ (by simp) rfl 27 rfl
                  exact .inl ⟨rfl, .inl ⟨.pointer (some ⟨b, off + k * 13, none⟩), u, run_field_op rfl h1 (by go_simp), rfl, hR, Below.refl _ _⟩⟩
                · -- 3
                  have h2 : ρ (.tmp 28) = .pointer (some ⟨b, off + k * 13, none⟩) := hd ⟨2, .data⟩ (by simp) rfl 28 rfl
                  have y9 : u.cell? ⟨b, off + k * 13, none⟩ = some (.int .i64 (X.f k).id) := (rangeAt_below HK.out.2.2.1 HK.out.2.1 hR) 0 _ rfl
                  have hr : (Instr.loadAt 3 (.pointer (some ⟨b, off + k * 13, none⟩))).run Try.prog u = .ok (.int .i64 (X.f k).id) u := by go_simp
                  exact .inl ⟨rfl, .inl ⟨.int .i64 (X.f k).id, u, run_load_op rfl h2 hr, rfl, hR, Below.refl _ _⟩⟩
                · -- 4
                  have s3 : ρ (.tmp 3) = .int .i64 ls := (hρ 3 (by kernel_rfl)).trans rfl
                  exact .inl ⟨rfl, .inl ⟨_, u, rfl, s3, hR, Below.refl _ _⟩⟩
                · -- 5
                  have h3 : ρ (.tmp 29) = .int .i64 (X.f k).id := hd ⟨3, .data⟩ (by simp) rfl 29 rfl
                  have h4 : ρ (.tmp 30) = .int .i64 ls := hd ⟨4, .data⟩ (by simp) rfl 30 rfl
                  exact .inl ⟨rfl, .inl ⟨.bool false, u, run_bin_op rfl h3 h4 (by go_simp), rfl, hR, Below.refl _ _⟩⟩
                · -- 6
                  have h5 : ρ (.tmp 31) = .bool false := hd ⟨5, .data⟩ (by simp) rfl 31 rfl
                  exact .inl ⟨rfl, .inl ⟨_, u, rfl, h5, hR, Below.refl _ _⟩⟩
                · -- 7
                  have g6 : ρ (.tmp 32) = .bool false := hd ⟨6, .guard⟩ (by simp) rfl 32 rfl
                  have s5 : ρ (.tmp 5) = .pointer (some ⟨b, off + k * 13, none⟩) := (hρ 5 (by kernel_rfl)).trans rfl
                  exact .inl ⟨(by show (match ρ (.tmp 32) with | .bool b => b == false | _ => false) = true; rw [g6]; rfl), .inl ⟨_, u, rfl, s5, hR, Below.refl _ _⟩⟩
                · -- 8
                  have g6 : ρ (.tmp 32) = .bool false := hd ⟨6, .guard⟩ (by simp) rfl 32 rfl
                  have h7 : ρ (.tmp 33) = .pointer (some ⟨b, off + k * 13, none⟩) := hd ⟨7, .data⟩ (by simp) rfl 33 rfl
                  exact .inl ⟨(by show (match ρ (.tmp 32) with | .bool b => b == false | _ => false) = true; rw [g6]; rfl), .inl ⟨.pointer (some ⟨b, off + k * 13, none⟩), u, run_nilz rfl h7, rfl, hR, Below.refl _ _⟩⟩
                · -- 9
                  have g6 : ρ (.tmp 32) = .bool false := hd ⟨6, .guard⟩ (by simp) rfl 32 rfl
                  have h8 : ρ (.tmp 34) = .pointer (some ⟨b, off + k * 13, none⟩) := hd ⟨8, .data⟩ (by simp) rfl 34 rfl
                  exact .inl ⟨(by show (match ρ (.tmp 32) with | .bool b => b == false | _ => false) = true; rw [g6]; rfl), .inl ⟨.pointer (some ⟨b, off + k * 13, none⟩), u, run_field_op rfl h8 (by go_simp), rfl, hR, Below.refl _ _⟩⟩
                · -- 10
                  have g6 : ρ (.tmp 32) = .bool false := hd ⟨6, .guard⟩ (by simp) rfl 32 rfl
                  have h9 : ρ (.tmp 35) = .pointer (some ⟨b, off + k * 13, none⟩) := hd ⟨9, .data⟩ (by simp) rfl 35 rfl
                  have y9 : u.cell? ⟨b, off + k * 13, none⟩ = some (.int .i64 (X.f k).id) := (rangeAt_below HK.out.2.2.1 HK.out.2.1 hR) 0 _ rfl
                  have hr : (Instr.loadAt 3 (.pointer (some ⟨b, off + k * 13, none⟩))).run Try.prog u = .ok (.int .i64 (X.f k).id) u := by go_simp
                  exact .inl ⟨(by show (match ρ (.tmp 32) with | .bool b => b == false | _ => false) = true; rw [g6]; rfl), .inl ⟨.int .i64 (X.f k).id, u, run_load_op rfl h9 hr, rfl, hR, Below.refl _ _⟩⟩
                · -- 11
                  have g6 : ρ (.tmp 32) = .bool false := hd ⟨6, .guard⟩ (by simp) rfl 32 rfl
                  have s1 : ρ (.tmp 1) = .pointer (some ⟨G, 0, none⟩) := (hρ 1 (by kernel_rfl)).trans rfl
                  exact .inl ⟨(by show (match ρ (.tmp 32) with | .bool b => b == false | _ => false) = true; rw [g6]; rfl), .inl ⟨.pointer (some ⟨G, 0, none⟩), u, run_field_op rfl s1 (by go_simp), rfl, hR, Below.refl _ _⟩⟩
                · -- 12
                  have g6 : ρ (.tmp 32) = .bool false := hd ⟨6, .guard⟩ (by simp) rfl 32 rfl
                  have h11 : ρ (.tmp 37) = .pointer (some ⟨G, 0, none⟩) := hd ⟨11, .data⟩ (by simp) rfl 37 rfl
                  have y9 : u.cell? ⟨G, 0, none⟩ = some (.int .i64 X.nx) := (HK.out.1.below hR).rng 0 _ rfl
                  have hr : (Instr.loadAt 3 (.pointer (some ⟨G, 0, none⟩))).run Try.prog u = .ok (.int .i64 X.nx) u := by go_simp
                  exact .inl ⟨(by show (match ρ (.tmp 32) with | .bool b => b == false | _ => false) = true; rw [g6]; rfl), .inl ⟨.int .i64 X.nx, u, run_load_op rfl h11 hr, rfl, hR, Below.refl _ _⟩⟩
                · -- 13
                  have g6 : ρ (.tmp 32) = .bool false := hd ⟨6, .guard⟩ (by simp) rfl 32 rfl
                  have h10 : ρ (.tmp 36) = .int .i64 (X.f k).id := hd ⟨10, .data⟩ (by simp) rfl 36 rfl
                  have h12 : ρ (.tmp 38) = .int .i64 X.nx := hd ⟨12, .data⟩ (by simp) rfl 38 rfl
                  exact .inl ⟨(by show (match ρ (.tmp 32) with | .bool b => b == false | _ => false) = true; rw [g6]; rfl), .inl ⟨.bool true, u, run_bin_op rfl h10 h12 (by go_simp), rfl, hR, Below.refl _ _⟩⟩
                · -- 14
                  have h6 : ρ (.tmp 32) = .bool false := hd ⟨6, .data⟩ (by simp) rfl 32 rfl
                  have h13 : ρ (.tmp 39) = .bool true := hd ⟨13, .data⟩ (by simp) rfl 39 rfl
                  exact .inl ⟨rfl, .inl ⟨_, u, run_pick_op rfl h6, (by simpa using h13), hR, Below.refl _ _⟩⟩
                · -- 15
                  have h14 : ρ (.tmp 40) = .bool true := hd ⟨14, .data⟩ (by simp) rfl 40 rfl
                  exact .inl ⟨rfl, .inl ⟨_, u, rfl, h14, hR, Below.refl _ _⟩⟩
                · -- 16
                  have g15 : ρ (.tmp 41) = .bool true := hd ⟨15, .guard⟩ (by simp) rfl 41 rfl
                  exact .inr ⟨(by show (match ρ (.tmp 41) with | .bool b => b == false | _ => false) = false; rw [g15]; rfl), rfl⟩
                · -- 17
                  have g15 : ρ (.tmp 41) = .bool true := hd ⟨15, .guard⟩ (by simp) rfl 41 rfl
                  exact .inr ⟨(by show (match ρ (.tmp 41) with | .bool b => b == false | _ => false) = false; rw [g15]; rfl), rfl⟩
                · -- 18
                  have g15 : ρ (.tmp 41) = .bool true := hd ⟨15, .guard⟩ (by simp) rfl 41 rfl
                  exact .inr ⟨(by show (match ρ (.tmp 41) with | .bool b => b == false | _ => false) = false; rw [g15]; rfl), rfl⟩
                · -- 19
                  have h15 : ρ (.tmp 41) = .bool true := hd ⟨15, .data⟩ (by simp) rfl 41 rfl
                  exact .inl ⟨rfl, .inl ⟨_, u, run_pick_op rfl h15, (by simpa using hc _), hR, Below.refl _ _⟩⟩
            · cases x with
              | false =>
                refine wp_region_any (by kernel_rfl) ?_
                refine wpAny_vals (fun u => Below wr.heap.size wr u) (fun i v u => match i with
                  | 0 => v = .pointer (some ⟨b, off + k * 13, none⟩)
                  | 1 => v = .pointer (some ⟨b, off + k * 13, none⟩)
                  | 2 => v = .pointer (some ⟨b, off + k * 13, none⟩)
                  | 3 => v = .int .i64 (X.f k).id
                  | 4 => v = .int .i64 ls
                  | 5 => v = .bool false
                  | 6 => v = .bool false
                  | 7 => v = .pointer (some ⟨b, off + k * 13, none⟩)
                  | 8 => v = .pointer (some ⟨b, off + k * 13, none⟩)
                  | 9 => v = .pointer (some ⟨b, off + k * 13, none⟩)
                  | 10 => v = .int .i64 (X.f k).id
                  | 11 => v = .pointer (some ⟨G, 0, none⟩)
                  | 12 => v = .int .i64 X.nx
                  | 13 => v = .bool false
                  | 14 => v = .bool false
                  | 15 => v = .bool false
                  | 16 => v = .pointer (some ⟨b, off + k * 13, none⟩)
                  | 17 => v = .bool false
                  | 18 => v = .bool true
                  | 19 => v = .bool true
                  | _ => True) (by kernel_rfl) (by kernel_rfl) (fun _ _ _ _ h _ => h) (by first | exact Below.refl _ _ | exact (Below.refl _ _).drew) ?_ ?_ _ _ rfl (by decide) (fun i => by simp [Array.getD]; try (split <;> rfl))
                · intro vs u hR hall
                  have e19 : vs 19 = .bool true := hall 19 (by simp)
                  simp only [putsL]
                  rw [e19]
                  clear hall e19
                  have HF : Hid (allN (rowB X) X.m = false ∧ Below w.heap.size w u) := ⟨allN_no hlt (by rw [HA.out.2.2.2.2]; simp []), bel_nx HA.out.2.1 hR⟩
                  clear HK HA hR
                  go_simp
                  go_wp2
                  go_ret
                  exact ⟨by rw [HF.out.1]; rfl, HF.out.2⟩
                · intro u i o ρ hR ho hρ hc hf hd
                  have hi : i < 20 := by
                    have := (Array.getElem?_eq_some_iff.1 ho).1
                    simpa using this
                  obtain rfl | rfl | rfl | rfl | rfl | rfl | rfl | rfl | rfl | rfl | rfl | rfl | rfl | rfl | rfl | rfl | rfl | rfl | rfl | rfl : i = 0 ∨ i = 1 ∨ i = 2 ∨ i = 3 ∨ i = 4 ∨ i = 5 ∨ i = 6 ∨ i = 7 ∨ i = 8 ∨ i = 9 ∨ i = 10 ∨ i = 11 ∨ i = 12 ∨ i = 13 ∨ i = 14 ∨ i = 15 ∨ i = 16 ∨ i = 17 ∨ i = 18 ∨ i = 19 := by omega
                  all_goals (simp only [List.getElem?_toArray, List.getElem?_cons_zero, List.getElem?_cons_succ, Option.some.injEq] at ho; subst ho)
                  · -- 0
                    have s5 : ρ (.tmp 5) = .pointer (some ⟨b, off + k * 13, none⟩) := (hρ 5 (by kernel_rfl)).trans rfl
                    exact .inl ⟨rfl, .inl ⟨_, u, rfl, s5, hR, Below.refl _ _⟩⟩
                  · -- 1
                    have h0 : ρ (.tmp 26) = .pointer (some ⟨b, off + k * 13, none⟩) := hd ⟨0, .data⟩ (by simp) rfl 26 rfl
                    exact .inl ⟨rfl, .inl ⟨.pointer (some ⟨b, off + k * 13, none⟩), u, run_nilz rfl h0, rfl, hR, Below.refl _ _⟩⟩
                  · -- 2
                    have h1 : ρ (.tmp 27) = .pointer (some ⟨b, off + k * 13, none⟩) := hd ⟨1, .data⟩ (by simp) rfl 27 rfl
                    exact .inl ⟨rfl, .inl ⟨.pointer (some ⟨b, off + k * 13, none⟩), u, run_field_op rfl h1 (by go_simp), rfl, hR, Below.refl _ _⟩⟩
                  · -- 3
                    have h2 : ρ (.tmp 28) = .pointer (some ⟨b, off + k * 13, none⟩) := hd ⟨2, .data⟩ (by simp) rfl 28 rfl
                    have y9 : u.cell? ⟨b, off + k * 13, none⟩ = some (.int .i64 (X.f k).id) := (rangeAt_below HK.out.2.2.1 HK.out.2.1 hR) 0 _ rfl
                    have hr : (Instr.loadAt 3 (.pointer (some ⟨b, off + k * 13, none⟩))).run Try.prog u = .ok (.int .i64 (X.f k).id) u := by go_simp
                    exact .inl ⟨rfl, .inl ⟨.int .i64 (X.f k).id, u, run_load_op rfl h2 hr, rfl, hR, Below.refl _ _⟩⟩
                  · -- 4
                    have s3 : ρ (.tmp 3) = .int .i64 ls := (hρ 3 (by kernel_rfl)).trans rfl
                    exact .inl ⟨rfl, .inl ⟨_, u, rfl, s3, hR, Below.refl _ _⟩⟩
                  · -- 5
                    have h3 : ρ (.tmp 29) = .int .i64 (X.f k).id := hd ⟨3, .data⟩ (by simp) rfl 29 rfl
                    have h4 : ρ (.tmp 30) = .int .i64 ls := hd ⟨4, .data⟩ (by simp) rfl 30 rfl
                    exact .inl ⟨rfl, .inl ⟨.bool false, u, run_bin_op rfl h3 h4 (by go_simp), rfl, hR, Below.refl _ _⟩⟩
                  · -- 6
                    have h5 : ρ (.tmp 31) = .bool false := hd ⟨5, .data⟩ (by simp) rfl 31 rfl
                    exact .inl ⟨rfl, .inl ⟨_, u, rfl, h5, hR, Below.refl _ _⟩⟩
                  · -- 7
                    have g6 : ρ (.tmp 32) = .bool false := hd ⟨6, .guard⟩ (by simp) rfl 32 rfl
                    have s5 : ρ (.tmp 5) = .pointer (some ⟨b, off + k * 13, none⟩) := (hρ 5 (by kernel_rfl)).trans rfl
                    exact .inl ⟨(by show (match ρ (.tmp 32) with | .bool b => b == false | _ => false) = true; rw [g6]; rfl), .inl ⟨_, u, rfl, s5, hR, Below.refl _ _⟩⟩
                  · -- 8
                    have g6 : ρ (.tmp 32) = .bool false := hd ⟨6, .guard⟩ (by simp) rfl 32 rfl
                    have h7 : ρ (.tmp 33) = .pointer (some ⟨b, off + k * 13, none⟩) := hd ⟨7, .data⟩ (by simp) rfl 33 rfl
                    exact .inl ⟨(by show (match ρ (.tmp 32) with | .bool b => b == false | _ => false) = true; rw [g6]; rfl), .inl ⟨.pointer (some ⟨b, off + k * 13, none⟩), u, run_nilz rfl h7, rfl, hR, Below.refl _ _⟩⟩
                  · -- 9
                    have g6 : ρ (.tmp 32) = .bool false := hd ⟨6, .guard⟩ (by simp) rfl 32 rfl
                    have h8 : ρ (.tmp 34) = .pointer (some ⟨b, off + k * 13, none⟩) := hd ⟨8, .data⟩ (by simp) rfl 34 rfl
                    exact .inl ⟨(by show (match ρ (.tmp 32) with | .bool b => b == false | _ => false) = true; rw [g6]; rfl), .inl ⟨.pointer (some ⟨b, off + k * 13, none⟩), u, run_field_op rfl h8 (by go_simp), rfl, hR, Below.refl _ _⟩⟩
                  · -- 10
                    have g6 : ρ (.tmp 32) = .bool false := hd ⟨6, .guard⟩ (by simp) rfl 32 rfl
                    have h9 : ρ (.tmp 35) = .pointer (some ⟨b, off + k * 13, none⟩) := hd ⟨9, .data⟩ (by simp) rfl 35 rfl
                    have y9 : u.cell? ⟨b, off + k * 13, none⟩ = some (.int .i64 (X.f k).id) := (rangeAt_below HK.out.2.2.1 HK.out.2.1 hR) 0 _ rfl
                    have hr : (Instr.loadAt 3 (.pointer (some ⟨b, off + k * 13, none⟩))).run Try.prog u = .ok (.int .i64 (X.f k).id) u := by go_simp
                    exact .inl ⟨(by show (match ρ (.tmp 32) with | .bool b => b == false | _ => false) = true; rw [g6]; rfl), .inl ⟨.int .i64 (X.f k).id, u, run_load_op rfl h9 hr, rfl, hR, Below.refl _ _⟩⟩
                  · -- 11
                    have g6 : ρ (.tmp 32) = .bool false := hd ⟨6, .guard⟩ (by simp) rfl 32 rfl
                    have s1 : ρ (.tmp 1) = .pointer (some ⟨G, 0, none⟩) := (hρ 1 (by kernel_rfl)).trans rfl
                    exact .inl ⟨(by show (match ρ (.tmp 32) with | .bool b => b == false | _ => false) = true; rw [g6]; rfl), .inl ⟨.pointer (some ⟨G, 0, none⟩), u, run_field_op rfl s1 (by go_simp), rfl, hR, Below.refl _ _⟩⟩
                  · -- 12
                    have g6 : ρ (.tmp 32) = .bool false := hd ⟨6, .guard⟩ (by simp) rfl 32 rfl
                    have h11 : ρ (.tmp 37) = .pointer (some ⟨G, 0, none⟩) := hd ⟨11, .data⟩ (by simp) rfl 37 rfl
                    have y9 : u.cell? ⟨G, 0, none⟩ = some (.int .i64 X.nx) := (HK.out.1.below hR).rng 0 _ rfl
                    have hr : (Instr.loadAt 3 (.pointer (some ⟨G, 0, none⟩))).run Try.prog u = .ok (.int .i64 X.nx) u := by go_simp
                    exact .inl ⟨(by show (match ρ (.tmp 32) with | .bool b => b == false | _ => false) = true; rw [g6]; rfl), .inl ⟨.int .i64 X.nx, u, run_load_op rfl h11 hr, rfl, hR, Below.refl _ _⟩⟩
                  · -- 13
                    have g6 : ρ (.tmp 32) = .bool false := hd ⟨6, .guard⟩ (by simp) rfl 32 rfl
                    have h10 : ρ (.tmp 36) = .int .i64 (X.f k).id := hd ⟨10, .data⟩ (by simp) rfl 36 rfl
                    have h12 : ρ (.tmp 38) = .int .i64 X.nx := hd ⟨12, .data⟩ (by simp) rfl 38 rfl
                    exact .inl ⟨(by show (match ρ (.tmp 32) with | .bool b => b == false | _ => false) = true; rw [g6]; rfl), .inl ⟨.bool false, u, run_bin_op rfl h10 h12 (by go_simp), rfl, hR, Below.refl _ _⟩⟩
                  · -- 14
                    have h6 : ρ (.tmp 32) = .bool false := hd ⟨6, .data⟩ (by simp) rfl 32 rfl
                    have h13 : ρ (.tmp 39) = .bool false := hd ⟨13, .data⟩ (by simp) rfl 39 rfl
                    exact .inl ⟨rfl, .inl ⟨_, u, run_pick_op rfl h6, (by simpa using h13), hR, Below.refl _ _⟩⟩
                  · -- 15
                    have h14 : ρ (.tmp 40) = .bool false := hd ⟨14, .data⟩ (by simp) rfl 40 rfl
                    exact .inl ⟨rfl, .inl ⟨_, u, rfl, h14, hR, Below.refl _ _⟩⟩
                  · -- 16
                    have g15 : ρ (.tmp 41) = .bool false := hd ⟨15, .guard⟩ (by simp) rfl 41 rfl
                    have s5 : ρ (.tmp 5) = .pointer (some ⟨b, off + k * 13, none⟩) := (hρ 5 (by kernel_rfl)).trans rfl
                    exact .inl ⟨(by show (match ρ (.tmp 41) with | .bool b => b == false | _ => false) = true; rw [g15]; rfl), .inl ⟨_, u, rfl, s5, hR, Below.refl _ _⟩⟩
                  · -- 17
                    have g15 : ρ (.tmp 41) = .bool false := hd ⟨15, .guard⟩ (by simp) rfl 41 rfl
                    have h16 : ρ (.tmp 42) = .pointer (some ⟨b, off + k * 13, none⟩) := hd ⟨16, .data⟩ (by simp) rfl 42 rfl
                    refine .inl ⟨(by show (match ρ (.tmp 41) with | .bool b => b == false | _ => false) = true; rw [g15]; rfl), .inr ⟨_, _, run_call_op rfl (hf _) (args := #[.pointer (some ⟨b, off + k * 13, none⟩)]) (by simp [h16]) (by kernel_rfl), ?_⟩⟩
                    refine (pendRight_any (X.f k) b (off + k * 13) _ (HK.out.2.2.2.1.below hR) HK.out.2.2.2.2.1).mono ?_
                    rintro e u' ⟨he, b'⟩
                    exact ⟨_, he.trans (by rw [HK.out.2.2.2.2.2]), rfl, bel_nx hR b', b'⟩
                  · -- 18
                    have g15 : ρ (.tmp 41) = .bool false := hd ⟨15, .guard⟩ (by simp) rfl 41 rfl
                    have h17 : ρ (.tmp 43) = .bool false := hd ⟨17, .data⟩ (by simp) rfl 43 rfl
                    exact .inl ⟨(by show (match ρ (.tmp 41) with | .bool b => b == false | _ => false) = true; rw [g15]; rfl), .inl ⟨.bool true, u, run_un_op rfl h17 (by go_simp), rfl, hR, Below.refl _ _⟩⟩
                  · -- 19
                    have h15 : ρ (.tmp 41) = .bool false := hd ⟨15, .data⟩ (by simp) rfl 41 rfl
                    have h18 : ρ (.tmp 44) = .bool true := hd ⟨18, .data⟩ (by simp) rfl 44 rfl
                    exact .inl ⟨rfl, .inl ⟨_, u, run_pick_op rfl h15, (by simpa using h18), hR, Below.refl _ _⟩⟩
              | true =>
                refine wp_region_any (by kernel_rfl) ?_
                refine wpAny_vals (fun u => Below wr.heap.size wr u) (fun i v u => match i with
                  | 0 => v = .pointer (some ⟨b, off + k * 13, none⟩)
                  | 1 => v = .pointer (some ⟨b, off + k * 13, none⟩)
                  | 2 => v = .pointer (some ⟨b, off + k * 13, none⟩)
                  | 3 => v = .int .i64 (X.f k).id
                  | 4 => v = .int .i64 ls
                  | 5 => v = .bool false
                  | 6 => v = .bool false
                  | 7 => v = .pointer (some ⟨b, off + k * 13, none⟩)
                  | 8 => v = .pointer (some ⟨b, off + k * 13, none⟩)
                  | 9 => v = .pointer (some ⟨b, off + k * 13, none⟩)
                  | 10 => v = .int .i64 (X.f k).id
                  | 11 => v = .pointer (some ⟨G, 0, none⟩)
                  | 12 => v = .int .i64 X.nx
                  | 13 => v = .bool false
                  | 14 => v = .bool false
                  | 15 => v = .bool false
                  | 16 => v = .pointer (some ⟨b, off + k * 13, none⟩)
                  | 17 => v = .bool true
                  | 18 => v = .bool false
                  | 19 => v = .bool false
                  | _ => True) (by kernel_rfl) (by kernel_rfl) (fun _ _ _ _ h _ => h) (by first | exact Below.refl _ _ | exact (Below.refl _ _).drew) ?_ ?_ _ _ rfl (by decide) (fun i => by simp [Array.getD]; try (split <;> rfl))
                · intro vs u hR hall
                  have e19 : vs 19 = .bool false := hall 19 (by simp)
                  simp only [putsL]
                  rw [e19]
                  clear hall e19
                  have hgood : rowB X k = true := by rw [HA.out.2.2.2.2]; simp [t0, t1]
                  have hpos := (row_at hgood).2
                  have hp1 : 0 ≤ (X.f k).id := hpos.1
                  have hp2 : (X.f k).id < X.nx := hpos.2.1
                  have d0 : u.cell? ⟨b, off + k * 13, none⟩ = some (.int .i64 (X.f k).id) := (rangeAt_below HK.out.2.2.1 HK.out.2.1 hR) 0 _ rfl
                  have HF : Hid (allN (rowB X) (k + 1) = true ∧ Below W.heap.size W u ∧ (X.f k).id + 1 = lsT X (k + 1)) := ⟨allN_succ HA.out.1 hgood, bel_nx HA.out.2.2.1 hR, by simp [lsT]⟩
                  clear HK HA hR hgood hpos
                  go_simp
                  go_wp2
                  go_roundw
                  case rel => exact ⟨k + 1, by omega, by go_num, by rw [← HF.out.2.2], HF.out.1, HF.out.2.1⟩
                  case measure => simp [intOf]; omega
                · intro u i o ρ hR ho hρ hc hf hd
                  have hi : i < 20 := by
                    have := (Array.getElem?_eq_some_iff.1 ho).1
                    simpa using this
                  obtain rfl | rfl | rfl | rfl | rfl | rfl | rfl | rfl | rfl | rfl | rfl | rfl | rfl | rfl | rfl | rfl | rfl | rfl | rfl | rfl : i = 0 ∨ i = 1 ∨ i = 2 ∨ i = 3 ∨ i = 4 ∨ i = 5 ∨ i = 6 ∨ i = 7 ∨ i = 8 ∨ i = 9 ∨ i = 10 ∨ i = 11 ∨ i = 12 ∨ i = 13 ∨ i = 14 ∨ i = 15 ∨ i = 16 ∨ i = 17 ∨ i = 18 ∨ i = 19 := by omega
                  all_goals (simp only [List.getElem?_toArray, List.getElem?_cons_zero, List.getElem?_cons_succ, Option.some.injEq] at ho; subst ho)
                  · -- 0
                    have s5 : ρ (.tmp 5) = .pointer (some ⟨b, off + k * 13, none⟩) := (hρ 5 (by kernel_rfl)).trans rfl
                    exact .inl ⟨rfl, .inl ⟨_, u, rfl, s5, hR, Below.refl _ _⟩⟩
                  · -- 1
                    have h0 : ρ (.tmp 26) = .pointer (some ⟨b, off + k * 13, none⟩) := hd ⟨0, .data⟩ (by simp) rfl 26 rfl
                    exact .inl ⟨rfl, .inl ⟨.pointer (some ⟨b, off + k * 13, none⟩), u, run_nilz rfl h0, rfl, hR, Below.refl _ _⟩⟩
                  · -- 2
                    have h1 : ρ (.tmp 27) = .pointer (some ⟨b, off + k * 13, none⟩) := hd ⟨1, .data⟩ (by simp) rfl 27 rfl
                    exact .inl ⟨rfl, .inl ⟨.pointer (some ⟨b, off + k * 13, none⟩), u, run_field_op rfl h1 (by go_simp), rfl, hR, Below.refl _ _⟩⟩
                  · -- 3
                    have h2 : ρ (.tmp 28) = .pointer (some ⟨b, off + k * 13, none⟩) := hd ⟨2, .data⟩ (by simp) rfl 28 rfl
                    have y9 : u.cell? ⟨b, off + k * 13, none⟩ = some (.int .i64 (X.f k).id) := (rangeAt_below HK.out.2.2.1 HK.out.2.1 hR) 0 _ rfl
                    have hr : (Instr.loadAt 3 (.pointer (some ⟨b, off + k * 13, none⟩))).run Try.prog u = .ok (.int .i64 (X.f k).id) u := by go_simp
                    exact .inl ⟨rfl, .inl ⟨.int .i64 (X.f k).id, u, run_load_op rfl h2 hr, rfl, hR, Below.refl _ _⟩⟩
                  · -- 4
                    have s3 : ρ (.tmp 3) = .int .i64 ls := (hρ 3 (by kernel_rfl)).trans rfl
                    exact .inl ⟨rfl, .inl ⟨_, u, rfl, s3, hR, Below.refl _ _⟩⟩
                  · -- 5
                    have h3 : ρ (.tmp 29) = .int .i64 (X.f k).id := hd ⟨3, .data⟩ (by simp) rfl 29 rfl
                    have h4 : ρ (.tmp 30) = .int .i64 ls := hd ⟨4, .data⟩ (by simp) rfl 30 rfl
                    exact .inl ⟨rfl, .inl ⟨.bool false, u, run_bin_op rfl h3 h4 (by go_simp), rfl, hR, Below.refl _ _⟩⟩
                  · -- 6
                    have h5 : ρ (.tmp 31) = .bool false := hd ⟨5, .data⟩ (by simp) rfl 31 rfl
                    exact .inl ⟨rfl, .inl ⟨_, u, rfl, h5, hR, Below.refl _ _⟩⟩
                  · -- 7
                    have g6 : ρ (.tmp 32) = .bool false := hd ⟨6, .guard⟩ (by simp) rfl 32 rfl
                    have s5 : ρ (.tmp 5) = .pointer (some ⟨b, off + k * 13, none⟩) := (hρ 5 (by kernel_rfl)).trans rfl
                    exact .inl ⟨(by show (match ρ (.tmp 32) with | .bool b => b == false | _ => false) = true; rw [g6]; rfl), .inl ⟨_, u, rfl, s5, hR, Below.refl _ _⟩⟩
                  · -- 8
                    have g6 : ρ (.tmp 32) = .bool false := hd ⟨6, .guard⟩ (by simp) rfl 32 rfl
                    have h7 : ρ (.tmp 33) = .pointer (some ⟨b, off + k * 13, none⟩) := hd ⟨7, .data⟩ (by simp) rfl 33 rfl
                    exact .inl ⟨(by show (match ρ (.tmp 32) with | .bool b => b == false | _ => false) = true; rw [g6]; rfl), .inl ⟨.pointer (some ⟨b, off + k * 13, none⟩), u, run_nilz rfl h7, rfl, hR, Below.refl _ _⟩⟩
                  · -- 9
                    have g6 : ρ (.tmp 32) = .bool false := hd ⟨6, .guard⟩ (by simp) rfl 32 rfl
                    have h8 : ρ (.tmp 34) = .pointer (some ⟨b, off + k * 13, none⟩) := hd ⟨8, .data⟩ (by simp) rfl 34 rfl
                    exact .inl ⟨(by show (match ρ (.tmp 32) with | .bool b => b == false | _ => false) = true; rw [g6]; rfl), .inl ⟨.pointer (some ⟨b, off + k * 13, none⟩), u, run_field_op rfl h8 (by go_simp), rfl, hR, Below.refl _ _⟩⟩
                  · -- 10
                    have g6 : ρ (.tmp 32) = .bool false := hd ⟨6, .guard⟩ (by simp) rfl 32 rfl
                    have h9 : ρ (.tmp 35) = .pointer (some ⟨b, off + k * 13, none⟩) := hd ⟨9, .data⟩ (by simp) rfl 35 rfl
                    have y9 : u.cell? ⟨b, off + k * 13, none⟩ = some (.int .i64 (X.f k).id) := (rangeAt_below HK.out.2.2.1 HK.out.2.1 hR) 0 _ rfl
                    have hr : (Instr.loadAt 3 (.pointer (some ⟨b, off + k * 13, none⟩))).run Try.prog u = .ok (.int .i64 (X.f k).id) u := by go_simp
                    exact .inl ⟨(by show (match ρ (.tmp 32) with | .bool b => b == false | _ => false) = true; rw [g6]; rfl), .inl ⟨.int .i64 (X.f k).id, u, run_load_op rfl h9 hr, rfl, hR, Below.refl _ _⟩⟩
                  · -- 11
                    have g6 : ρ (.tmp 32) = .bool false := hd ⟨6, .guard⟩ (by simp) rfl 32 rfl
                    have s1 : ρ (.tmp 1) = .pointer (some ⟨G, 0, none⟩) := (hρ 1 (by kernel_rfl)).trans rfl
                    exact .inl ⟨(by show (match ρ (.tmp 32) with | .bool b => b == false | _ => false) = true; rw [g6]; rfl), .inl ⟨.pointer (some ⟨G, 0, none⟩), u, run_field_op rfl s1 (by go_simp), rfl, hR, Below.refl _ _⟩⟩
                  · -- 12
                    have g6 : ρ (.tmp 32) = .bool false := hd ⟨6, .guard⟩ (by simp) rfl 32 rfl
                    have h11 : ρ (.tmp 37) = .pointer (some ⟨G, 0, none⟩) := hd ⟨11, .data⟩ (by simp) rfl 37 rfl
                    have y9 : u.cell? ⟨G, 0, none⟩ = some (.int .i64 X.nx) := (HK.out.1.below hR).rng 0 _ rfl
                    have hr : (Instr.loadAt 3 (.pointer (some ⟨G, 0, none⟩))).run Try.prog u = .ok (.int .i64 X.nx) u := by go_simp
                    exact .inl ⟨(by show (match ρ (.tmp 32) with | .bool b => b == false | _ => false) = true; rw [g6]; rfl), .inl ⟨.int .i64 X.nx, u, run_load_op rfl h11 hr, rfl, hR, Below.refl _ _⟩⟩
                  · -- 13
                    have g6 : ρ (.tmp 32) = .bool false := hd ⟨6, .guard⟩ (by simp) rfl 32 rfl
                    have h10 : ρ (.tmp 36) = .int .i64 (X.f k).id := hd ⟨10, .data⟩ (by simp) rfl 36 rfl
                    have h12 : ρ (.tmp 38) = .int .i64 X.nx := hd ⟨12, .data⟩ (by simp) rfl 38 rfl
                    exact .inl ⟨(by show (match ρ (.tmp 32) with | .bool b => b == false | _ => false) = true; rw [g6]; rfl), .inl ⟨.bool false, u, run_bin_op rfl h10 h12 (by go_simp), rfl, hR, Below.refl _ _⟩⟩
                  · -- 14
                    have h6 : ρ (.tmp 32) = .bool false := hd ⟨6, .data⟩ (by simp) rfl 32 rfl
                    have h13 : ρ (.tmp 39) = .bool false := hd ⟨13, .data⟩ (by simp) rfl 39 rfl
                    exact .inl ⟨rfl, .inl ⟨_, u, run_pick_op rfl h6, (by simpa using h13), hR, Below.refl _ _⟩⟩
                  · -- 15
                    have h14 : ρ (.tmp 40) = .bool false := hd ⟨14, .data⟩ (by simp) rfl 40 rfl
                    exact .inl ⟨rfl, .inl ⟨_, u, rfl, h14, hR, Below.refl _ _⟩⟩
                  · -- 16
                    have g15 : ρ (.tmp 41) = .bool false := hd ⟨15, .guard⟩ (by simp) rfl 41 rfl
                    have s5 : ρ (.tmp 5) = .pointer (some ⟨b, off + k * 13, none⟩) := (hρ 5 (by kernel_rfl)).trans rfl
                    exact .inl ⟨(by show (match ρ (.tmp 41) with | .bool b => b == false | _ => false) = true; rw [g15]; rfl), .inl ⟨_, u, rfl, s5, hR, Below.refl _ _⟩⟩
                  · -- 17
                    have g15 : ρ (.tmp 41) = .bool false := hd ⟨15, .guard⟩ (by simp) rfl 41 rfl
                    have h16 : ρ (.tmp 42) = .pointer (some ⟨b, off + k * 13, none⟩) := hd ⟨16, .data⟩ (by simp) rfl 42 rfl
                    refine .inl ⟨(by show (match ρ (.tmp 41) with | .bool b => b == false | _ => false) = true; rw [g15]; rfl), .inr ⟨_, _, run_call_op rfl (hf _) (args := #[.pointer (some ⟨b, off + k * 13, none⟩)]) (by simp [h16]) (by kernel_rfl), ?_⟩⟩
                    refine (pendRight_any (X.f k) b (off + k * 13) _ (HK.out.2.2.2.1.below hR) HK.out.2.2.2.2.1).mono ?_
                    rintro e u' ⟨he, b'⟩
                    exact ⟨_, he.trans (by rw [HK.out.2.2.2.2.2]), rfl, bel_nx hR b', b'⟩
                  · -- 18
                    have g15 : ρ (.tmp 41) = .bool false := hd ⟨15, .guard⟩ (by simp) rfl 41 rfl
                    have h17 : ρ (.tmp 43) = .bool true := hd ⟨17, .data⟩ (by simp) rfl 43 rfl
                    exact .inl ⟨(by show (match ρ (.tmp 41) with | .bool b => b == false | _ => false) = true; rw [g15]; rfl), .inl ⟨.bool false, u, run_un_op rfl h17 (by go_simp), rfl, hR, Below.refl _ _⟩⟩
                  · -- 19
                    have h15 : ρ (.tmp 41) = .bool false := hd ⟨15, .data⟩ (by simp) rfl 41 rfl
                    have h18 : ρ (.tmp 44) = .bool false := hd ⟨18, .data⟩ (by simp) rfl 44 rfl
                    exact .inl ⟨rfl, .inl ⟨_, u, run_pick_op rfl h15, (by simpa using h18), hR, Below.refl _ _⟩⟩
        · have hi : ¬ (k : Int) < (X.m : Int) := by omega
          have e9 : k = X.m := by omega
          have HF : Hid (allN (rowB X) X.m = true ∧ Below w.heap.size w wr) := ⟨by rw [← e9]; exact hall, bel_nx HE.out.2.2.2.1 hbl⟩
          clear hall hbl e9
          go_wp2
          go_ret
          exact ⟨by rw [HF.out.1]; rfl, HF.out.2⟩
set_option maxRecDepth 20000 in
set_option maxHeartbeats 4000000 in
theorem implWaiting_any (X : VT) (a : Option Addr) (c : Nat) (w : World) (h : TbR w X a c) :
    Calls Try.prog 11 #[.agg (tL X a X.m c).toArray] w fun e w' => e = .returned (.int .i64 (if okTb X then (wtT X X.m : Int) else 0)) ∧ Below w.heap.size w w' := by
  obtain ⟨x0, hx0⟩ : ∃ x, okTb X = x := ⟨_, rfl⟩
  obtain ⟨G, hG⟩ : ∃ G, G = w.heap.size := ⟨_, rfl⟩
  obtain ⟨W, hW⟩ : ∃ W, W = w.alloc (.cells (tL X a X.m c).toArray 29) := ⟨_, rfl⟩
  have HE : Hid (okTb X = x0 ∧ Below w.heap.size w W ∧ Blk W G 29 (tL X a X.m c).toArray ∧ TbR W X a c) := ⟨hx0, by rw [hW]; exact bel_alloc _ _, by rw [hW, hG]; exact Blk.new _ _ _, h.below (by rw [hW]; exact bel_alloc _ _)⟩
  rw [HE.out.1]
  have hm2 := h.2.1
  clear hx0 h
  obtain ⟨⟨y0, y1⟩, yf⟩ := HE.out.2.2.1.tc2
  clear yf
  go_enter Try.func11, Try.ntmps11
  go_upto_region 1 with fail
  rw [← hW, ← hG]
  clear hW hG
  go_wp2_with fail
  refine (implTableOk_any X a c _ HE.out.2.2.2).mono ?_
  rintro e w1 ⟨rfl, b1⟩
  rw [HE.out.1]
  have HB : Hid (Below W.heap.size W w1 ∧ Below w.heap.size w w1) := ⟨b1, bel_nx HE.out.2.1 b1⟩
  clear b1 y0 y1
  cases x0 with
  | false =>
    go_wp2
    go_ret
    exact ⟨rfl, HB.out.2⟩
  | true =>
    have h16 : X.m ≤ 16 := by
      have := HE.out.1
      unfold okTb at this
      simp only [Bool.and_eq_true, decide_eq_true_eq] at this
      exact this.2.1
    obtain ⟨⟨y0, y1⟩, yf⟩ := (HE.out.2.2.1.below HB.out.1).tc2
    clear yf
    go_wp2
    clear y0 y1
    go_loopw [3, 11] (fun s i wr => ∃ k : Nat, k ≤ X.m ∧ i = .int .i64 k ∧ s = .int .i64 (wtT X k : Int) ∧ wtT X k ≤ k * 2000000 ∧ wr = w1) (fun _ i _ => X.m - (intOf i).toNat)
    case atStart => exact ⟨0, Nat.zero_le _, rfl, rfl, Nat.le_refl _, rfl⟩
    case round =>
      obtain ⟨k, hk, rfl, rfl, hle, hw⟩ := hrel
      subst hw
      obtain ⟨s, hs⟩ : ∃ s, s = wtT X k := ⟨_, rfl⟩
      rw [← hs] at hle ⊢
      have HS : Hid (s = wtT X k) := hs
      clear hs
      have hs16 : s ≤ 16 * 2000000 := Nat.le_trans hle (Nat.mul_le_mul_right _ (Nat.le_trans hk h16))
      by_cases hlt : k < X.m
      · have hi : (k : Int) < (X.m : Int) := by omega
        obtain ⟨b, off, rfl, hp, hbd⟩ := (HE.out.2.2.2.below HB.out.1).at hlt
        obtain ⟨⟨y0, y1⟩, yf⟩ := (HE.out.2.2.1.below HB.out.1).tc2
        clear yf
        have HP : Hid (PdAt wr b (off + k * 13) (X.f k) ∧ BdD (X.f k)) := ⟨hp, hbd⟩
        clear hp hbd
        go_wp2_with fail
        refine (waits_any (X.f k) b (off + k * 13) _ HP.out.1 HP.out.2).mono ?_
        rintro e w2 ⟨rfl, hw⟩
        have hw := hw.symm
        subst hw
        obtain ⟨t, ht⟩ : ∃ t, t = cntF (X.f k).hs (X.f k).hs.length := ⟨_, rfl⟩
        rw [← ht]
        have ht2 : t ≤ 2000000 := by rw [ht]; exact Nat.le_trans (cntF_le _ _) HP.out.2.2.2.1
        have HF : Hid (wtT X (k + 1) = s + t ∧ s + t ≤ (k + 1) * 2000000) := ⟨by rw [HS.out, ht]; rfl, by rw [Nat.add_mul]; omega⟩
        clear ht HP y0 y1
        go_wp2
        go_roundw
        case rel => exact ⟨k + 1, by omega, by go_num, by rw [HF.out.1]; go_num, by rw [HF.out.1]; exact HF.out.2, trivial⟩
        case measure => simp [intOf]; omega
      · have hi : ¬ (k : Int) < (X.m : Int) := by omega
        have e9 : k = X.m := by omega
        have HF : Hid (s = wtT X X.m) := by rw [← e9]; exact HS.out
        clear e9
        go_wp2
        go_ret
        exact ⟨by rw [← HF.out]; rfl, HB.out.2⟩
end Go.Proofs.Ytfagbjffhjnmaaa
