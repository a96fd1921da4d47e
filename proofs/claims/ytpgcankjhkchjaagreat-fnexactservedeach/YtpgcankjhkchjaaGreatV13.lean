/- Texts that the proof needs, joined: Sv3. -/
import Derived.Test.YtpgcankjhkchjaaGreatV12
namespace Go.Proofs.YtpgcankjhkchjaaGreat
open Go.RowKit Go.Joins
set_option linter.unusedVariables false
set_option linter.unusedSimpArgs false
theorem run_min_2 {P : Program} {ρ : Operand → Value} {o : Oper} {u : World} {x y : Operand} {ts : Array TypeId} {a b : Int} (ho : o.op = .call { callee := .builtin .min, args := #[x, y], argTypes := ts }) (hx : ρ x = .int .i64 a) (hy : ρ y = .int .i64 b) : (execOp ρ o).run P u = .ok (.value (.int .i64 (min a b))) u := by
  unfold execOp
  simp only [ho, resolve, invoke, builtin, Sem.run_bind, Sem.run_pure, Result.andThen_ok, List.map_toArray, List.map_cons, List.map_nil, hx, hy, Go.Lib.run_min_ints]
theorem run_min_3 {P : Program} {ρ : Operand → Value} {o : Oper} {u : World} {x y z : Operand} {ts : Array TypeId} {a b c : Int} (ho : o.op = .call { callee := .builtin .min, args := #[x, y, z], argTypes := ts }) (hx : ρ x = .int .i64 a) (hy : ρ y = .int .i64 b) (hz : ρ z = .int .i64 c) : (execOp ρ o).run P u = .ok (.value (.int .i64 (min (min a b) c))) u := by
  have e : ∀ (x y : Int), (if y < x then y else x) = min x y := fun x y => by
    rw [Int.min_def]
    split <;> split <;> omega
  unfold execOp
  simp only [ho, resolve, invoke, builtin, Sem.run_bind, Sem.run_pure, Result.andThen_ok, List.map_toArray, List.map_cons, List.map_nil, hx, hy, hz]
  simp [Builtin.min_, Builtin.min2, e]
theorem min2N (a b : Nat) : min (a : Int) (b : Int) = ((min a b : Nat) : Int) := by omega
theorem min3N (a b c : Nat) : min (min (a : Int) (b : Int)) (c : Int) = ((min (min a b) c : Nat) : Int) := by omega
set_option maxRecDepth 20000 in
set_option maxHeartbeats 8000000 in
theorem replyServed_any (X : VW) (D : VR) (G g o : Nat) (w : World) (h : WdAt w G X) (hX : BdW X) (hg : g < w.heap.size) (vs : List Value) (hl : vs.length = 16) (hr : w.rangeAt g o vs) (hd : RdL w 0 (trs (xyT D)) vs) (hb : BdR D) (x : Bool) (hx : rpB X D = x) :
    Calls Tryz.prog 78 #[.pointer (some ⟨G, 0, none⟩), .pointer (some ⟨g, o, none⟩)] w fun e w' => e = .returned (.bool x) ∧ Below w.heap.size w w' := by
  obtain ⟨q1, h1, q2, h2, a3, c3, a5, c5, q5, h5, q6, h6, rfl, z1, z2, r3, r5, z5, z6⟩ := VR.cells hd hl
  have HR : Hid (Rd w 0 (.list 8 D.np (fun i => trs (pT (D.pt i)))) (.slice a3 D.np c3) ∧ Rd w 0 (.list 6 D.nt (fun i => trs (aT (D.tl i)))) (.slice a5 D.nt c5)) := ⟨r3, r5⟩
  have HBD : Hid (D.np ≤ 2000000 ∧ D.nt ≤ 2000000 ∧ (∀ i, i < D.np → BdQ (D.pt i).q) ∧ ∀ i, i < D.nt → BdA (D.tl i)) := hb
  have HD : Hid (g < w.heap.size ∧ w.rangeAt g o ([.int .i64 D.so, .int .i64 D.ta, .int .i64 D.q.kd, .int .i64 D.q.pl, .int .i64 D.q.n, .slice q1 D.q.ws.length h1, .slice q2 D.q.bs.length h2, .int .i64 D.q.wa, .slice a3 D.np c3, .slice a5 D.nt c5, .int .i64 D.a.kd, .int .i64 D.a.fl, .int .i64 D.a.pl, .int .i64 D.a.n, .slice q5 D.a.ws.length h5, .slice q6 D.a.bs.length h6])) := ⟨hg, hr⟩
  have HW0 : Hid (WdAt w G X ∧ BdW X) := ⟨h, hX⟩
  have HX : Hid (allN (fun k => wsB X (D.pt k) (D.tl k)) (min D.np D.nt) = x) := hx
  obtain ⟨mn, hmn⟩ : ∃ m, m = min D.np D.nt := ⟨_, rfl⟩
  have hm9 : mn ≤ D.np ∧ mn ≤ D.nt ∧ mn ≤ 2000000 := by have := HBD.out.1; omega
  have HMN : Hid (mn = min D.np D.nt) := hmn
  rw [← hmn] at HX
  clear z1 z2 r3 r5 z5 z6 h hX hg hl hr hd hb hx hmn
  obtain ⟨hmp, hmt, hmr⟩ := hm9
  go_enter Tryz.func78, Tryz.ntmps78
  go_upto_region 1 with fail
  try go_simp
  refine wp_region_any (by kernel_rfl) ?_
  refine wpAny_vals (fun u => Below w.heap.size w u) (fun i v u => match i with
    | 0 => v = .pointer (some ⟨g, o, none⟩)
    | 1 => v = .pointer (some ⟨g, o, none⟩)
    | 2 => v = .pointer (some ⟨g, o + 8, none⟩)
    | 3 => v = .slice a3 D.np c3
    | 4 => v = .int .i64 (D.np : Int)
    | 5 => v = .pointer (some ⟨g, o, none⟩)
    | 6 => v = .pointer (some ⟨g, o, none⟩)
    | 7 => v = .pointer (some ⟨g, o + 9, none⟩)
    | 8 => v = .slice a5 D.nt c5
    | 9 => v = .int .i64 (D.nt : Int)
    | 10 => v = .int .i64 (min (D.np : Int) (D.nt : Int))
    | 11 => v = .int .i64 0
    | _ => True) (by kernel_rfl) (by kernel_rfl) (fun _ _ _ _ h _ => h) (by first | exact Below.refl _ _ | exact (Below.refl _ _).drew) ?_ ?_ _ _ rfl (by decide) (fun i => by simp [Array.getD]; try (split <;> rfl))
  · intro vs u hR hall
    have e10 : vs 10 = .int .i64 (min (D.np : Int) (D.nt : Int)) := hall 10 (by simp)
    have e11 : vs 11 = .int .i64 0 := hall 11 (by simp)
    simp only [putsL]
    rw [e10, e11]
    clear hall e10 e11
    have HU : Hid (Below w.heap.size w u) := hR
    rw [min2N, ← HMN.out]
    clear hR HMN
    try go_simp
    go_wp2
    go_loopw [17] (fun i wr => ∃ k : Nat, k ≤ mn ∧ i = .int .i64 k ∧ allN (fun k => wsB X (D.pt k) (D.tl k)) k = true ∧ Below w.heap.size w wr) (fun i _ => mn - (intOf i).toNat)
    case atStart => exact ⟨0, Nat.zero_le _, rfl, rfl, HU.out⟩
    case round =>
      clear HU
      obtain ⟨k, hk, rfl, hall, hbl⟩ := hrel
      by_cases hlt : k < mn
      · have hi : (k : Int) < (mn : Int) := by omega
        have hi3 : (k : Int) < (D.np : Int) := by omega
        have hi5 : (k : Int) < (D.nt : Int) := by omega
        obtain ⟨b3, o3, vs, rfl, _, hb3, hl3, hr3, hd3⟩ := (HR.out.1.below hbl).at (k := k) (by omega)
        obtain ⟨b1, d1, b2, d2, rfl, rp1, rp2⟩ := VP.cells hd3 hl3
        clear hl3 hd3
        obtain ⟨b5, o5, vs, rfl, _, hb5, hl5, hr5, hd5⟩ := (HR.out.2.below hbl).at (k := k) (by omega)
        obtain ⟨s1, t1, s2, t2, rfl, rt1, rt2⟩ := VA.cells hd5 hl5
        clear hl5 hd5
        have HP : Hid (b3 < wr.heap.size ∧ wr.rangeAt b3 (o3 + k * 8) (pL (D.pt k) b1 (D.pt k).q.ws.length d1 b2 (D.pt k).q.bs.length d2) ∧ b5 < wr.heap.size ∧ wr.rangeAt b5 (o5 + k * 6) (aL (D.tl k) s1 (D.tl k).ws.length t1 s2 (D.tl k).bs.length t2)) := ⟨hb3, hr3, hb5, hr5⟩
        obtain ⟨y, hy⟩ : ∃ y, wsB X (D.pt k) (D.tl k) = y := ⟨_, rfl⟩
        have HT : Hid (Rd wr 0 (intsT (D.pt k).q.ws) (.slice b1 (D.pt k).q.ws.length d1) ∧ Rd wr 0 (boolsT (D.pt k).q.bs) (.slice b2 (D.pt k).q.bs.length d2) ∧ Rd wr 0 (intsT (D.tl k).ws) (.slice s1 (D.tl k).ws.length t1) ∧ Rd wr 0 (boolsT (D.tl k).bs) (.slice s2 (D.tl k).bs.length t2) ∧ (BdQ (D.pt k).q ∧ BdA (D.tl k)) ∧ wsB X (D.pt k) (D.tl k) = y) := ⟨rp1, rp2, rt1, rt2, ⟨HBD.out.2.2.1 k (by omega), HBD.out.2.2.2 k (by omega)⟩, hy⟩
        have HW : Hid (WdAt w G X ∧ Below w.heap.size w wr ∧ BdW X) := ⟨HW0.out.1, hbl, HW0.out.2⟩
        have HA : Hid (allN (fun k => wsB X (D.pt k) (D.tl k)) k = true) := hall
        clear hall hbl hb3 hr3 hb5 hr5 rp1 rp2 rt1 rt2 hy
        have HD2 : Hid (g < wr.heap.size ∧ wr.rangeAt g o ([.int .i64 D.so, .int .i64 D.ta, .int .i64 D.q.kd, .int .i64 D.q.pl, .int .i64 D.q.n, .slice q1 D.q.ws.length h1, .slice q2 D.q.bs.length h2, .int .i64 D.q.wa, .slice (some ⟨b3, o3, none⟩) D.np c3, .slice (some ⟨b5, o5, none⟩) D.nt c5, .int .i64 D.a.kd, .int .i64 D.a.fl, .int .i64 D.a.pl, .int .i64 D.a.n, .slice q5 D.a.ws.length h5, .slice q6 D.a.bs.length h6])) := ⟨Nat.lt_of_lt_of_le HD.out.1 HW.out.2.1.size, rangeAt_below HD.out.2 HD.out.1 HW.out.2.1⟩
        go_upto_region 4 with fail
        try go_simp
        refine wp_region_any (by kernel_rfl) ?_
        refine wpAny_vals (fun u => Below wr.heap.size wr u) (fun i v u => match i with
         | 0 => v = .pointer (some ⟨G, 0, none⟩)
         | 1 => v = .pointer (some ⟨g, o, none⟩)
         | 2 => v = .pointer (some ⟨g, o, none⟩)
         | 3 => v = .pointer (some ⟨g, o + 8, none⟩)
         | 4 => v = .slice (some ⟨b3, o3, none⟩) D.np c3
         | 5 => v = .int .i64 (k : Int)
         | 6 => v = .pointer (some ⟨b3, o3 + k * 8, none⟩)
         | 7 => v = .agg (pL (D.pt k) b1 (D.pt k).q.ws.length d1 b2 (D.pt k).q.bs.length d2).toArray
         | 8 => v = .pointer (some ⟨g, o, none⟩)
         | 9 => v = .pointer (some ⟨g, o, none⟩)
         | 10 => v = .pointer (some ⟨g, o + 9, none⟩)
         | 11 => v = .slice (some ⟨b5, o5, none⟩) D.nt c5
         | 12 => v = .int .i64 (k : Int)
         | 13 => v = .pointer (some ⟨b5, o5 + k * 6, none⟩)
         | 14 => v = .agg (aL (D.tl k) s1 (D.tl k).ws.length t1 s2 (D.tl k).bs.length t2).toArray
         | 15 => v = .bool y
         | 16 => v = .bool (!y)
         | _ => v = undef) (by kernel_rfl) (by kernel_rfl) (fun _ _ _ _ h _ => h) (by first | exact Below.refl _ _ | exact (Below.refl _ _).drew) ?_ ?_ _ _ rfl (by decide) (fun i => by simp [Array.getD]; try (split <;> rfl))
        · intro vs u hR hall
          simp only [putsL]
          cases y
          · have e16 : vs 16 = .bool true := hall 16 (by simp)
            rw [e16]
            clear hall e16
            have HF : Hid (x = false ∧ Below w.heap.size w u) := ⟨by rw [← HX.out]; exact allN_no hlt (by show wsB X (D.pt k) (D.tl k) = false; exact HT.out.2.2.2.2.2), bel_nx HW.out.2.1 hR⟩
            clear hR HP HT HA HW HD2
            go_simp
            go_wp2
            go_ret
            exact ⟨by rw [HF.out.1]; rfl, HF.out.2⟩
          have e16 : vs 16 = .bool false := hall 16 (by simp)
          rw [e16]
          clear hall e16
          have HF : Hid (allN (fun k => wsB X (D.pt k) (D.tl k)) (k + 1) = true ∧ Below w.heap.size w u) := ⟨allN_succ HA.out (by show wsB X (D.pt k) (D.tl k) = true; exact HT.out.2.2.2.2.2), bel_nx HW.out.2.1 hR⟩
          clear hR HP HT HA HW HD2
          go_simp
          go_wp2
          go_roundw
          case rel => exact ⟨k + 1, by omega, by go_num, HF.out⟩
          case measure => simp [intOf]; omega
        intro u i o ρ hR ho hρ hc hf hd
        have hi : i < 17 := by
          have := (Array.getElem?_eq_some_iff.1 ho).1
          simpa using this
        obtain rfl | rfl | rfl | rfl | rfl | rfl | rfl | rfl | rfl | rfl | rfl | rfl | rfl | rfl | rfl | rfl | rfl : i = 0 ∨ i = 1 ∨ i = 2 ∨ i = 3 ∨ i = 4 ∨ i = 5 ∨ i = 6 ∨ i = 7 ∨ i = 8 ∨ i = 9 ∨ i = 10 ∨ i = 11 ∨ i = 12 ∨ i = 13 ∨ i = 14 ∨ i = 15 ∨ i = 16 := by omega
        all_goals (simp only [List.getElem?_toArray, List.getElem?_cons_zero, List.getElem?_cons_succ, Option.some.injEq] at ho; subst ho)
        · have s0 : ρ (.tmp 0) = .pointer (some ⟨G, 0, none⟩) := (hρ 0 (by kernel_rfl)).trans rfl
          exact .inl ⟨rfl, .inl ⟨_, u, rfl, s0, hR, Below.refl _ _⟩⟩
        · have s1 : ρ (.tmp 1) = .pointer (some ⟨g, o, none⟩) := (hρ 1 (by kernel_rfl)).trans rfl
          exact .inl ⟨rfl, .inl ⟨_, u, rfl, s1, hR, Below.refl _ _⟩⟩
        · have h1 : _ = _ := hd ⟨1, .data⟩ (by simp) rfl 21 rfl
          exact .inl ⟨rfl, .inl ⟨_, u, run_nilz rfl h1, rfl, hR, Below.refl _ _⟩⟩
        · have h2 : _ = _ := hd ⟨2, .data⟩ (by simp) rfl 22 rfl
          exact .inl ⟨rfl, .inl ⟨_, u, run_field_op rfl h2 (by go_simp), rfl, hR, Below.refl _ _⟩⟩
        · have h3 : _ = _ := hd ⟨3, .data⟩ (by simp) rfl 23 rfl
          have y9 : u.cell? ⟨g, o + 8, none⟩ = some (.slice (some ⟨b3, o3, none⟩) D.np c3) := (rangeAt_below HD2.out.2 HD2.out.1 hR) 8 _ rfl
          have hr : (Instr.loadAt 128 (.pointer (some ⟨g, o + 8, none⟩))).run Tryz.prog u = .ok (.slice (some ⟨b3, o3, none⟩) D.np c3) u := by go_simp
          exact .inl ⟨rfl, .inl ⟨_, u, run_load_op rfl h3 hr, rfl, hR, Below.refl _ _⟩⟩
        · have s5 : ρ (.tmp 5) = .int .i64 (k : Int) := (hρ 5 (by kernel_rfl)).trans rfl
          exact .inl ⟨rfl, .inl ⟨_, u, rfl, s5, hR, Below.refl _ _⟩⟩
        · have h4 : _ = _ := hd ⟨4, .data⟩ (by simp) rfl 24 rfl
          have h5 : _ = _ := hd ⟨5, .data⟩ (by simp) rfl 25 rfl
          exact .inl ⟨rfl, .inl ⟨_, u, run_index_op rfl h4 h5 (by go_simp), rfl, hR, Below.refl _ _⟩⟩
        · have h6 : _ = _ := hd ⟨6, .data⟩ (by simp) rfl 26 rfl
          have hr : (Instr.loadAt 134 (.pointer (some ⟨b3, o3 + k * 8, none⟩))).run Tryz.prog u = .ok (.agg (pL (D.pt k) b1 (D.pt k).q.ws.length d1 b2 (D.pt k).q.bs.length d2).toArray) u := run_loadAt_mid u b3 (o3 + k * 8) 134 (pL (D.pt k) b1 (D.pt k).q.ws.length d1 b2 (D.pt k).q.bs.length d2) _ (rangeAt_below HP.out.2.1 HP.out.1 hR) Tryz.underlying134 rfl (by kernel_rfl)
          exact .inl ⟨rfl, .inl ⟨_, u, run_load_op rfl h6 hr, rfl, hR, Below.refl _ _⟩⟩
        · have s1 : ρ (.tmp 1) = .pointer (some ⟨g, o, none⟩) := (hρ 1 (by kernel_rfl)).trans rfl
          exact .inl ⟨rfl, .inl ⟨_, u, rfl, s1, hR, Below.refl _ _⟩⟩
        · have h8 : _ = _ := hd ⟨8, .data⟩ (by simp) rfl 28 rfl
          exact .inl ⟨rfl, .inl ⟨_, u, run_nilz rfl h8, rfl, hR, Below.refl _ _⟩⟩
        · have h9 : _ = _ := hd ⟨9, .data⟩ (by simp) rfl 29 rfl
          exact .inl ⟨rfl, .inl ⟨_, u, run_field_op rfl h9 (by go_simp), rfl, hR, Below.refl _ _⟩⟩
        · have h10 : _ = _ := hd ⟨10, .data⟩ (by simp) rfl 30 rfl
          have y9 : u.cell? ⟨g, o + 9, none⟩ = some (.slice (some ⟨b5, o5, none⟩) D.nt c5) := (rangeAt_below HD2.out.2 HD2.out.1 hR) 9 _ rfl
          have hr : (Instr.loadAt 129 (.pointer (some ⟨g, o + 9, none⟩))).run Tryz.prog u = .ok (.slice (some ⟨b5, o5, none⟩) D.nt c5) u := by go_simp
          exact .inl ⟨rfl, .inl ⟨_, u, run_load_op rfl h10 hr, rfl, hR, Below.refl _ _⟩⟩
        · have s5 : ρ (.tmp 5) = .int .i64 (k : Int) := (hρ 5 (by kernel_rfl)).trans rfl
          exact .inl ⟨rfl, .inl ⟨_, u, rfl, s5, hR, Below.refl _ _⟩⟩
        · have h11 : _ = _ := hd ⟨11, .data⟩ (by simp) rfl 31 rfl
          have h12 : _ = _ := hd ⟨12, .data⟩ (by simp) rfl 32 rfl
          exact .inl ⟨rfl, .inl ⟨_, u, run_index_op rfl h11 h12 (by go_simp), rfl, hR, Below.refl _ _⟩⟩
        · have h13 : _ = _ := hd ⟨13, .data⟩ (by simp) rfl 33 rfl
          have hr : (Instr.loadAt 117 (.pointer (some ⟨b5, o5 + k * 6, none⟩))).run Tryz.prog u = .ok (.agg (aL (D.tl k) s1 (D.tl k).ws.length t1 s2 (D.tl k).bs.length t2).toArray) u := run_loadAt_mid u b5 (o5 + k * 6) 117 (aL (D.tl k) s1 (D.tl k).ws.length t1 s2 (D.tl k).bs.length t2) _ (rangeAt_below HP.out.2.2.2 HP.out.2.2.1 hR) Tryz.underlying117 rfl (by kernel_rfl)
          exact .inl ⟨rfl, .inl ⟨_, u, run_load_op rfl h13 hr, rfl, hR, Below.refl _ _⟩⟩
        · cases y
          · have h0 : _ = _ := hd ⟨0, .data⟩ (by simp) rfl 20 rfl
            have h7 : _ = _ := hd ⟨7, .data⟩ (by simp) rfl 27 rfl
            have h14 : _ = _ := hd ⟨14, .data⟩ (by simp) rfl 34 rfl
            refine .inl ⟨rfl, .inr ⟨_, _, run_call_op rfl (hf _) (args := #[.pointer (some ⟨G, 0, none⟩), .agg (pL (D.pt k) b1 (D.pt k).q.ws.length d1 b2 (D.pt k).q.bs.length d2).toArray, .agg (aL (D.tl k) s1 (D.tl k).ws.length t1 s2 (D.tl k).bs.length t2).toArray]) (by simp [h0, h7, h14]) (by kernel_rfl), ?_⟩⟩
            refine (wasServed_any X (D.pt k) (D.tl k) G b1 d1 b2 d2 s1 t1 s2 t2 _ (HW.out.1.below (bel_nx HW.out.2.1 hR)) ⟨HT.out.1.below hR, HT.out.2.1.below hR, HT.out.2.2.1.below hR, HT.out.2.2.2.1.below hR⟩ HW.out.2.2 HT.out.2.2.2.2.1 false HT.out.2.2.2.2.2).mono ?_
            rintro e u' ⟨he, b'⟩
            exact ⟨_, he.trans rfl, rfl, bel_nx hR b', b'⟩
          have h0 : _ = _ := hd ⟨0, .data⟩ (by simp) rfl 20 rfl
          have h7 : _ = _ := hd ⟨7, .data⟩ (by simp) rfl 27 rfl
          have h14 : _ = _ := hd ⟨14, .data⟩ (by simp) rfl 34 rfl
          refine .inl ⟨rfl, .inr ⟨_, _, run_call_op rfl (hf _) (args := #[.pointer (some ⟨G, 0, none⟩), .agg (pL (D.pt k) b1 (D.pt k).q.ws.length d1 b2 (D.pt k).q.bs.length d2).toArray, .agg (aL (D.tl k) s1 (D.tl k).ws.length t1 s2 (D.tl k).bs.length t2).toArray]) (by simp [h0, h7, h14]) (by kernel_rfl), ?_⟩⟩
          refine (wasServed_any X (D.pt k) (D.tl k) G b1 d1 b2 d2 s1 t1 s2 t2 _ (HW.out.1.below (bel_nx HW.out.2.1 hR)) ⟨HT.out.1.below hR, HT.out.2.1.below hR, HT.out.2.2.1.below hR, HT.out.2.2.2.1.below hR⟩ HW.out.2.2 HT.out.2.2.2.2.1 true HT.out.2.2.2.2.2).mono ?_
          rintro e u' ⟨he, b'⟩
          exact ⟨_, he.trans rfl, rfl, bel_nx hR b', b'⟩
        · have h15 : _ = _ := hd ⟨15, .data⟩ (by simp) rfl 35 rfl
          exact .inl ⟨rfl, .inl ⟨_, u, run_un_op rfl h15 (by go_simp), rfl, hR, Below.refl _ _⟩⟩
      · have hi : ¬ (k : Int) < (mn : Int) := by omega
        have e9 : k = mn := by omega
        have HF : Hid (x = true) := by show x = true; rw [← HX.out, ← e9]; exact hall
        clear hall e9
        go_wp2
        go_ret
        exact ⟨by rw [HF.out]; rfl, hbl⟩
  · intro u i o ρ hR ho hρ hc hf hd
    have hi : i < 12 := by
      have := (Array.getElem?_eq_some_iff.1 ho).1
      simpa using this
    obtain rfl | rfl | rfl | rfl | rfl | rfl | rfl | rfl | rfl | rfl | rfl | rfl : i = 0 ∨ i = 1 ∨ i = 2 ∨ i = 3 ∨ i = 4 ∨ i = 5 ∨ i = 6 ∨ i = 7 ∨ i = 8 ∨ i = 9 ∨ i = 10 ∨ i = 11 := by omega
    all_goals (simp only [List.getElem?_toArray, List.getElem?_cons_zero, List.getElem?_cons_succ, Option.some.injEq] at ho; subst ho)
    · -- 0
      have s1 : ρ (.tmp 1) = .pointer (some ⟨g, o, none⟩) := (hρ 1 (by kernel_rfl)).trans rfl
      exact .inl ⟨rfl, .inl ⟨_, u, rfl, s1, hR, Below.refl _ _⟩⟩
    · -- 1
      have h0 : ρ (.tmp 6) = .pointer (some ⟨g, o, none⟩) := hd ⟨0, .data⟩ (by simp) rfl 6 rfl
      exact .inl ⟨rfl, .inl ⟨.pointer (some ⟨g, o, none⟩), u, run_nilz rfl h0, rfl, hR, Below.refl _ _⟩⟩
    · -- 2
      have h1 : ρ (.tmp 7) = .pointer (some ⟨g, o, none⟩) := hd ⟨1, .data⟩ (by simp) rfl 7 rfl
      exact .inl ⟨rfl, .inl ⟨.pointer (some ⟨g, o + 8, none⟩), u, run_field_op rfl h1 (by go_simp), rfl, hR, Below.refl _ _⟩⟩
    · -- 3
      have h2 : ρ (.tmp 8) = .pointer (some ⟨g, o + 8, none⟩) := hd ⟨2, .data⟩ (by simp) rfl 8 rfl
      have y9 : u.cell? ⟨g, o + 8, none⟩ = some (.slice a3 D.np c3) := (rangeAt_below HD.out.2 HD.out.1 hR) 8 _ rfl
      have hr : (Instr.loadAt 128 (.pointer (some ⟨g, o + 8, none⟩))).run Tryz.prog u = .ok (.slice a3 D.np c3) u := by go_simp
      exact .inl ⟨rfl, .inl ⟨.slice a3 D.np c3, u, run_load_op rfl h2 hr, rfl, hR, Below.refl _ _⟩⟩
    · -- 4
      have h3 : ρ (.tmp 9) = .slice a3 D.np c3 := hd ⟨3, .data⟩ (by simp) rfl 9 rfl
      exact .inl ⟨rfl, .inl ⟨.int .i64 (D.np : Int), u, run_lenz Tryz.underlying128 rfl h3, rfl, hR, Below.refl _ _⟩⟩
    · -- 5
      have s1 : ρ (.tmp 1) = .pointer (some ⟨g, o, none⟩) := (hρ 1 (by kernel_rfl)).trans rfl
      exact .inl ⟨rfl, .inl ⟨_, u, rfl, s1, hR, Below.refl _ _⟩⟩
    · -- 6
      have h5 : ρ (.tmp 11) = .pointer (some ⟨g, o, none⟩) := hd ⟨5, .data⟩ (by simp) rfl 11 rfl
      exact .inl ⟨rfl, .inl ⟨.pointer (some ⟨g, o, none⟩), u, run_nilz rfl h5, rfl, hR, Below.refl _ _⟩⟩
    · -- 7
      have h6 : ρ (.tmp 12) = .pointer (some ⟨g, o, none⟩) := hd ⟨6, .data⟩ (by simp) rfl 12 rfl
      exact .inl ⟨rfl, .inl ⟨.pointer (some ⟨g, o + 9, none⟩), u, run_field_op rfl h6 (by go_simp), rfl, hR, Below.refl _ _⟩⟩
    · -- 8
      have h7 : ρ (.tmp 13) = .pointer (some ⟨g, o + 9, none⟩) := hd ⟨7, .data⟩ (by simp) rfl 13 rfl
      have y9 : u.cell? ⟨g, o + 9, none⟩ = some (.slice a5 D.nt c5) := (rangeAt_below HD.out.2 HD.out.1 hR) 9 _ rfl
      have hr : (Instr.loadAt 129 (.pointer (some ⟨g, o + 9, none⟩))).run Tryz.prog u = .ok (.slice a5 D.nt c5) u := by go_simp
      exact .inl ⟨rfl, .inl ⟨.slice a5 D.nt c5, u, run_load_op rfl h7 hr, rfl, hR, Below.refl _ _⟩⟩
    · -- 9
      have h8 : ρ (.tmp 14) = .slice a5 D.nt c5 := hd ⟨8, .data⟩ (by simp) rfl 14 rfl
      exact .inl ⟨rfl, .inl ⟨.int .i64 (D.nt : Int), u, run_lenz Tryz.underlying129 rfl h8, rfl, hR, Below.refl _ _⟩⟩
    · -- 10
      exact .inl ⟨rfl, .inl ⟨_, u, run_min_2 rfl (hd ⟨4, .data⟩ (by simp) rfl 10 rfl) (hd ⟨9, .data⟩ (by simp) rfl 15 rfl), rfl, hR, Below.refl _ _⟩⟩
    · -- 11
      exact .inl ⟨rfl, .inl ⟨_, u, rfl, hc _, hR, Below.refl _ _⟩⟩
set_option maxRecDepth 20000 in
set_option maxHeartbeats 8000000 in
theorem pendServed_any (X : VW) (D : VD) (G g o : Nat) (w : World) (h : WdAt w G X) (hX : BdW X) (hg : g < w.heap.size) (vs : List Value) (hl : vs.length = 13) (hr : w.rangeAt g o vs) (hd : RdL w 0 (trs (dT D)) vs) (hb : BdD D) (x : Bool) (hx : pdB X D = x) :
    Calls Tryz.prog 79 #[.pointer (some ⟨G, 0, none⟩), .pointer (some ⟨g, o, none⟩)] w fun e w' => e = .returned (.bool x) ∧ Below w.heap.size w w' := by
  obtain ⟨q1, h1, q2, h2, a3, c3, a4, c4, a5, c5, rfl, z1, z2, r3, r4, r5⟩ := VD.cells hd hl
  have HR : Hid (Rd w 0 (.list 8 D.np (fun i => trs (pT (D.pt i)))) (.slice a3 D.np c3) ∧ Rd w 0 (.list 6 D.nt (fun i => trs (aT (D.tl i)))) (.slice a5 D.nt c5) ∧ Rd w 0 (boolsT D.hs) (.slice a4 D.hs.length c4)) := ⟨r3, r5, r4⟩
  have HBD : Hid (D.np ≤ 2000000 ∧ D.nt ≤ 2000000 ∧ (∀ i, i < D.np → BdQ (D.pt i).q) ∧ ∀ i, i < D.nt → BdA (D.tl i)) := ⟨hb.2.1, hb.2.2.2.1, hb.2.2.2.2.1, hb.2.2.2.2.2⟩
  have HD : Hid (g < w.heap.size ∧ w.rangeAt g o ([.int .i64 D.id, .int .i64 D.so, .int .i64 D.ta, .int .i64 D.un, .int .i64 D.q.kd, .int .i64 D.q.pl, .int .i64 D.q.n, .slice q1 D.q.ws.length h1, .slice q2 D.q.bs.length h2, .int .i64 D.q.wa, .slice a3 D.np c3, .slice a4 D.hs.length c4, .slice a5 D.nt c5])) := ⟨hg, hr⟩
  have HW0 : Hid (WdAt w G X ∧ BdW X) := ⟨h, hX⟩
  have HX : Hid (allN (fun k => (!(D.hs.getD k false) || wsB X (D.pt k) (D.tl k))) (min (min D.np D.nt) D.hs.length) = x) := hx
  obtain ⟨mn, hmn⟩ : ∃ m, m = min (min D.np D.nt) D.hs.length := ⟨_, rfl⟩
  have hm9 : mn ≤ D.np ∧ mn ≤ D.nt ∧ mn ≤ D.hs.length ∧ mn ≤ 2000000 := by have := HBD.out.1; omega
  have HMN : Hid (mn = min (min D.np D.nt) D.hs.length) := hmn
  rw [← hmn] at HX
  clear z1 z2 r3 r4 r5 h hX hg hl hr hd hb hx hmn
  obtain ⟨hmp, hmt, hmr⟩ := hm9
  go_enter Tryz.func79, Tryz.ntmps79
  go_upto_region 1 with fail
  try go_simp
  refine wp_region_any (by kernel_rfl) ?_
  refine wpAny_vals (fun u => Below w.heap.size w u) (fun i v u => match i with
    | 0 => v = .pointer (some ⟨g, o, none⟩)
    | 1 => v = .pointer (some ⟨g, o, none⟩)
    | 2 => v = .pointer (some ⟨g, o + 10, none⟩)
    | 3 => v = .slice a3 D.np c3
    | 4 => v = .int .i64 (D.np : Int)
    | 5 => v = .pointer (some ⟨g, o, none⟩)
    | 6 => v = .pointer (some ⟨g, o, none⟩)
    | 7 => v = .pointer (some ⟨g, o + 12, none⟩)
    | 8 => v = .slice a5 D.nt c5
    | 9 => v = .int .i64 (D.nt : Int)
    | 10 => v = .pointer (some ⟨g, o, none⟩)
    | 11 => v = .pointer (some ⟨g, o, none⟩)
    | 12 => v = .pointer (some ⟨g, o + 11, none⟩)
    | 13 => v = .slice a4 D.hs.length c4
    | 14 => v = .int .i64 (D.hs.length : Int)
    | 15 => v = .int .i64 (min (min (D.np : Int) (D.nt : Int)) (D.hs.length : Int))
    | 16 => v = .int .i64 0
    | _ => True) (by kernel_rfl) (by kernel_rfl) (fun _ _ _ _ h _ => h) (by first | exact Below.refl _ _ | exact (Below.refl _ _).drew) ?_ ?_ _ _ rfl (by decide) (fun i => by simp [Array.getD]; try (split <;> rfl))
  · intro vs u hR hall
    have e15 : vs 15 = .int .i64 (min (min (D.np : Int) (D.nt : Int)) (D.hs.length : Int)) := hall 15 (by simp)
    have e16 : vs 16 = .int .i64 0 := hall 16 (by simp)
    simp only [putsL]
    rw [e15, e16]
    clear hall e15 e16
    have HU : Hid (Below w.heap.size w u) := hR
    rw [min3N, ← HMN.out]
    clear hR HMN
    try go_simp
    go_wp2
    go_loopw [22] (fun i wr => ∃ k : Nat, k ≤ mn ∧ i = .int .i64 k ∧ allN (fun k => (!(D.hs.getD k false) || wsB X (D.pt k) (D.tl k))) k = true ∧ Below w.heap.size w wr) (fun i _ => mn - (intOf i).toNat)
    case atStart => exact ⟨0, Nat.zero_le _, rfl, rfl, HU.out⟩
    case round =>
      clear HU
      obtain ⟨k, hk, rfl, hall, hbl⟩ := hrel
      by_cases hlt : k < mn
      · have hi : (k : Int) < (mn : Int) := by omega
        have hi3 : (k : Int) < (D.np : Int) := by omega
        have hi5 : (k : Int) < (D.nt : Int) := by omega
        have hmh : mn ≤ D.hs.length := hmr.1
        have hi4 : (k : Int) < (D.hs.length : Int) := by omega
        obtain ⟨b4, o4, rfl, hb4, d0⟩ := (HR.out.2.2.below hbl).bit (n := 0) (k := k) (by omega)
        obtain ⟨hs, hhs⟩ : ∃ b, D.hs.getD k false = b := ⟨_, rfl⟩
        rw [hhs] at d0
        have HH : Hid (b4 < wr.heap.size ∧ wr.rangeAt b4 (o4 + k) [.bool hs]) := ⟨hb4, fun i v hv => by
      match i, hv with
      | 0, hv =>
        obtain rfl := Option.some.inj hv
        exact d0
      | i + 1, hv => simp at hv⟩
        clear d0 hb4
        obtain ⟨b3, o3, vs, rfl, _, hb3, hl3, hr3, hd3⟩ := (HR.out.1.below hbl).at (k := k) (by omega)
        obtain ⟨b1, d1, b2, d2, rfl, rp1, rp2⟩ := VP.cells hd3 hl3
        clear hl3 hd3
        obtain ⟨b5, o5, vs, rfl, _, hb5, hl5, hr5, hd5⟩ := (HR.out.2.1.below hbl).at (k := k) (by omega)
        obtain ⟨s1, t1, s2, t2, rfl, rt1, rt2⟩ := VA.cells hd5 hl5
        clear hl5 hd5
        have HP : Hid (b3 < wr.heap.size ∧ wr.rangeAt b3 (o3 + k * 8) (pL (D.pt k) b1 (D.pt k).q.ws.length d1 b2 (D.pt k).q.bs.length d2) ∧ b5 < wr.heap.size ∧ wr.rangeAt b5 (o5 + k * 6) (aL (D.tl k) s1 (D.tl k).ws.length t1 s2 (D.tl k).bs.length t2)) := ⟨hb3, hr3, hb5, hr5⟩
        obtain ⟨y, hy⟩ : ∃ y, wsB X (D.pt k) (D.tl k) = y := ⟨_, rfl⟩
        have HT : Hid (Rd wr 0 (intsT (D.pt k).q.ws) (.slice b1 (D.pt k).q.ws.length d1) ∧ Rd wr 0 (boolsT (D.pt k).q.bs) (.slice b2 (D.pt k).q.bs.length d2) ∧ Rd wr 0 (intsT (D.tl k).ws) (.slice s1 (D.tl k).ws.length t1) ∧ Rd wr 0 (boolsT (D.tl k).bs) (.slice s2 (D.tl k).bs.length t2) ∧ (BdQ (D.pt k).q ∧ BdA (D.tl k)) ∧ wsB X (D.pt k) (D.tl k) = y) := ⟨rp1, rp2, rt1, rt2, ⟨HBD.out.2.2.1 k (by omega), HBD.out.2.2.2 k (by omega)⟩, hy⟩
        have HW : Hid (WdAt w G X ∧ Below w.heap.size w wr ∧ BdW X) := ⟨HW0.out.1, hbl, HW0.out.2⟩
        have HA : Hid (allN (fun k => (!(D.hs.getD k false) || wsB X (D.pt k) (D.tl k))) k = true) := hall
        have HHS : Hid (D.hs.getD k false = hs) := hhs
        clear hhs
        clear hall hbl hb3 hr3 hb5 hr5 rp1 rp2 rt1 rt2 hy
        have HD2 : Hid (g < wr.heap.size ∧ wr.rangeAt g o ([.int .i64 D.id, .int .i64 D.so, .int .i64 D.ta, .int .i64 D.un, .int .i64 D.q.kd, .int .i64 D.q.pl, .int .i64 D.q.n, .slice q1 D.q.ws.length h1, .slice q2 D.q.bs.length h2, .int .i64 D.q.wa, .slice (some ⟨b3, o3, none⟩) D.np c3, .slice (some ⟨b4, o4, none⟩) D.hs.length c4, .slice (some ⟨b5, o5, none⟩) D.nt c5])) := ⟨Nat.lt_of_lt_of_le HD.out.1 HW.out.2.1.size, rangeAt_below HD.out.2 HD.out.1 HW.out.2.1⟩
        go_upto_region 4 with fail
        try go_simp
        refine wp_region_any (by kernel_rfl) ?_
        refine wpAny_vals (fun u => Below wr.heap.size wr u) (fun i v u => match i with
         | 0 => v = .pointer (some ⟨g, o, none⟩)
         | 1 => v = .pointer (some ⟨g, o, none⟩)
         | 2 => v = .pointer (some ⟨g, o + 11, none⟩)
         | 3 => v = .slice (some ⟨b4, o4, none⟩) D.hs.length c4
         | 4 => v = .int .i64 (k : Int)
         | 5 => v = .pointer (some ⟨b4, o4 + k, none⟩)
         | 6 => v = .bool hs
         | 7 => v = .bool hs
         | 8 => v = cond hs (.pointer (some ⟨G, 0, none⟩)) undef
         | 9 => v = cond hs (.pointer (some ⟨g, o, none⟩)) undef
         | 10 => v = cond hs (.pointer (some ⟨g, o, none⟩)) undef
         | 11 => v = cond hs (.pointer (some ⟨g, o + 10, none⟩)) undef
         | 12 => v = cond hs (.slice (some ⟨b3, o3, none⟩) D.np c3) undef
         | 13 => v = cond hs (.int .i64 (k : Int)) undef
         | 14 => v = cond hs (.pointer (some ⟨b3, o3 + k * 8, none⟩)) undef
         | 15 => v = cond hs (.agg (pL (D.pt k) b1 (D.pt k).q.ws.length d1 b2 (D.pt k).q.bs.length d2).toArray) undef
         | 16 => v = cond hs (.pointer (some ⟨g, o, none⟩)) undef
         | 17 => v = cond hs (.pointer (some ⟨g, o, none⟩)) undef
         | 18 => v = cond hs (.pointer (some ⟨g, o + 12, none⟩)) undef
         | 19 => v = cond hs (.slice (some ⟨b5, o5, none⟩) D.nt c5) undef
         | 20 => v = cond hs (.int .i64 (k : Int)) undef
         | 21 => v = cond hs (.pointer (some ⟨b5, o5 + k * 6, none⟩)) undef
         | 22 => v = cond hs (.agg (aL (D.tl k) s1 (D.tl k).ws.length t1 s2 (D.tl k).bs.length t2).toArray) undef
         | 23 => v = cond hs (.bool y) undef
         | 24 => v = cond hs (.bool (!y)) undef
         | 25 => v = cond hs (.bool (!y)) (.bool false)
         | _ => v = undef) (by kernel_rfl) (by kernel_rfl) (fun _ _ _ _ h _ => h) (by first | exact Below.refl _ _ | exact (Below.refl _ _).drew) ?_ ?_ _ _ rfl (by decide) (fun i => by simp [Array.getD]; try (split <;> rfl))
        · intro vs u hR hall
          simp only [putsL]
          cases hs
          · have e25 : vs 25 = .bool false := hall 25 (by simp)
            rw [e25]
            clear hall e25
            have HF : Hid (allN (fun k => (!(D.hs.getD k false) || wsB X (D.pt k) (D.tl k))) (k + 1) = true ∧ Below w.heap.size w u) := ⟨allN_succ HA.out (by show (!(D.hs.getD k false) || wsB X (D.pt k) (D.tl k)) = true; rw [HHS.out]; rfl), bel_nx HW.out.2.1 hR⟩
            clear hR HP HT HA HW HD2
            go_simp
            go_wp2
            go_roundw
            case rel => exact ⟨k + 1, by omega, by go_num, HF.out⟩
            case measure => simp [intOf]; omega
          cases y
          · have e25 : vs 25 = .bool true := hall 25 (by simp)
            rw [e25]
            clear hall e25
            have HF : Hid (x = false ∧ Below w.heap.size w u) := ⟨by rw [← HX.out]; exact allN_no hlt (by show (!(D.hs.getD k false) || wsB X (D.pt k) (D.tl k)) = false; rw [HHS.out, HT.out.2.2.2.2.2]; rfl), bel_nx HW.out.2.1 hR⟩
            clear hR HP HT HA HW HD2
            go_simp
            go_wp2
            go_ret
            exact ⟨by rw [HF.out.1]; rfl, HF.out.2⟩
          have e25 : vs 25 = .bool false := hall 25 (by simp)
          rw [e25]
          clear hall e25
          have HF : Hid (allN (fun k => (!(D.hs.getD k false) || wsB X (D.pt k) (D.tl k))) (k + 1) = true ∧ Below w.heap.size w u) := ⟨allN_succ HA.out (by show (!(D.hs.getD k false) || wsB X (D.pt k) (D.tl k)) = true; rw [HHS.out, HT.out.2.2.2.2.2]; rfl), bel_nx HW.out.2.1 hR⟩
          clear hR HP HT HA HW HD2
          go_simp
          go_wp2
          go_roundw
          case rel => exact ⟨k + 1, by omega, by go_num, HF.out⟩
          case measure => simp [intOf]; omega
        intro u i o ρ hR ho hρ hc hf hd
        have hi : i < 26 := by
          have := (Array.getElem?_eq_some_iff.1 ho).1
          simpa using this
        obtain rfl | rfl | rfl | rfl | rfl | rfl | rfl | rfl | rfl | rfl | rfl | rfl | rfl | rfl | rfl | rfl | rfl | rfl | rfl | rfl | rfl | rfl | rfl | rfl | rfl | rfl : i = 0 ∨ i = 1 ∨ i = 2 ∨ i = 3 ∨ i = 4 ∨ i = 5 ∨ i = 6 ∨ i = 7 ∨ i = 8 ∨ i = 9 ∨ i = 10 ∨ i = 11 ∨ i = 12 ∨ i = 13 ∨ i = 14 ∨ i = 15 ∨ i = 16 ∨ i = 17 ∨ i = 18 ∨ i = 19 ∨ i = 20 ∨ i = 21 ∨ i = 22 ∨ i = 23 ∨ i = 24 ∨ i = 25 := by omega
        all_goals (simp only [List.getElem?_toArray, List.getElem?_cons_zero, List.getElem?_cons_succ, Option.some.injEq] at ho; subst ho)
        · have s1 : ρ (.tmp 1) = .pointer (some ⟨g, o, none⟩) := (hρ 1 (by kernel_rfl)).trans rfl
          exact .inl ⟨rfl, .inl ⟨_, u, rfl, s1, hR, Below.refl _ _⟩⟩
        · have h0 : _ = _ := hd ⟨0, .data⟩ (by simp) rfl 25 rfl
          exact .inl ⟨rfl, .inl ⟨_, u, run_nilz rfl h0, rfl, hR, Below.refl _ _⟩⟩
        · have h1 : _ = _ := hd ⟨1, .data⟩ (by simp) rfl 26 rfl
          exact .inl ⟨rfl, .inl ⟨_, u, run_field_op rfl h1 (by go_simp), rfl, hR, Below.refl _ _⟩⟩
        · have h2 : _ = _ := hd ⟨2, .data⟩ (by simp) rfl 27 rfl
          have y9 : u.cell? ⟨g, o + 11, none⟩ = some (.slice (some ⟨b4, o4, none⟩) D.hs.length c4) := (rangeAt_below HD2.out.2 HD2.out.1 hR) 11 _ rfl
          have hr : (Instr.loadAt 81 (.pointer (some ⟨g, o + 11, none⟩))).run Tryz.prog u = .ok (.slice (some ⟨b4, o4, none⟩) D.hs.length c4) u := by go_simp
          exact .inl ⟨rfl, .inl ⟨_, u, run_load_op rfl h2 hr, rfl, hR, Below.refl _ _⟩⟩
        · have s5 : ρ (.tmp 5) = .int .i64 (k : Int) := (hρ 5 (by kernel_rfl)).trans rfl
          exact .inl ⟨rfl, .inl ⟨_, u, rfl, s5, hR, Below.refl _ _⟩⟩
        · have h3 : _ = _ := hd ⟨3, .data⟩ (by simp) rfl 28 rfl
          have h4 : _ = _ := hd ⟨4, .data⟩ (by simp) rfl 29 rfl
          exact .inl ⟨rfl, .inl ⟨_, u, run_index_op rfl h3 h4 (by go_simp), rfl, hR, Below.refl _ _⟩⟩
        · cases hs
          · have h5 : _ = _ := hd ⟨5, .data⟩ (by simp) rfl 30 rfl
            have y9 : u.cell? ⟨b4, o4 + k, none⟩ = some (.bool false) := (rangeAt_below HH.out.2 HH.out.1 hR) 0 _ rfl
            have hr : (Instr.loadAt 4 (.pointer (some ⟨b4, o4 + k, none⟩))).run Tryz.prog u = .ok (.bool false) u := by go_simp
            exact .inl ⟨rfl, .inl ⟨_, u, run_load_op rfl h5 hr, rfl, hR, Below.refl _ _⟩⟩
          have h5 : _ = _ := hd ⟨5, .data⟩ (by simp) rfl 30 rfl
          have y9 : u.cell? ⟨b4, o4 + k, none⟩ = some (.bool true) := (rangeAt_below HH.out.2 HH.out.1 hR) 0 _ rfl
          have hr : (Instr.loadAt 4 (.pointer (some ⟨b4, o4 + k, none⟩))).run Tryz.prog u = .ok (.bool true) u := by go_simp
          exact .inl ⟨rfl, .inl ⟨_, u, run_load_op rfl h5 hr, rfl, hR, Below.refl _ _⟩⟩
        · have h6 : _ = _ := hd ⟨6, .data⟩ (by simp) rfl 31 rfl
          exact .inl ⟨rfl, .inl ⟨_, u, rfl, h6, hR, Below.refl _ _⟩⟩
        · cases hs
          · exact .inr ⟨nog (x := .bool false) rfl rfl (hd ⟨7, .guard⟩ (by simp) rfl 32 rfl) rfl, rfl⟩
          have g7 : ρ (.tmp 32) = .bool true := hd ⟨7, .guard⟩ (by simp) rfl 32 rfl
          have s0 : ρ (.tmp 0) = .pointer (some ⟨G, 0, none⟩) := (hρ 0 (by kernel_rfl)).trans rfl
          exact .inl ⟨(by show (match ρ (.tmp 32) with | .bool b => b == true | _ => false) = true; rw [g7]; rfl), .inl ⟨_, u, rfl, s0, hR, Below.refl _ _⟩⟩
        · cases hs
          · exact .inr ⟨nog (x := .bool false) rfl rfl (hd ⟨7, .guard⟩ (by simp) rfl 32 rfl) rfl, rfl⟩
          have g7 : ρ (.tmp 32) = .bool true := hd ⟨7, .guard⟩ (by simp) rfl 32 rfl
          have s1 : ρ (.tmp 1) = .pointer (some ⟨g, o, none⟩) := (hρ 1 (by kernel_rfl)).trans rfl
          exact .inl ⟨(by show (match ρ (.tmp 32) with | .bool b => b == true | _ => false) = true; rw [g7]; rfl), .inl ⟨_, u, rfl, s1, hR, Below.refl _ _⟩⟩
        · cases hs
          · exact .inr ⟨nog (x := .bool false) rfl rfl (hd ⟨7, .guard⟩ (by simp) rfl 32 rfl) rfl, rfl⟩
          have g7 : ρ (.tmp 32) = .bool true := hd ⟨7, .guard⟩ (by simp) rfl 32 rfl
          have h9 : _ = _ := hd ⟨9, .data⟩ (by simp) rfl 34 rfl
          exact .inl ⟨(by show (match ρ (.tmp 32) with | .bool b => b == true | _ => false) = true; rw [g7]; rfl), .inl ⟨_, u, run_nilz rfl h9, rfl, hR, Below.refl _ _⟩⟩
        · cases hs
          · exact .inr ⟨nog (x := .bool false) rfl rfl (hd ⟨7, .guard⟩ (by simp) rfl 32 rfl) rfl, rfl⟩
          have g7 : ρ (.tmp 32) = .bool true := hd ⟨7, .guard⟩ (by simp) rfl 32 rfl
          have h10 : _ = _ := hd ⟨10, .data⟩ (by simp) rfl 35 rfl
          exact .inl ⟨(by show (match ρ (.tmp 32) with | .bool b => b == true | _ => false) = true; rw [g7]; rfl), .inl ⟨_, u, run_field_op rfl h10 (by go_simp), rfl, hR, Below.refl _ _⟩⟩
        · cases hs
          · exact .inr ⟨nog (x := .bool false) rfl rfl (hd ⟨7, .guard⟩ (by simp) rfl 32 rfl) rfl, rfl⟩
          have g7 : ρ (.tmp 32) = .bool true := hd ⟨7, .guard⟩ (by simp) rfl 32 rfl
          have h11 : _ = _ := hd ⟨11, .data⟩ (by simp) rfl 36 rfl
          have y9 : u.cell? ⟨g, o + 10, none⟩ = some (.slice (some ⟨b3, o3, none⟩) D.np c3) := (rangeAt_below HD2.out.2 HD2.out.1 hR) 10 _ rfl
          have hr : (Instr.loadAt 128 (.pointer (some ⟨g, o + 10, none⟩))).run Tryz.prog u = .ok (.slice (some ⟨b3, o3, none⟩) D.np c3) u := by go_simp
          exact .inl ⟨(by show (match ρ (.tmp 32) with | .bool b => b == true | _ => false) = true; rw [g7]; rfl), .inl ⟨_, u, run_load_op rfl h11 hr, rfl, hR, Below.refl _ _⟩⟩
        · cases hs
          · exact .inr ⟨nog (x := .bool false) rfl rfl (hd ⟨7, .guard⟩ (by simp) rfl 32 rfl) rfl, rfl⟩
          have g7 : ρ (.tmp 32) = .bool true := hd ⟨7, .guard⟩ (by simp) rfl 32 rfl
          have s5 : ρ (.tmp 5) = .int .i64 (k : Int) := (hρ 5 (by kernel_rfl)).trans rfl
          exact .inl ⟨(by show (match ρ (.tmp 32) with | .bool b => b == true | _ => false) = true; rw [g7]; rfl), .inl ⟨_, u, rfl, s5, hR, Below.refl _ _⟩⟩
        · cases hs
          · exact .inr ⟨nog (x := .bool false) rfl rfl (hd ⟨7, .guard⟩ (by simp) rfl 32 rfl) rfl, rfl⟩
          have g7 : ρ (.tmp 32) = .bool true := hd ⟨7, .guard⟩ (by simp) rfl 32 rfl
          have h12 : _ = _ := hd ⟨12, .data⟩ (by simp) rfl 37 rfl
          have h13 : _ = _ := hd ⟨13, .data⟩ (by simp) rfl 38 rfl
          exact .inl ⟨(by show (match ρ (.tmp 32) with | .bool b => b == true | _ => false) = true; rw [g7]; rfl), .inl ⟨_, u, run_index_op rfl h12 h13 (by go_simp), rfl, hR, Below.refl _ _⟩⟩
        · cases hs
          · exact .inr ⟨nog (x := .bool false) rfl rfl (hd ⟨7, .guard⟩ (by simp) rfl 32 rfl) rfl, rfl⟩
          have g7 : ρ (.tmp 32) = .bool true := hd ⟨7, .guard⟩ (by simp) rfl 32 rfl
          have h14 : _ = _ := hd ⟨14, .data⟩ (by simp) rfl 39 rfl
          have hr : (Instr.loadAt 134 (.pointer (some ⟨b3, o3 + k * 8, none⟩))).run Tryz.prog u = .ok (.agg (pL (D.pt k) b1 (D.pt k).q.ws.length d1 b2 (D.pt k).q.bs.length d2).toArray) u := run_loadAt_mid u b3 (o3 + k * 8) 134 (pL (D.pt k) b1 (D.pt k).q.ws.length d1 b2 (D.pt k).q.bs.length d2) _ (rangeAt_below HP.out.2.1 HP.out.1 hR) Tryz.underlying134 rfl (by kernel_rfl)
          exact .inl ⟨(by show (match ρ (.tmp 32) with | .bool b => b == true | _ => false) = true; rw [g7]; rfl), .inl ⟨_, u, run_load_op rfl h14 hr, rfl, hR, Below.refl _ _⟩⟩
        · cases hs
          · exact .inr ⟨nog (x := .bool false) rfl rfl (hd ⟨7, .guard⟩ (by simp) rfl 32 rfl) rfl, rfl⟩
          have g7 : ρ (.tmp 32) = .bool true := hd ⟨7, .guard⟩ (by simp) rfl 32 rfl
          have s1 : ρ (.tmp 1) = .pointer (some ⟨g, o, none⟩) := (hρ 1 (by kernel_rfl)).trans rfl
          exact .inl ⟨(by show (match ρ (.tmp 32) with | .bool b => b == true | _ => false) = true; rw [g7]; rfl), .inl ⟨_, u, rfl, s1, hR, Below.refl _ _⟩⟩
        · cases hs
          · exact .inr ⟨nog (x := .bool false) rfl rfl (hd ⟨7, .guard⟩ (by simp) rfl 32 rfl) rfl, rfl⟩
          have g7 : ρ (.tmp 32) = .bool true := hd ⟨7, .guard⟩ (by simp) rfl 32 rfl
          have h16 : _ = _ := hd ⟨16, .data⟩ (by simp) rfl 41 rfl
          exact .inl ⟨(by show (match ρ (.tmp 32) with | .bool b => b == true | _ => false) = true; rw [g7]; rfl), .inl ⟨_, u, run_nilz rfl h16, rfl, hR, Below.refl _ _⟩⟩
        · cases hs
          · exact .inr ⟨nog (x := .bool false) rfl rfl (hd ⟨7, .guard⟩ (by simp) rfl 32 rfl) rfl, rfl⟩
          have g7 : ρ (.tmp 32) = .bool true := hd ⟨7, .guard⟩ (by simp) rfl 32 rfl
          have h17 : _ = _ := hd ⟨17, .data⟩ (by simp) rfl 42 rfl
          exact .inl ⟨(by show (match ρ (.tmp 32) with | .bool b => b == true | _ => false) = true; rw [g7]; rfl), .inl ⟨_, u, run_field_op rfl h17 (by go_simp), rfl, hR, Below.refl _ _⟩⟩
        · cases hs
          · exact .inr ⟨nog (x := .bool false) rfl rfl (hd ⟨7, .guard⟩ (by simp) rfl 32 rfl) rfl, rfl⟩
          have g7 : ρ (.tmp 32) = .bool true := hd ⟨7, .guard⟩ (by simp) rfl 32 rfl
          have h18 : _ = _ := hd ⟨18, .data⟩ (by simp) rfl 43 rfl
          have y9 : u.cell? ⟨g, o + 12, none⟩ = some (.slice (some ⟨b5, o5, none⟩) D.nt c5) := (rangeAt_below HD2.out.2 HD2.out.1 hR) 12 _ rfl
          have hr : (Instr.loadAt 129 (.pointer (some ⟨g, o + 12, none⟩))).run Tryz.prog u = .ok (.slice (some ⟨b5, o5, none⟩) D.nt c5) u := by go_simp
          exact .inl ⟨(by show (match ρ (.tmp 32) with | .bool b => b == true | _ => false) = true; rw [g7]; rfl), .inl ⟨_, u, run_load_op rfl h18 hr, rfl, hR, Below.refl _ _⟩⟩
        · cases hs
          · exact .inr ⟨nog (x := .bool false) rfl rfl (hd ⟨7, .guard⟩ (by simp) rfl 32 rfl) rfl, rfl⟩
          have g7 : ρ (.tmp 32) = .bool true := hd ⟨7, .guard⟩ (by simp) rfl 32 rfl
          have s5 : ρ (.tmp 5) = .int .i64 (k : Int) := (hρ 5 (by kernel_rfl)).trans rfl
          exact .inl ⟨(by show (match ρ (.tmp 32) with | .bool b => b == true | _ => false) = true; rw [g7]; rfl), .inl ⟨_, u, rfl, s5, hR, Below.refl _ _⟩⟩
        · cases hs
          · exact .inr ⟨nog (x := .bool false) rfl rfl (hd ⟨7, .guard⟩ (by simp) rfl 32 rfl) rfl, rfl⟩
          have g7 : ρ (.tmp 32) = .bool true := hd ⟨7, .guard⟩ (by simp) rfl 32 rfl
          have h19 : _ = _ := hd ⟨19, .data⟩ (by simp) rfl 44 rfl
          have h20 : _ = _ := hd ⟨20, .data⟩ (by simp) rfl 45 rfl
          exact .inl ⟨(by show (match ρ (.tmp 32) with | .bool b => b == true | _ => false) = true; rw [g7]; rfl), .inl ⟨_, u, run_index_op rfl h19 h20 (by go_simp), rfl, hR, Below.refl _ _⟩⟩
        · cases hs
          · exact .inr ⟨nog (x := .bool false) rfl rfl (hd ⟨7, .guard⟩ (by simp) rfl 32 rfl) rfl, rfl⟩
          have g7 : ρ (.tmp 32) = .bool true := hd ⟨7, .guard⟩ (by simp) rfl 32 rfl
          have h21 : _ = _ := hd ⟨21, .data⟩ (by simp) rfl 46 rfl
          have hr : (Instr.loadAt 117 (.pointer (some ⟨b5, o5 + k * 6, none⟩))).run Tryz.prog u = .ok (.agg (aL (D.tl k) s1 (D.tl k).ws.length t1 s2 (D.tl k).bs.length t2).toArray) u := run_loadAt_mid u b5 (o5 + k * 6) 117 (aL (D.tl k) s1 (D.tl k).ws.length t1 s2 (D.tl k).bs.length t2) _ (rangeAt_below HP.out.2.2.2 HP.out.2.2.1 hR) Tryz.underlying117 rfl (by kernel_rfl)
          exact .inl ⟨(by show (match ρ (.tmp 32) with | .bool b => b == true | _ => false) = true; rw [g7]; rfl), .inl ⟨_, u, run_load_op rfl h21 hr, rfl, hR, Below.refl _ _⟩⟩
        · cases hs
          · exact .inr ⟨nog (x := .bool false) rfl rfl (hd ⟨7, .guard⟩ (by simp) rfl 32 rfl) rfl, rfl⟩
          cases y
          · have g7 : ρ (.tmp 32) = .bool true := hd ⟨7, .guard⟩ (by simp) rfl 32 rfl
            have h8 : _ = _ := hd ⟨8, .data⟩ (by simp) rfl 33 rfl
            have h15 : _ = _ := hd ⟨15, .data⟩ (by simp) rfl 40 rfl
            have h22 : _ = _ := hd ⟨22, .data⟩ (by simp) rfl 47 rfl
            refine .inl ⟨(by show (match ρ (.tmp 32) with | .bool b => b == true | _ => false) = true; rw [g7]; rfl), .inr ⟨_, _, run_call_op rfl (hf _) (args := #[.pointer (some ⟨G, 0, none⟩), .agg (pL (D.pt k) b1 (D.pt k).q.ws.length d1 b2 (D.pt k).q.bs.length d2).toArray, .agg (aL (D.tl k) s1 (D.tl k).ws.length t1 s2 (D.tl k).bs.length t2).toArray]) (by simp [h8, h15, h22]) (by kernel_rfl), ?_⟩⟩
            refine (wasServed_any X (D.pt k) (D.tl k) G b1 d1 b2 d2 s1 t1 s2 t2 _ (HW.out.1.below (bel_nx HW.out.2.1 hR)) ⟨HT.out.1.below hR, HT.out.2.1.below hR, HT.out.2.2.1.below hR, HT.out.2.2.2.1.below hR⟩ HW.out.2.2 HT.out.2.2.2.2.1 false HT.out.2.2.2.2.2).mono ?_
            rintro e u' ⟨he, b'⟩
            exact ⟨_, he.trans rfl, rfl, bel_nx hR b', b'⟩
          have g7 : ρ (.tmp 32) = .bool true := hd ⟨7, .guard⟩ (by simp) rfl 32 rfl
          have h8 : _ = _ := hd ⟨8, .data⟩ (by simp) rfl 33 rfl
          have h15 : _ = _ := hd ⟨15, .data⟩ (by simp) rfl 40 rfl
          have h22 : _ = _ := hd ⟨22, .data⟩ (by simp) rfl 47 rfl
          refine .inl ⟨(by show (match ρ (.tmp 32) with | .bool b => b == true | _ => false) = true; rw [g7]; rfl), .inr ⟨_, _, run_call_op rfl (hf _) (args := #[.pointer (some ⟨G, 0, none⟩), .agg (pL (D.pt k) b1 (D.pt k).q.ws.length d1 b2 (D.pt k).q.bs.length d2).toArray, .agg (aL (D.tl k) s1 (D.tl k).ws.length t1 s2 (D.tl k).bs.length t2).toArray]) (by simp [h8, h15, h22]) (by kernel_rfl), ?_⟩⟩
          refine (wasServed_any X (D.pt k) (D.tl k) G b1 d1 b2 d2 s1 t1 s2 t2 _ (HW.out.1.below (bel_nx HW.out.2.1 hR)) ⟨HT.out.1.below hR, HT.out.2.1.below hR, HT.out.2.2.1.below hR, HT.out.2.2.2.1.below hR⟩ HW.out.2.2 HT.out.2.2.2.2.1 true HT.out.2.2.2.2.2).mono ?_
          rintro e u' ⟨he, b'⟩
          exact ⟨_, he.trans rfl, rfl, bel_nx hR b', b'⟩
        · cases hs
          · exact .inr ⟨nog (x := .bool false) rfl rfl (hd ⟨7, .guard⟩ (by simp) rfl 32 rfl) rfl, rfl⟩
          have g7 : ρ (.tmp 32) = .bool true := hd ⟨7, .guard⟩ (by simp) rfl 32 rfl
          have h23 : _ = _ := hd ⟨23, .data⟩ (by simp) rfl 48 rfl
          exact .inl ⟨(by show (match ρ (.tmp 32) with | .bool b => b == true | _ => false) = true; rw [g7]; rfl), .inl ⟨_, u, run_un_op rfl h23 (by go_simp), rfl, hR, Below.refl _ _⟩⟩
        · cases hs
          · have h7 : _ = _ := hd ⟨7, .data⟩ (by simp) rfl 32 rfl
            exact .inl ⟨rfl, .inl ⟨_, u, run_pick_op rfl h7, (by simpa using hc _), hR, Below.refl _ _⟩⟩
          have h7 : _ = _ := hd ⟨7, .data⟩ (by simp) rfl 32 rfl
          have h24 : _ = _ := hd ⟨24, .data⟩ (by simp) rfl 49 rfl
          exact .inl ⟨rfl, .inl ⟨_, u, run_pick_op rfl h7, (by simpa using h24), hR, Below.refl _ _⟩⟩
      · have hi : ¬ (k : Int) < (mn : Int) := by omega
        have e9 : k = mn := by omega
        have HF : Hid (x = true) := by show x = true; rw [← HX.out, ← e9]; exact hall
        clear hall e9
        go_wp2
        go_ret
        exact ⟨by rw [HF.out]; rfl, hbl⟩
  · intro u i o ρ hR ho hρ hc hf hd
    have hi : i < 17 := by
      have := (Array.getElem?_eq_some_iff.1 ho).1
      simpa using this
    obtain rfl | rfl | rfl | rfl | rfl | rfl | rfl | rfl | rfl | rfl | rfl | rfl | rfl | rfl | rfl | rfl | rfl : i = 0 ∨ i = 1 ∨ i = 2 ∨ i = 3 ∨ i = 4 ∨ i = 5 ∨ i = 6 ∨ i = 7 ∨ i = 8 ∨ i = 9 ∨ i = 10 ∨ i = 11 ∨ i = 12 ∨ i = 13 ∨ i = 14 ∨ i = 15 ∨ i = 16 := by omega
    all_goals (simp only [List.getElem?_toArray, List.getElem?_cons_zero, List.getElem?_cons_succ, Option.some.injEq] at ho; subst ho)
    · -- 0
      have s1 : ρ (.tmp 1) = .pointer (some ⟨g, o, none⟩) := (hρ 1 (by kernel_rfl)).trans rfl
      exact .inl ⟨rfl, .inl ⟨_, u, rfl, s1, hR, Below.refl _ _⟩⟩
    · -- 1
      have h0 : ρ (.tmp 6) = .pointer (some ⟨g, o, none⟩) := hd ⟨0, .data⟩ (by simp) rfl 6 rfl
      exact .inl ⟨rfl, .inl ⟨.pointer (some ⟨g, o, none⟩), u, run_nilz rfl h0, rfl, hR, Below.refl _ _⟩⟩
    · -- 2
      have h1 : ρ (.tmp 7) = .pointer (some ⟨g, o, none⟩) := hd ⟨1, .data⟩ (by simp) rfl 7 rfl
      exact .inl ⟨rfl, .inl ⟨.pointer (some ⟨g, o + 10, none⟩), u, run_field_op rfl h1 (by go_simp), rfl, hR, Below.refl _ _⟩⟩
    · -- 3
      have h2 : ρ (.tmp 8) = .pointer (some ⟨g, o + 10, none⟩) := hd ⟨2, .data⟩ (by simp) rfl 8 rfl
      have y9 : u.cell? ⟨g, o + 10, none⟩ = some (.slice a3 D.np c3) := (rangeAt_below HD.out.2 HD.out.1 hR) 10 _ rfl
      have hr : (Instr.loadAt 128 (.pointer (some ⟨g, o + 10, none⟩))).run Tryz.prog u = .ok (.slice a3 D.np c3) u := by go_simp
      exact .inl ⟨rfl, .inl ⟨.slice a3 D.np c3, u, run_load_op rfl h2 hr, rfl, hR, Below.refl _ _⟩⟩
    · -- 4
      have h3 : ρ (.tmp 9) = .slice a3 D.np c3 := hd ⟨3, .data⟩ (by simp) rfl 9 rfl
      exact .inl ⟨rfl, .inl ⟨.int .i64 (D.np : Int), u, run_lenz Tryz.underlying128 rfl h3, rfl, hR, Below.refl _ _⟩⟩
    · -- 5
      have s1 : ρ (.tmp 1) = .pointer (some ⟨g, o, none⟩) := (hρ 1 (by kernel_rfl)).trans rfl
      exact .inl ⟨rfl, .inl ⟨_, u, rfl, s1, hR, Below.refl _ _⟩⟩
    · -- 6
      have h5 : ρ (.tmp 11) = .pointer (some ⟨g, o, none⟩) := hd ⟨5, .data⟩ (by simp) rfl 11 rfl
      exact .inl ⟨rfl, .inl ⟨.pointer (some ⟨g, o, none⟩), u, run_nilz rfl h5, rfl, hR, Below.refl _ _⟩⟩
    · -- 7
      have h6 : ρ (.tmp 12) = .pointer (some ⟨g, o, none⟩) := hd ⟨6, .data⟩ (by simp) rfl 12 rfl
      exact .inl ⟨rfl, .inl ⟨.pointer (some ⟨g, o + 12, none⟩), u, run_field_op rfl h6 (by go_simp), rfl, hR, Below.refl _ _⟩⟩
    · -- 8
      have h7 : ρ (.tmp 13) = .pointer (some ⟨g, o + 12, none⟩) := hd ⟨7, .data⟩ (by simp) rfl 13 rfl
      have y9 : u.cell? ⟨g, o + 12, none⟩ = some (.slice a5 D.nt c5) := (rangeAt_below HD.out.2 HD.out.1 hR) 12 _ rfl
      have hr : (Instr.loadAt 129 (.pointer (some ⟨g, o + 12, none⟩))).run Tryz.prog u = .ok (.slice a5 D.nt c5) u := by go_simp
      exact .inl ⟨rfl, .inl ⟨.slice a5 D.nt c5, u, run_load_op rfl h7 hr, rfl, hR, Below.refl _ _⟩⟩
    · -- 9
      have h8 : ρ (.tmp 14) = .slice a5 D.nt c5 := hd ⟨8, .data⟩ (by simp) rfl 14 rfl
      exact .inl ⟨rfl, .inl ⟨.int .i64 (D.nt : Int), u, run_lenz Tryz.underlying129 rfl h8, rfl, hR, Below.refl _ _⟩⟩
    · -- 10
      have s1 : ρ (.tmp 1) = .pointer (some ⟨g, o, none⟩) := (hρ 1 (by kernel_rfl)).trans rfl
      exact .inl ⟨rfl, .inl ⟨_, u, rfl, s1, hR, Below.refl _ _⟩⟩
    · -- 11
      have h10 : ρ (.tmp 16) = .pointer (some ⟨g, o, none⟩) := hd ⟨10, .data⟩ (by simp) rfl 16 rfl
      exact .inl ⟨rfl, .inl ⟨.pointer (some ⟨g, o, none⟩), u, run_nilz rfl h10, rfl, hR, Below.refl _ _⟩⟩
    · -- 12
      have h11 : ρ (.tmp 17) = .pointer (some ⟨g, o, none⟩) := hd ⟨11, .data⟩ (by simp) rfl 17 rfl
      exact .inl ⟨rfl, .inl ⟨.pointer (some ⟨g, o + 11, none⟩), u, run_field_op rfl h11 (by go_simp), rfl, hR, Below.refl _ _⟩⟩
    · -- 13
      have h12 : ρ (.tmp 18) = .pointer (some ⟨g, o + 11, none⟩) := hd ⟨12, .data⟩ (by simp) rfl 18 rfl
      have y9 : u.cell? ⟨g, o + 11, none⟩ = some (.slice a4 D.hs.length c4) := (rangeAt_below HD.out.2 HD.out.1 hR) 11 _ rfl
      have hr : (Instr.loadAt 81 (.pointer (some ⟨g, o + 11, none⟩))).run Tryz.prog u = .ok (.slice a4 D.hs.length c4) u := by go_simp
      exact .inl ⟨rfl, .inl ⟨.slice a4 D.hs.length c4, u, run_load_op rfl h12 hr, rfl, hR, Below.refl _ _⟩⟩
    · -- 14
      have h13 : ρ (.tmp 19) = .slice a4 D.hs.length c4 := hd ⟨13, .data⟩ (by simp) rfl 19 rfl
      exact .inl ⟨rfl, .inl ⟨.int .i64 (D.hs.length : Int), u, run_lenz Tryz.underlying81 rfl h13, rfl, hR, Below.refl _ _⟩⟩
    · -- 15
      exact .inl ⟨rfl, .inl ⟨_, u, run_min_3 rfl (hd ⟨4, .data⟩ (by simp) rfl 10 rfl) (hd ⟨9, .data⟩ (by simp) rfl 15 rfl) (hd ⟨14, .data⟩ (by simp) rfl 20 rfl), rfl, hR, Below.refl _ _⟩⟩
    · -- 16
      exact .inl ⟨rfl, .inl ⟨_, u, rfl, hc _, hR, Below.refl _ _⟩⟩
set_option maxRecDepth 20000 in
set_option maxHeartbeats 4000000 in
theorem implServedEach_any (X : VW) (a1 : Option Addr) (c1 : Nat) (a2 : Option Addr) (c2 : Nat) (a3 : Option Addr) (c3 : Nat) (a4 : Option Addr) (c4 : Nat) (a5 : Option Addr) (c5 : Nat) (a6 : Option Addr) (c6 : Nat) (a7 : Option Addr) (c7 : Nat) (w : World) (h : Rd w 0 (.list 7 X.fb.set.n (fun i => trs (xrT (X.fb.set.f i)))) (.slice a1 X.fb.set.n c1) ∧ Rd w 0 (.list 13 X.fb.op.m (fun i => trs (dT (X.fb.op.f i)))) (.slice a2 X.fb.op.m c2) ∧ Rd w 0 (.list 17 X.fb.nl (fun i => trs (xnT (X.fb.lf i)))) (.slice a3 X.fb.nl c3) ∧ Rd w 0 (.list 6 X.ns (fun i => trs (xsT (X.sf i)))) (.slice a4 X.ns c4) ∧ Rd w 0 (.list 16 X.nk (fun i => trs (xkT (X.kf i)))) (.slice a5 X.nk c5) ∧ Rd w 0 (.list 16 X.nr (fun i => trs (xyT (X.rf i)))) (.slice a6 X.nr c6) ∧ Rd w 0 (.list 15 X.ne (fun i => trs (xeT (X.ef i)))) (.slice a7 X.ne c7)) (hX : BdW X) :
    Calls Tryz.prog 29 #[.agg (xwL X a1 X.fb.set.n c1 a2 X.fb.op.m c2 a3 X.fb.nl c3 a4 X.ns c4 a5 X.nk c5 a6 X.nr c6 a7 X.ne c7).toArray] w fun e w' => e = .returned (.bool (seB X)) ∧ Below w.heap.size w w' := by
  obtain ⟨x0, hx0⟩ : ∃ x, allN (fun i => rpB X (X.rf i)) X.nr = x := ⟨_, rfl⟩
  obtain ⟨x1, hx1⟩ : ∃ x, allN (fun i => pdB X (X.fb.op.f i)) X.fb.op.m = x := ⟨_, rfl⟩
  have hs : seB X = (x0 && x1) := by unfold seB; rw [hx0, hx1]
  rw [hs]
  obtain ⟨W, hW⟩ : ∃ W, W = w.alloc (.cells (xwL X a1 X.fb.set.n c1 a2 X.fb.op.m c2 a3 X.fb.nl c3 a4 X.ns c4 a5 X.nk c5 a6 X.nr c6 a7 X.ne c7).toArray 67) := ⟨_, rfl⟩
  obtain ⟨G, hG⟩ : ∃ G, G = w.heap.size := ⟨_, rfl⟩
  have bW : Below w.heap.size w W := by rw [hW]; exact bel_alloc _ _
  have kW : Blk W G 67 (xwL X a1 X.fb.set.n c1 a2 X.fb.op.m c2 a3 X.fb.nl c3 a4 X.ns c4 a5 X.nk c5 a6 X.nr c6 a7 X.ne c7).toArray := by rw [hW, hG]; exact Blk.new _ _ _
  have hD : WdAt W G X := ⟨_, _, _, _, _, _, _, kW, rfl, rfl, rfl, h.2.1.below bW, h.2.2.2.2.2.1.below bW, h.2.2.2.2.2.2.below bW⟩
  have HE : Hid (WdAt W G X ∧ Blk W G 67 (xwL X a1 X.fb.set.n c1 a2 X.fb.op.m c2 a3 X.fb.nl c3 a4 X.ns c4 a5 X.nk c5 a6 X.nr c6 a7 X.ne c7).toArray ∧ Below w.heap.size w W ∧ BdW X ∧ Rd W 0 (.list 13 X.fb.op.m (fun i => trs (dT (X.fb.op.f i)))) (.slice a2 X.fb.op.m c2) ∧ Rd W 0 (.list 16 X.nr (fun i => trs (xyT (X.rf i)))) (.slice a6 X.nr c6)) := ⟨hD, kW, bW, hX, h.2.1.below bW, h.2.2.2.2.2.1.below bW⟩
  have HX : Hid (allN (fun i => rpB X (X.rf i)) X.nr = x0 ∧ allN (fun i => pdB X (X.fb.op.f i)) X.fb.op.m = x1) := ⟨hx0, hx1⟩
  have hnr : X.nr ≤ 2000000 := hX.1.1
  have hnm : X.fb.op.m ≤ 2000000 := hX.2.2.1
  have y13 : W.cell? ⟨G, 13, none⟩ = some (.slice a6 X.nr c6) := kW.cell 13 rfl
  clear hx0 hx1 hs bW kW hD h hX
  go_enter Tryz.func29, Tryz.ntmps29
  go_upto_region 1 with fail
  rw [← hW, ← hG]
  clear hW hG
  try go_simp
  go_wp2
  clear y13
  go_loopw [8] (fun i wr => ∃ k : Nat, k ≤ X.nr ∧ i = .int .i64 k ∧ allN (fun i => rpB X (X.rf i)) k = true ∧ Below W.heap.size W wr) (fun i _ => X.nr - (intOf i).toNat)
  case atStart => exact ⟨0, Nat.zero_le _, rfl, rfl, Below.refl _ _⟩
  case round =>
    obtain ⟨k, hk, rfl, hall, hbl⟩ := hrel
    by_cases hlt : k < X.nr
    · have hi : (k : Int) < (X.nr : Int) := by omega
      have y13 : wr.cell? ⟨G, 13, none⟩ = some (.slice a6 X.nr c6) := (HE.out.2.1.below hbl).cell 13 rfl
      obtain ⟨b, off, vs, rfl, _, hb0, hlen, hr, hrd⟩ := (HE.out.2.2.2.2.2.below hbl).at hlt
      obtain ⟨y, hy⟩ : ∃ y, rpB X (X.rf k) = y := ⟨_, rfl⟩
      have HK : Hid (rpB X (X.rf k) = y ∧ allN (fun i => rpB X (X.rf i)) k = true ∧ Below W.heap.size W wr ∧ b < wr.heap.size ∧ vs.length = 16 ∧ wr.rangeAt b (off + k * 16) vs ∧ RdL wr 0 (trs (xyT (X.rf k))) vs) := ⟨hy, hall, hbl, hb0, hlen, hr, hrd⟩
      clear hy hall hbl hb0 hlen hr hrd
      go_wp2_with fail
      refine (replyServed_any X (X.rf k) G b (off + k * 16) _ (HE.out.1.below HK.out.2.2.1) HE.out.2.2.2.1 HK.out.2.2.2.1 vs HK.out.2.2.2.2.1 HK.out.2.2.2.2.2.1 HK.out.2.2.2.2.2.2 (HE.out.2.2.2.1.1.2 k hlt) y HK.out.1).mono ?_
      rintro e w1 ⟨rfl, b1⟩
      have HF : Hid (Below W.heap.size W w1 ∧ rpB X (X.rf k) = y ∧ allN (fun i => rpB X (X.rf i)) k = true) := ⟨bel_nx HK.out.2.2.1 b1, HK.out.1, HK.out.2.1⟩
      clear b1 HK y13
      cases y with
      | false =>
        have H9 : Hid (x0 = false) := by show x0 = false; rw [← HX.out.1]; exact allN_no hlt HF.out.2.1
        go_wp2
        go_ret
        exact ⟨by rw [H9.out]; rfl, bel_nx HE.out.2.2.1 HF.out.1⟩
      | true =>
        have H9 : Hid (allN (fun i => rpB X (X.rf i)) (k + 1) = true) := allN_succ HF.out.2.2 HF.out.2.1
        go_wp2
        go_roundw
        case rel => exact ⟨k + 1, by omega, by go_num, H9.out, HF.out.1⟩
        case measure => simp [intOf]; omega
    · have hi : ¬ (k : Int) < (X.nr : Int) := by omega
      have e9 : k = X.nr := by omega
      have H0 : Hid (x0 = true ∧ Below W.heap.size W wr) := ⟨by rw [← HX.out.1, ← e9]; exact hall, hbl⟩
      have y5 : wr.cell? ⟨G, 5, none⟩ = some (.slice a2 X.fb.op.m c2) := (HE.out.2.1.below hbl).cell 5 rfl
      clear hall hbl e9
      go_wp2
      clear y5
      go_loopw [23] (fun i wr => ∃ k : Nat, k ≤ X.fb.op.m ∧ i = .int .i64 k ∧ allN (fun i => pdB X (X.fb.op.f i)) k = true ∧ Below W.heap.size W wr) (fun i _ => X.fb.op.m - (intOf i).toNat)
      case atStart => exact ⟨0, Nat.zero_le _, rfl, rfl, H0.out.2⟩
      case round =>
        obtain ⟨k, hk, rfl, hall, hbl⟩ := hrel
        by_cases hlt : k < X.fb.op.m
        · have hi : (k : Int) < (X.fb.op.m : Int) := by omega
          have y5 : wr.cell? ⟨G, 5, none⟩ = some (.slice a2 X.fb.op.m c2) := (HE.out.2.1.below hbl).cell 5 rfl
          obtain ⟨b, off, vs, rfl, _, hb0, hlen, hr, hrd⟩ := (HE.out.2.2.2.2.1.below hbl).at hlt
          obtain ⟨y, hy⟩ : ∃ y, pdB X (X.fb.op.f k) = y := ⟨_, rfl⟩
          have HK : Hid (pdB X (X.fb.op.f k) = y ∧ allN (fun i => pdB X (X.fb.op.f i)) k = true ∧ Below W.heap.size W wr ∧ b < wr.heap.size ∧ vs.length = 13 ∧ wr.rangeAt b (off + k * 13) vs ∧ RdL wr 0 (trs (dT (X.fb.op.f k))) vs) := ⟨hy, hall, hbl, hb0, hlen, hr, hrd⟩
          clear hy hall hbl hb0 hlen hr hrd
          go_wp2_with fail
          refine (pendServed_any X (X.fb.op.f k) G b (off + k * 13) _ (HE.out.1.below HK.out.2.2.1) HE.out.2.2.2.1 HK.out.2.2.2.1 vs HK.out.2.2.2.2.1 HK.out.2.2.2.2.2.1 HK.out.2.2.2.2.2.2 (HE.out.2.2.2.1.2.2.2 k hlt) y HK.out.1).mono ?_
          rintro e w1 ⟨rfl, b1⟩
          have HF : Hid (Below W.heap.size W w1 ∧ pdB X (X.fb.op.f k) = y ∧ allN (fun i => pdB X (X.fb.op.f i)) k = true) := ⟨bel_nx HK.out.2.2.1 b1, HK.out.1, HK.out.2.1⟩
          clear b1 HK y5
          cases y with
          | false =>
            have H9 : Hid (x1 = false) := by show x1 = false; rw [← HX.out.2]; exact allN_no hlt HF.out.2.1
            go_wp2
            go_ret
            exact ⟨by rw [H9.out]; simp, bel_nx HE.out.2.2.1 HF.out.1⟩
          | true =>
            have H9 : Hid (allN (fun i => pdB X (X.fb.op.f i)) (k + 1) = true) := allN_succ HF.out.2.2 HF.out.2.1
            go_wp2
            go_roundw
            case rel => exact ⟨k + 1, by omega, by go_num, H9.out, HF.out.1⟩
            case measure => simp [intOf]; omega
        · have hi : ¬ (k : Int) < (X.fb.op.m : Int) := by omega
          have e9 : k = X.fb.op.m := by omega
          have H1 : Hid (x1 = true ∧ Below W.heap.size W wr) := ⟨by rw [← HX.out.2, ← e9]; exact hall, hbl⟩
          clear hall hbl e9
          go_wp2
          go_ret
          exact ⟨by rw [H0.out.1, H1.out.1]; rfl, bel_nx HE.out.2.2.1 H1.out.2⟩
end Go.Proofs.YtpgcankjhkchjaaGreat
