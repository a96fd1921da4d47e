/- Texts that the proof needs, joined: AppliedL. -/
import Derived.Test.YtfdddkjonjpgpaaY13
import Derived.Test.YtfdddkjonjpgpaaY1
import Derived.Test.YtfdddkjonjpgpaaY10
namespace Go.Proofs.Ytfdddkjonjpgpaa
open Go.RowKit Go.Joins
set_option linter.unusedVariables false
set_option linter.unusedSimpArgs false
theorem run_ext_w {P : Program} {ρ : Operand → Value} {o : Oper} {u : World} {x : Operand} {k : Nat} {vs : Array Value} {v : Value} (ho : o.op = .extract x k) (ha : ρ x = .tuple vs) (hv : vs[k]? = some v) : (execOp ρ o).run P u = .ok (.value v) u := by
  unfold execOp
  simp only [ho, ha]
  rw [Sem.run_bind]
  simp [Instr.extract, hv]
theorem run_alloc_w {P : Program} {ρ : Operand → Value} {o : Oper} {w : World} (ty : TypeId) (ho : o.op = .alloc ty) (cs : Array Value) (n b : Nat) (hi : (P.info? ty).map (fun i => (i.zero, i.size, i.bytes)) = some (some (.agg cs), n, b)) : (execOp ρ o).run P w = .ok (.value (.pointer (some ⟨w.heap.size, 0, none⟩))) (w.alloc (.cells cs ty)) := by
  have hz : (zeroValue ty).run P w = .ok (.agg cs) w := by
    cases hq : P.info? ty with
    | none => simp [hq] at hi
    | some i => simp [hq] at hi; simp [zeroValue, typeInfo, hq, hi.1]
  unfold execOp
  simp only [ho]
  rw [Sem.run_bind]
  have h9 : (Instr.alloc ty true (.tuple #[])).run P w = .ok (.pointer (some ⟨w.heap.size, 0, none⟩)) (w.alloc (.cells cs ty)) := by
    unfold Instr.alloc
    rw [Sem.run_bind, hz]
    rfl
  rw [h9]
  rfl
theorem updBn {l : Nat → Bool} {i j : Nat} (h : i ≠ j) : updB l i j = l j := by unfold updB; rw [if_neg (Ne.symm h)]
theorem updBq {l : Nat → Bool} {i : Nat} : updB l i i = true := by unfold updB; rw [if_pos rfl]
theorem updSq {σ : Nat → Value} {d : Nat} {v : Value} : updS σ (some d) v d = v := by show (if d = d then v else σ d) = v; rw [if_pos rfl]
theorem updSn {σ : Nat → Value} {d s : Nat} {v : Value} (h : d ≠ s) : updS σ (some d) v s = σ s := by show (if s = d then v else σ s) = _; rw [if_neg (Ne.symm h)]
def MgD (u u' : World) : Prop := Below u.heap.size u u' ∨ ∃ g cs, u.grownBy u' (some g) ∧ Blk u g 27 cs
theorem MgD.d {B' : Nat} {u u' : World} {a1 a2 a3 a4 : Option Addr} {l1 l2 l3 l4 c1 c2 c3 c4 : Nat} {cs is : List Bool} {hs rs : List Int} (hm : MgD u u') (h : OwnD u B' a1 a2 a3 a4 l1 l2 l3 l4 c1 c2 c3 c4 cs is hs rs) : OwnD u' B' a1 a2 a3 a4 l1 l2 l3 l4 c1 c2 c3 c4 cs is hs rs := by
  rcases hm with hb | ⟨g, cv, hg, hk⟩
  · exact h.below hb
  · have n := h.noBlk hk (by decide) (by decide)
    exact h.chg (Chg.ofGrown (S := fun x => x = g) hg (fun x e => (Option.some.inj e).symm)) (fun x hx e => n (by rw [← e]; exact hx))
theorem MgD.t {u u' : World} {gt n k : Nat} {f : Nat → VA} (hm : MgD u u') (h : LsT u gt n f k) : LsT u' gt n f k := by
  rcases hm with hb | ⟨g, cv, hg, hk⟩
  · exact h.below hb
  · exact h.keptB hg hk (by decide) (by decide) (by decide)
def RgB (wr : World) (S : Nat) (D : World → Nat → Prop) (l : Nat → Bool) (σ : Nat → Value) (u : World) : Prop :=
  Below wr.heap.size wr u ∧ (l 8 = true → ∃ g, σ S = .pointer (some ⟨g, 0, none⟩) ∧ wr.heap.size ≤ g ∧ (l 9 = false → Blk u g 27 #[.slice none 0 0, .slice none 0 0, .slice none 0 0, .slice none 0 0]) ∧ (l 9 = true → D u g))
theorem RgB.next {wr u u' : World} {S : Nat} {D : World → Nat → Prop} {l : Nat → Bool} {σ : Nat → Value} (h : RgB wr S D l σ u) {i d : Nat} {v : Value} (h1 : i ≠ 8) (h2 : i ≠ 9) (d1 : d ≠ S) (hb : Below u.heap.size u u') (hD : ∀ g, D u g → D u' g) : RgB wr S D (updB l i) (updS σ (some d) v) u' := by
  obtain ⟨q1, q2⟩ := h
  refine ⟨bel_nx q1 hb, fun h8 => ?_⟩
  rw [updBn h1] at h8
  obtain ⟨g, e1, e2, e3, e4⟩ := q2 h8
  exact ⟨g, by rw [updSn d1]; exact e1, e2, fun h => (e3 (by rw [updBn h2] at h; exact h)).below hb, fun h => hD g (e4 (by rw [updBn h2] at h; exact h))⟩
theorem cut_end (g k : Nat) (u : World) (hk : k ≤ 1000) : (Instr.sliceAt 28 (.slice (some ⟨g, 0, none⟩) k k) (some (.int .i64 (k : Int))) none none).run Try.prog u = .ok (.slice (some ⟨g, 0, none⟩) 0 0) u := by
  have h2 : ¬ ((k : Int) < (k : Int)) := by omega
  go_simp
theorem appl_at {A A2 : Nat → VA} {k : Nat} (h : ∀ i, A2 i = A (k + i)) (i : Nat) : (if i < k then (if i < 0 then default else A (i - 0)) else A2 (i - k)) = A i := by
  by_cases e : i < k
  · rw [if_pos e, if_neg (by omega)]; rfl
  · rw [if_neg e, h, show k + (i - k) = i by omega]
set_option maxRecDepth 20000 in
set_option maxHeartbeats 16000000 in
theorem applied_law (a : Option Addr) (cap : Nat) (zs : List Int) (w : World) (hs : Sl w a zs) (hr : ∀ z ∈ zs, 0 ≤ z ∧ z ≤ 255) (hl : zs.length ≤ 1048576) :
    Calls Try.prog 3 #[.slice a zs.length cap] w fun e w' => e = .returned (.bool true) ∧ Below w.heap.size w w' := by
  have H : Hid (Sl w a zs ∧ (∀ z ∈ zs, 0 ≤ z ∧ z ≤ 255) ∧ zs.length ≤ 1048576) := ⟨hs, hr, hl⟩
  have hbg : ¬ (1048576 : Int) < (zs.length : Int) := by omega
  clear hs hr hl
  go_enter Try.func3, Try.ntmps3
  go_wp2_with (go_at_call 5; go_in)
  refine (DrawApply_any w a _ cap zs rfl H.out.1 H.out.2.1 H.out.2.2).mono ?_
  rintro e w1 ⟨a1, a2, a3, a4, m, c1, c2, c3, c4, cs, is, hs, rs, n, f, b, c, rfl, hm, hln, hsl, wh, wrg, hn8, hnc, hcm, hbf, hrd, hel, b1⟩
  obtain ⟨D0, hD0⟩ : ∃ D0, D0 = w1.heap.size := ⟨_, rfl⟩
  obtain ⟨W2, hW2⟩ : ∃ W2, W2 = w1.alloc (.cells #[.slice a1 m c1, .slice a2 m c2, .slice a3 m c3, .slice a4 m c4] 27) := ⟨_, rfl⟩
  have HF : Hid (m ≤ 64 ∧ LnD m m m m cs is hs rs ∧ SmD 2000000 cs is hs rs ∧ n ≤ 8 ∧ n ≤ c ∧ c ≤ maxLen ∧ ((b = none ∧ c = 0) ∨ ∃ g, b = some ⟨g, 0, none⟩) ∧ (∀ i, i < n → (f i).ws.length ≤ 2000000 ∧ (f i).bs.length ≤ 2000000) ∧ okD m m m m hs rs = true ∧ (∀ i, i < n → ((apA is rs cs hs f) i).ws.length ≤ 3000000 ∧ ((apA is rs cs hs f) i).bs.length ≤ 3000000)) := by
    have hln' := hln
    obtain ⟨e1, e2, e3, e4⟩ := hln'
    refine ⟨hm, hln, ⟨by omega, by omega, by omega, by omega⟩, hn8, hnc, hcm, hbf, fun i hi => by have := hel i hi; omega, ?_, fun i hi => by have h1 := apA_len is rs cs hs f i; have h2 := hel i hi; omega⟩
    unfold okD
    rw [allW_mem wh, allW_mem wrg]
    simp
    omega
  have H2 : Hid (Below w.heap.size w W2 ∧ Blk W2 D0 27 #[.slice a1 m c1, .slice a2 m c2, .slice a3 m c3, .slice a4 m c4] ∧ SlD W2 a1 a2 a3 a4 cs is hs rs ∧ Rd W2 0 (.list 6 n (fun i => trs (qT (f i)))) (.slice b n c)) := by
    have b2 : Below w1.heap.size w1 W2 := by rw [hW2]; exact bel_alloc _ _
    exact ⟨bel_nx b1 b2, by rw [hW2, hD0]; exact Blk.new _ _ _, hsl.below b2, hrd.below b2⟩
  have hn8' : n ≤ 8 := hn8
  have HEL : Hid ((∀ i, i < n → (f i).ws.length ≤ 200 ∧ (f i).bs.length ≤ 2000) ∧ m ≤ 64) := ⟨hel, hm⟩
  clear hm hln hsl wh wrg hn8 hnc hcm hbf hrd hel b1
  go_upto_region 4 with fail
  rw [← hW2, ← hD0]
  clear hW2 hD0
  go_wp2_with fail
  refine (at_any _ a _ cap zs 2 (by decide) (by decide) rfl (H.out.1.below H2.out.1) H.out.2.1 H.out.2.2).mono ?_
  rintro e w3 ⟨x, rfl, hx0, hx1, hw⟩
  have hw := hw.symm
  subst hw
  have hne : ¬ ((n : Int) + 1 = 0) := by omega
  obtain ⟨k, hk⟩ : ∃ k : Nat, x % ((n : Int) + 1) = (k : Int) := ⟨(x % ((n : Int) + 1)).toNat, by have := Int.emod_nonneg x hne; omega⟩
  have hkn : k ≤ n := by have := Int.emod_lt_of_pos x (show 0 < (n : Int) + 1 by omega); omega
  go_upto_region 5 with fail
  try rw [hk]
  clear hk hx0 hx1 hne
  obtain ⟨y0, y1, y2, y3⟩ := H2.out.2.1.four
  go_wp2_with fail
  refine (implApply_t a1 a2 a3 a4 m m m m c1 c2 c3 c4 cs is hs rs n f b c _ HF.out.2.1 H2.out.2.2.1 HF.out.2.2.1 H2.out.2.2.2 (by omega) HF.out.2.2.2.2.2.2.2.1).mono ?_
  rintro e w4 ⟨g1, g2, g3, g4, gs, rfl, O4', L4, -, -, b'⟩
  obtain ⟨G0, hG0⟩ : ∃ G0, G0 = w4.heap.size := ⟨_, rfl⟩
  obtain ⟨W5, hW5⟩ : ∃ W5, W5 = w4.alloc (.cells #[.slice (some ⟨g1, 0, none⟩) m m, .slice (some ⟨g2, 0, none⟩) m m, .slice (some ⟨g3, 0, none⟩) m m, .slice (some ⟨g4, 0, none⟩) m m] 27) := ⟨_, rfl⟩
  have H5 : Hid (Below w.heap.size w W5 ∧ Blk W5 D0 27 #[.slice a1 m c1, .slice a2 m c2, .slice a3 m c3, .slice a4 m c4] ∧ SlD W5 a1 a2 a3 a4 cs is hs rs ∧ Rd W5 0 (.list 6 n (fun i => trs (qT (f i)))) (.slice b n c) ∧ Blk W5 G0 27 #[.slice (some ⟨g1, 0, none⟩) m m, .slice (some ⟨g2, 0, none⟩) m m, .slice (some ⟨g3, 0, none⟩) m m, .slice (some ⟨g4, 0, none⟩) m m] ∧ SlD W5 (some ⟨g1, 0, none⟩) (some ⟨g2, 0, none⟩) (some ⟨g3, 0, none⟩) (some ⟨g4, 0, none⟩) (apS is rs cs hs f n).1 is (apS is rs cs hs f n).2 rs ∧ LsT W5 gs n (apA is rs cs hs f) n) := by
    have b5 : Below w4.heap.size w4 W5 := by rw [hW5]; exact bel_alloc _ _
    have bx := bel_nx b' b5
    exact ⟨bel_nx H2.out.1 bx, H2.out.2.1.below bx, H2.out.2.2.1.below bx, H2.out.2.2.2.below bx, by rw [hW5, hG0]; exact Blk.new _ _ _, O4'.sl.2.below b5, L4.below b5⟩
  clear O4' L4 b' H2 y0 y1 y2 y3
  go_upto_region 6 with fail
  rw [← hW5, ← hG0]
  clear hW5 hG0
  refine wp_region_any (by kernel_rfl) ?_
  refine wpAny_valy (RgB W5 8 (fun u g => ∃ p1 p2 p3 p4, Blk u g 27 #[.slice (some ⟨p1, 0, none⟩) m m, .slice (some ⟨p2, 0, none⟩) m m, .slice (some ⟨p3, 0, none⟩) m m, .slice (some ⟨p4, 0, none⟩) m m] ∧ OwnD u W5.heap.size (some ⟨p1, 0, none⟩) (some ⟨p2, 0, none⟩) (some ⟨p3, 0, none⟩) (some ⟨p4, 0, none⟩) m m m m m m m m (apS is rs cs hs f k).1 is (apS is rs cs hs f k).2 rs)) MgD (fun i v u => match i with
    | 0 => v = dv a1 a2 a3 a4 m m m m c1 c2 c3 c4
    | 1 => v = .slice b n c
    | 2 => v = .int .i64 (k : Int)
    | 3 => v = .slice b k c
    | 4 => ∃ p1 p2 p3 p4 gp, v = .tuple #[dv (some ⟨p1, 0, none⟩) (some ⟨p2, 0, none⟩) (some ⟨p3, 0, none⟩) (some ⟨p4, 0, none⟩) m m m m m m m m, .slice (some ⟨gp, 0, none⟩) k k] ∧ OwnD u W5.heap.size (some ⟨p1, 0, none⟩) (some ⟨p2, 0, none⟩) (some ⟨p3, 0, none⟩) (some ⟨p4, 0, none⟩) m m m m m m m m (apS is rs cs hs f k).1 is (apS is rs cs hs f k).2 rs ∧ LsT u gp k (apA is rs cs hs f) k
    | 5 => ∃ p1 p2 p3 p4 gp, v = .tuple #[dv (some ⟨p1, 0, none⟩) (some ⟨p2, 0, none⟩) (some ⟨p3, 0, none⟩) (some ⟨p4, 0, none⟩) m m m m m m m m, .slice (some ⟨gp, 0, none⟩) k k] ∧ OwnD u W5.heap.size (some ⟨p1, 0, none⟩) (some ⟨p2, 0, none⟩) (some ⟨p3, 0, none⟩) (some ⟨p4, 0, none⟩) m m m m m m m m (apS is rs cs hs f k).1 is (apS is rs cs hs f k).2 rs ∧ LsT u gp k (apA is rs cs hs f) k
    | 6 => ∃ p1 p2 p3 p4, v = dv (some ⟨p1, 0, none⟩) (some ⟨p2, 0, none⟩) (some ⟨p3, 0, none⟩) (some ⟨p4, 0, none⟩) m m m m m m m m ∧ OwnD u W5.heap.size (some ⟨p1, 0, none⟩) (some ⟨p2, 0, none⟩) (some ⟨p3, 0, none⟩) (some ⟨p4, 0, none⟩) m m m m m m m m (apS is rs cs hs f k).1 is (apS is rs cs hs f k).2 rs
    | 7 => ∃ gp, v = .slice (some ⟨gp, 0, none⟩) k k ∧ LsT u gp k (apA is rs cs hs f) k
    | 10 => ∃ gp, v = .slice (some ⟨gp, 0, none⟩) k k ∧ LsT u gp k (apA is rs cs hs f) k
    | _ => True) (by kernel_rfl) (by kernel_rfl) ?_ (fun u => .inl (Below.refl _ _)) ⟨by first | exact Below.refl _ _ | exact (Below.refl _ _).drew, fun h => (by cases h)⟩ ?_ ?_ _ _ rfl (by decide) (fun i => by simp [Array.getD]; try (split <;> rfl))
  · intro i v u u' h hm
    match i with
    | 0 => exact h
    | 1 => exact h
    | 2 => exact h
    | 3 => exact h
    | 4 =>
      obtain ⟨p1, p2, p3, p4, gp, e, q1, q2⟩ := h
      exact ⟨p1, p2, p3, p4, gp, e, hm.d q1, hm.t q2⟩
    | 5 =>
      obtain ⟨p1, p2, p3, p4, gp, e, q1, q2⟩ := h
      exact ⟨p1, p2, p3, p4, gp, e, hm.d q1, hm.t q2⟩
    | 6 =>
      obtain ⟨p1, p2, p3, p4, e, q1⟩ := h
      exact ⟨p1, p2, p3, p4, e, hm.d q1⟩
    | 7 =>
      obtain ⟨gp, e, q2⟩ := h
      exact ⟨gp, e, hm.t q2⟩
    | 8 => trivial
    | 9 => trivial
    | 10 =>
      obtain ⟨gp, e, q2⟩ := h
      exact ⟨gp, e, hm.t q2⟩
    | _ + 11 => trivial
  rotate_left
  · intro u i o ρ l hR ho hli hcl hρ hc hf hdep hv
    have hi : i < 11 := by
      have := (Array.getElem?_eq_some_iff.1 ho).1
      simpa using this
    obtain rfl | rfl | rfl | rfl | rfl | rfl | rfl | rfl | rfl | rfl | rfl : i = 0 ∨ i = 1 ∨ i = 2 ∨ i = 3 ∨ i = 4 ∨ i = 5 ∨ i = 6 ∨ i = 7 ∨ i = 8 ∨ i = 9 ∨ i = 10 := by omega
    all_goals (simp only [List.getElem?_toArray, List.getElem?_cons_zero, List.getElem?_cons_succ, Option.some.injEq] at ho; subst ho)
    · -- 0
      have s6 : ρ (.tmp 3) = .pointer (some ⟨D0, 0, none⟩) := (hρ 3 (by kernel_rfl)).trans rfl
      exact .inl ⟨rfl, .inl ⟨_, u, run_load_op rfl s6 (run_loadAt_mid u D0 0 27 [.slice a1 m c1, .slice a2 m c2, .slice a3 m c3, .slice a4 m c4] _ (Blk.rng (l := [.slice a1 m c1, .slice a2 m c2, .slice a3 m c3, .slice a4 m c4]) (H5.out.2.1.below hR.1)) Try.underlying27 rfl (by kernel_rfl)), rfl, (hR.next (i := 0) (d := 34) (by decide) (by decide) (by decide) (Below.refl _ _) (fun _ h => h)), .inl (Below.refl _ _)⟩⟩
    · -- 1
      have s4 : ρ (.tmp 4) = .slice b n c := (hρ 4 (by kernel_rfl)).trans rfl
      exact .inl ⟨rfl, .inl ⟨_, u, rfl, s4, (hR.next (i := 1) (d := 35) (by decide) (by decide) (by decide) (Below.refl _ _) (fun _ h => h)), .inl (Below.refl _ _)⟩⟩
    · -- 2
      have s5 : ρ (.tmp 5) = .int .i64 (k : Int) := (hρ 5 (by kernel_rfl)).trans rfl
      exact .inl ⟨rfl, .inl ⟨_, u, rfl, s5, (hR.next (i := 2) (d := 36) (by decide) (by decide) (by decide) (Below.refl _ _) (fun _ h => h)), .inl (Below.refl _ _)⟩⟩
    · -- 3
      have kk1 : ρ (.tmp 35) = .slice b n c := hv 1 35 rfl (hdep ⟨1, .data⟩ (by simp) rfl)
      have kk2 : ρ (.tmp 36) = .int .i64 (k : Int) := hv 2 36 rfl (hdep ⟨2, .data⟩ (by simp) rfl)
      exact .inl ⟨rfl, .inl ⟨_, u, run_slice_op rfl kk1 rfl (by simp [kk2]) rfl (cut_lo b n c k u hkn HF.out.2.2.2.2.1 HF.out.2.2.2.2.2.1 HF.out.2.2.2.2.2.2.1), rfl, (hR.next (i := 3) (d := 37) (by decide) (by decide) (by decide) (Below.refl _ _) (fun _ h => h)), .inl (Below.refl _ _)⟩⟩
    · -- 4
      have kk0 : ρ (.tmp 34) = dv a1 a2 a3 a4 m m m m c1 c2 c3 c4 := hv 0 34 rfl (hdep ⟨0, .data⟩ (by simp) rfl)
      have kk3 : ρ (.tmp 37) = .slice b k c := hv 3 37 rfl (hdep ⟨3, .data⟩ (by simp) rfl)
      refine .inl ⟨rfl, .inr (.inl ⟨_, _, run_call_op rfl (hf _) (args := #[dv a1 a2 a3 a4 m m m m c1 c2 c3 c4, .slice b k c]) (by simp [kk0, kk3]) (by kernel_rfl), ?_⟩)⟩
      refine (implApply_t a1 a2 a3 a4 m m m m c1 c2 c3 c4 cs is hs rs k f b c u HF.out.2.1 (H5.out.2.2.1.below hR.1) HF.out.2.2.1 ((H5.out.2.2.2.1.below hR.1).head hkn (Nat.le_trans hkn HF.out.2.2.2.2.1)) (by omega) (fun i hi => HF.out.2.2.2.2.2.2.2.1 i (by omega))).mono ?_
      rintro e u' ⟨p1, p2, p3, p4, gp, he, oD, oL, -, -, b'⟩
      exact ⟨_, he, ⟨p1, p2, p3, p4, gp, rfl, oD.mono hR.1.size, oL⟩, (hR.next (i := 4) (d := 38) (by decide) (by decide) (by decide) b' (fun g h => by obtain ⟨p1, p2, p3, p4, h1, h2⟩ := h; exact ⟨p1, p2, p3, p4, h1.below b', h2.below b'⟩)), .inl b'⟩
    · -- 5
      obtain ⟨p1, p2, p3, p4, gp, kk5, q1, q2⟩ : ∃ p1 p2 p3 p4 gp, ρ (.tmp 38) = .tuple #[dv (some ⟨p1, 0, none⟩) (some ⟨p2, 0, none⟩) (some ⟨p3, 0, none⟩) (some ⟨p4, 0, none⟩) m m m m m m m m, .slice (some ⟨gp, 0, none⟩) k k] ∧ OwnD u W5.heap.size (some ⟨p1, 0, none⟩) (some ⟨p2, 0, none⟩) (some ⟨p3, 0, none⟩) (some ⟨p4, 0, none⟩) m m m m m m m m (apS is rs cs hs f k).1 is (apS is rs cs hs f k).2 rs ∧ LsT u gp k (apA is rs cs hs f) k := hv 4 38 rfl (hdep ⟨4, .data⟩ (by simp) rfl)
      exact .inl ⟨rfl, .inl ⟨_, u, rfl, ⟨p1, p2, p3, p4, gp, kk5, q1, q2⟩, (hR.next (i := 5) (d := 33) (by decide) (by decide) (by decide) (Below.refl _ _) (fun _ h => h)), .inl (Below.refl _ _)⟩⟩
    · -- 6
      obtain ⟨p1, p2, p3, p4, gp, kk5, q1, q2⟩ : ∃ p1 p2 p3 p4 gp, ρ (.tmp 33) = .tuple #[dv (some ⟨p1, 0, none⟩) (some ⟨p2, 0, none⟩) (some ⟨p3, 0, none⟩) (some ⟨p4, 0, none⟩) m m m m m m m m, .slice (some ⟨gp, 0, none⟩) k k] ∧ OwnD u W5.heap.size (some ⟨p1, 0, none⟩) (some ⟨p2, 0, none⟩) (some ⟨p3, 0, none⟩) (some ⟨p4, 0, none⟩) m m m m m m m m (apS is rs cs hs f k).1 is (apS is rs cs hs f k).2 rs ∧ LsT u gp k (apA is rs cs hs f) k := hv 5 33 rfl (hdep ⟨5, .data⟩ (by simp) rfl)
      exact .inl ⟨rfl, .inl ⟨_, u, run_ext_w rfl kk5 rfl, ⟨p1, p2, p3, p4, rfl, q1⟩, (hR.next (i := 6) (d := 39) (by decide) (by decide) (by decide) (Below.refl _ _) (fun _ h => h)), .inl (Below.refl _ _)⟩⟩
    · -- 7
      obtain ⟨p1, p2, p3, p4, gp, kk5, q1, q2⟩ : ∃ p1 p2 p3 p4 gp, ρ (.tmp 33) = .tuple #[dv (some ⟨p1, 0, none⟩) (some ⟨p2, 0, none⟩) (some ⟨p3, 0, none⟩) (some ⟨p4, 0, none⟩) m m m m m m m m, .slice (some ⟨gp, 0, none⟩) k k] ∧ OwnD u W5.heap.size (some ⟨p1, 0, none⟩) (some ⟨p2, 0, none⟩) (some ⟨p3, 0, none⟩) (some ⟨p4, 0, none⟩) m m m m m m m m (apS is rs cs hs f k).1 is (apS is rs cs hs f k).2 rs ∧ LsT u gp k (apA is rs cs hs f) k := hv 5 33 rfl (hdep ⟨5, .data⟩ (by simp) rfl)
      exact .inl ⟨rfl, .inl ⟨_, u, run_ext_w rfl kk5 rfl, ⟨gp, rfl, q2⟩, (hR.next (i := 7) (d := 40) (by decide) (by decide) (by decide) (Below.refl _ _) (fun _ h => h)), .inl (Below.refl _ _)⟩⟩
    · -- 8
      have b' : Below u.heap.size u (u.alloc (.cells #[.slice none 0 0, .slice none 0 0, .slice none 0 0, .slice none 0 0] 27)) := bel_alloc _ _
      have hl9 : l 9 = false := by
        cases h : l 9 with
        | false => rfl
        | true => have h9 := hcl 9 _ rfl h ⟨8, .data⟩ (by simp) rfl; rw [hli] at h9; cases h9
      refine .inl ⟨rfl, .inl ⟨_, _, run_alloc_w 27 rfl #[.slice none 0 0, .slice none 0 0, .slice none 0 0, .slice none 0 0] 4 96 (by kernel_rfl), trivial, ?_, .inl b'⟩⟩
      exact ⟨bel_nx hR.1 b', fun _ => ⟨u.heap.size, updSq, hR.1.size, fun _ => Blk.new _ _ _, fun h => (by rw [updBn (by decide), hl9] at h; cases h)⟩⟩
    · -- 9
      obtain ⟨g, q1, q2, q3, q4⟩ := hR.2 (hdep ⟨8, .data⟩ (by simp) rfl)
      obtain ⟨p1, p2, p3, p4, kk7, oD⟩ : ∃ p1 p2 p3 p4, ρ (.tmp 39) = dv (some ⟨p1, 0, none⟩) (some ⟨p2, 0, none⟩) (some ⟨p3, 0, none⟩) (some ⟨p4, 0, none⟩) m m m m m m m m ∧ OwnD u W5.heap.size (some ⟨p1, 0, none⟩) (some ⟨p2, 0, none⟩) (some ⟨p3, 0, none⟩) (some ⟨p4, 0, none⟩) m m m m m m m m (apS is rs cs hs f k).1 is (apS is rs cs hs f k).2 rs := hv 6 39 rfl (hdep ⟨6, .data⟩ (by simp) rfl)
      have k9 := q3 hli
      have gw : u.grownBy (setL u g 0 [.slice (some ⟨p1, 0, none⟩) m m, .slice (some ⟨p2, 0, none⟩) m m, .slice (some ⟨p3, 0, none⟩) m m, .slice (some ⟨p4, 0, none⟩) m m]) (some g) := setL_gw _ _ _
      have hm : MgD u (setL u g 0 [.slice (some ⟨p1, 0, none⟩) m m, .slice (some ⟨p2, 0, none⟩) m m, .slice (some ⟨p3, 0, none⟩) m m, .slice (some ⟨p4, 0, none⟩) m m]) := .inr ⟨g, _, gw, k9⟩
      have hr : (Instr.storeAt 27 (.pointer (some ⟨g, 0, none⟩)) (dv (some ⟨p1, 0, none⟩) (some ⟨p2, 0, none⟩) (some ⟨p3, 0, none⟩) (some ⟨p4, 0, none⟩) m m m m m m m m)).run Try.prog u = .ok () (setL u g 0 [.slice (some ⟨p1, 0, none⟩) m m, .slice (some ⟨p2, 0, none⟩) m m, .slice (some ⟨p3, 0, none⟩) m m, .slice (some ⟨p4, 0, none⟩) m m]) := by
        have := run_storeAt_mid (P := Try.prog) u g 0 27 #[.slice (some ⟨p1, 0, none⟩) m m, .slice (some ⟨p2, 0, none⟩) m m, .slice (some ⟨p3, 0, none⟩) m m, .slice (some ⟨p4, 0, none⟩) m m] (k9.there 0 4 (by simp)) (by kernel_rfl) (by simp [Value.oneCell'])
        rw [setCells_L] at this
        exact this
      refine .inl ⟨rfl, .inr (.inr ⟨rfl, _, run_store_op rfl q1 kk7 hr, ?_, hm⟩)⟩
      exact ⟨setL_below q2 _ _ _ hR.1, fun _ => ⟨g, q1, q2, fun h => (by rw [updBq] at h; cases h), fun _ => ⟨p1, p2, p3, p4, ((((k9.set 0 _).set 1 _).set 2 _).set 3 _), hm.d oD⟩⟩⟩
    · -- 10
      obtain ⟨gp, kk7, q2⟩ : ∃ gp, ρ (.tmp 40) = .slice (some ⟨gp, 0, none⟩) k k ∧ LsT u gp k (apA is rs cs hs f) k := hv 7 40 rfl (hdep ⟨7, .data⟩ (by simp) rfl)
      exact .inl ⟨rfl, .inl ⟨_, u, rfl, ⟨gp, kk7, q2⟩, (hR.next (i := 10) (d := 9) (by decide) (by decide) (by decide) (Below.refl _ _) (fun _ h => h)), .inl (Below.refl _ _)⟩⟩
  intro vs σ u6 hR hσ hall
  obtain ⟨H0, s8, -, -, hN⟩ := hR.2 rfl
  have v8 : vs 8 = .pointer (some ⟨H0, 0, none⟩) := (hσ 8 8 rfl).trans s8
  obtain ⟨h1, h2, h3, h4, N1, N2⟩ := hN rfl
  obtain ⟨gf, v10, L1⟩ : ∃ gf, vs 10 = .slice (some ⟨gf, 0, none⟩) k k ∧ LsT u6 gf k (apA is rs cs hs f) k := hall 10 9 rfl
  have H6 : Hid (Below w.heap.size w u6 ∧ Rd u6 0 (.list 6 n (fun i => trs (qT (f i)))) (.slice b n c) ∧ Blk u6 G0 27 #[.slice (some ⟨g1, 0, none⟩) m m, .slice (some ⟨g2, 0, none⟩) m m, .slice (some ⟨g3, 0, none⟩) m m, .slice (some ⟨g4, 0, none⟩) m m] ∧ SlD u6 (some ⟨g1, 0, none⟩) (some ⟨g2, 0, none⟩) (some ⟨g3, 0, none⟩) (some ⟨g4, 0, none⟩) (apS is rs cs hs f n).1 is (apS is rs cs hs f n).2 rs ∧ LsT u6 gs n (apA is rs cs hs f) n ∧ Blk u6 H0 27 #[.slice (some ⟨h1, 0, none⟩) m m, .slice (some ⟨h2, 0, none⟩) m m, .slice (some ⟨h3, 0, none⟩) m m, .slice (some ⟨h4, 0, none⟩) m m] ∧ SlD u6 (some ⟨h1, 0, none⟩) (some ⟨h2, 0, none⟩) (some ⟨h3, 0, none⟩) (some ⟨h4, 0, none⟩) (apS is rs cs hs f k).1 is (apS is rs cs hs f k).2 rs ∧ LsT u6 gf k (apA is rs cs hs f) k) := ⟨bel_nx H5.out.1 hR.1, H5.out.2.2.2.1.below hR.1, H5.out.2.2.2.2.1.below hR.1, H5.out.2.2.2.2.2.1.below hR.1, H5.out.2.2.2.2.2.2.below hR.1, N1, N2.sl.2, L1⟩
  simp only [putsL]
  rw [v8, v10]
  clear hall hσ v8 v10 s8 hR N1 N2 L1 hN H5
  have HLk : Hid (LnD m m m m (apS is rs cs hs f k).1 is (apS is rs cs hs f k).2 rs ∧ SmD 2000000 (apS is rs cs hs f k).1 is (apS is rs cs hs f k).2 rs) := by
    have h8 := apS_len is rs cs hs f k
    have h7 := HF.out.2.1
    have h6 := HF.out.2.2.1
    exact ⟨⟨by rw [h8.1]; exact h7.1, h7.2.1, by rw [h8.2]; exact h7.2.2.1, h7.2.2.2⟩, ⟨by rw [h8.1]; exact h6.1, h6.2.1, by rw [h8.2]; exact h6.2.2.1, h6.2.2.2⟩⟩
  obtain ⟨b2, o2, HC⟩ : ∃ (b2 : Option Addr) (o2 : Nat), Hid ((∀ u : World, (Instr.sliceAt 28 (.slice b n c) (some (.int .i64 (k : Int))) none none).run Try.prog u = .ok (.slice b2 (n - k) o2) u) ∧ ∀ u : World, Rd u 0 (.list 6 n (fun i => trs (qT (f i)))) (.slice b n c) → Rd u 0 (.list 6 (n - k) (fun i => trs (qT (f (k + i))))) (.slice b2 (n - k) o2)) := by
    have hf9 := HF.out
    rcases hf9.2.2.2.2.2.2.1 with ⟨hb, hc0⟩ | ⟨g, hb⟩
    · have hn0 : n = 0 := by omega
      have hk0 : k = 0 := by omega
      rw [hb, hc0, hn0, hk0]
      exact ⟨none, 0, fun u => (by kernel_rfl), fun u _ => rd_empty⟩
    · by_cases e : c = k
      · have hnk : n = k := by omega
        rw [hb, e, hnk, Nat.sub_self]
        exact ⟨some ⟨g, 0, none⟩, 0, fun u => cut_end g k u (by omega), fun u _ => rd_empty⟩
      · rw [hb]
        refine ⟨some ⟨g, k * 6, none⟩, c - k, fun u => cut_hi g n c k u hkn hf9.2.2.2.2.1 hf9.2.2.2.2.2.1 e, fun u hu => ?_⟩
        have := Rd.tail (k := k) (c' := c - k) hu hkn (by omega)
        rw [Nat.zero_add] at this
        exact this
  go_upto_region 7 with fail
  try go_simp
  refine wp_region_any (by kernel_rfl) ?_
  refine wpAny_valy (RgB u6 10 (fun u g => ∃ p1 p2 p3 p4, Blk u g 27 #[.slice (some ⟨p1, 0, none⟩) m m, .slice (some ⟨p2, 0, none⟩) m m, .slice (some ⟨p3, 0, none⟩) m m, .slice (some ⟨p4, 0, none⟩) m m] ∧ OwnD u u6.heap.size (some ⟨p1, 0, none⟩) (some ⟨p2, 0, none⟩) (some ⟨p3, 0, none⟩) (some ⟨p4, 0, none⟩) m m m m m m m m (apS is rs (apS is rs cs hs f k).1 (apS is rs cs hs f k).2 (fun i => f (k + i)) (n - k)).1 is (apS is rs (apS is rs cs hs f k).1 (apS is rs cs hs f k).2 (fun i => f (k + i)) (n - k)).2 rs)) MgD (fun i v u => match i with
    | 0 => v = dv (some ⟨h1, 0, none⟩) (some ⟨h2, 0, none⟩) (some ⟨h3, 0, none⟩) (some ⟨h4, 0, none⟩) m m m m m m m m
    | 1 => v = .slice b n c
    | 2 => v = .int .i64 (k : Int)
    | 3 => v = .slice b2 (n - k) o2
    | 4 => ∃ p1 p2 p3 p4 gp, v = .tuple #[dv (some ⟨p1, 0, none⟩) (some ⟨p2, 0, none⟩) (some ⟨p3, 0, none⟩) (some ⟨p4, 0, none⟩) m m m m m m m m, .slice (some ⟨gp, 0, none⟩) (n - k) (n - k)] ∧ OwnD u u6.heap.size (some ⟨p1, 0, none⟩) (some ⟨p2, 0, none⟩) (some ⟨p3, 0, none⟩) (some ⟨p4, 0, none⟩) m m m m m m m m (apS is rs (apS is rs cs hs f k).1 (apS is rs cs hs f k).2 (fun i => f (k + i)) (n - k)).1 is (apS is rs (apS is rs cs hs f k).1 (apS is rs cs hs f k).2 (fun i => f (k + i)) (n - k)).2 rs ∧ LsT u gp (n - k) (apA is rs (apS is rs cs hs f k).1 (apS is rs cs hs f k).2 (fun i => f (k + i))) (n - k)
    | 5 => ∃ p1 p2 p3 p4 gp, v = .tuple #[dv (some ⟨p1, 0, none⟩) (some ⟨p2, 0, none⟩) (some ⟨p3, 0, none⟩) (some ⟨p4, 0, none⟩) m m m m m m m m, .slice (some ⟨gp, 0, none⟩) (n - k) (n - k)] ∧ OwnD u u6.heap.size (some ⟨p1, 0, none⟩) (some ⟨p2, 0, none⟩) (some ⟨p3, 0, none⟩) (some ⟨p4, 0, none⟩) m m m m m m m m (apS is rs (apS is rs cs hs f k).1 (apS is rs cs hs f k).2 (fun i => f (k + i)) (n - k)).1 is (apS is rs (apS is rs cs hs f k).1 (apS is rs cs hs f k).2 (fun i => f (k + i)) (n - k)).2 rs ∧ LsT u gp (n - k) (apA is rs (apS is rs cs hs f k).1 (apS is rs cs hs f k).2 (fun i => f (k + i))) (n - k)
    | 6 => ∃ p1 p2 p3 p4, v = dv (some ⟨p1, 0, none⟩) (some ⟨p2, 0, none⟩) (some ⟨p3, 0, none⟩) (some ⟨p4, 0, none⟩) m m m m m m m m ∧ OwnD u u6.heap.size (some ⟨p1, 0, none⟩) (some ⟨p2, 0, none⟩) (some ⟨p3, 0, none⟩) (some ⟨p4, 0, none⟩) m m m m m m m m (apS is rs (apS is rs cs hs f k).1 (apS is rs cs hs f k).2 (fun i => f (k + i)) (n - k)).1 is (apS is rs (apS is rs cs hs f k).1 (apS is rs cs hs f k).2 (fun i => f (k + i)) (n - k)).2 rs
    | 7 => ∃ gp, v = .slice (some ⟨gp, 0, none⟩) (n - k) (n - k) ∧ LsT u gp (n - k) (apA is rs (apS is rs cs hs f k).1 (apS is rs cs hs f k).2 (fun i => f (k + i))) (n - k)
    | 10 => ∃ gp, v = .slice (some ⟨gp, 0, none⟩) (n - k) (n - k) ∧ LsT u gp (n - k) (apA is rs (apS is rs cs hs f k).1 (apS is rs cs hs f k).2 (fun i => f (k + i))) (n - k)
    | _ => True) (by kernel_rfl) (by kernel_rfl) ?_ (fun u => .inl (Below.refl _ _)) ⟨by first | exact Below.refl _ _ | exact (Below.refl _ _).drew, fun h => (by cases h)⟩ ?_ ?_ _ _ rfl (by decide) (fun i => by simp [Array.getD]; try (split <;> rfl))
  · intro i v u u' h hm
    match i with
    | 0 => exact h
    | 1 => exact h
    | 2 => exact h
    | 3 => exact h
    | 4 =>
      obtain ⟨p1, p2, p3, p4, gp, e, q1, q2⟩ := h
      exact ⟨p1, p2, p3, p4, gp, e, hm.d q1, hm.t q2⟩
    | 5 =>
      obtain ⟨p1, p2, p3, p4, gp, e, q1, q2⟩ := h
      exact ⟨p1, p2, p3, p4, gp, e, hm.d q1, hm.t q2⟩
    | 6 =>
      obtain ⟨p1, p2, p3, p4, e, q1⟩ := h
      exact ⟨p1, p2, p3, p4, e, hm.d q1⟩
    | 7 =>
      obtain ⟨gp, e, q2⟩ := h
      exact ⟨gp, e, hm.t q2⟩
    | 8 => trivial
    | 9 => trivial
    | 10 =>
      obtain ⟨gp, e, q2⟩ := h
      exact ⟨gp, e, hm.t q2⟩
    | _ + 11 => trivial
  rotate_left
  · intro u i o ρ l hR ho hli hcl hρ hc hf hdep hv
    have hi : i < 11 := by
      have := (Array.getElem?_eq_some_iff.1 ho).1
      simpa using this
    obtain rfl | rfl | rfl | rfl | rfl | rfl | rfl | rfl | rfl | rfl | rfl : i = 0 ∨ i = 1 ∨ i = 2 ∨ i = 3 ∨ i = 4 ∨ i = 5 ∨ i = 6 ∨ i = 7 ∨ i = 8 ∨ i = 9 ∨ i = 10 := by omega
    all_goals (simp only [List.getElem?_toArray, List.getElem?_cons_zero, List.getElem?_cons_succ, Option.some.injEq] at ho; subst ho)
    · -- 0
      have s6 : ρ (.tmp 8) = .pointer (some ⟨H0, 0, none⟩) := (hρ 8 (by kernel_rfl)).trans rfl
      exact .inl ⟨rfl, .inl ⟨_, u, run_load_op rfl s6 (run_loadAt_mid u H0 0 27 [.slice (some ⟨h1, 0, none⟩) m m, .slice (some ⟨h2, 0, none⟩) m m, .slice (some ⟨h3, 0, none⟩) m m, .slice (some ⟨h4, 0, none⟩) m m] _ (Blk.rng (l := [.slice (some ⟨h1, 0, none⟩) m m, .slice (some ⟨h2, 0, none⟩) m m, .slice (some ⟨h3, 0, none⟩) m m, .slice (some ⟨h4, 0, none⟩) m m]) (H6.out.2.2.2.2.2.1.below hR.1)) Try.underlying27 rfl (by kernel_rfl)), rfl, (hR.next (i := 0) (d := 42) (by decide) (by decide) (by decide) (Below.refl _ _) (fun _ h => h)), .inl (Below.refl _ _)⟩⟩
    · -- 1
      have s4 : ρ (.tmp 4) = .slice b n c := (hρ 4 (by kernel_rfl)).trans rfl
      exact .inl ⟨rfl, .inl ⟨_, u, rfl, s4, (hR.next (i := 1) (d := 43) (by decide) (by decide) (by decide) (Below.refl _ _) (fun _ h => h)), .inl (Below.refl _ _)⟩⟩
    · -- 2
      have s5 : ρ (.tmp 5) = .int .i64 (k : Int) := (hρ 5 (by kernel_rfl)).trans rfl
      exact .inl ⟨rfl, .inl ⟨_, u, rfl, s5, (hR.next (i := 2) (d := 44) (by decide) (by decide) (by decide) (Below.refl _ _) (fun _ h => h)), .inl (Below.refl _ _)⟩⟩
    · -- 3
      have kk1 : ρ (.tmp 43) = .slice b n c := hv 1 43 rfl (hdep ⟨1, .data⟩ (by simp) rfl)
      have kk2 : ρ (.tmp 44) = .int .i64 (k : Int) := hv 2 44 rfl (hdep ⟨2, .data⟩ (by simp) rfl)
      exact .inl ⟨rfl, .inl ⟨_, u, run_slice_op rfl kk1 (by simp [kk2]) rfl rfl (HC.out.1 u), rfl, (hR.next (i := 3) (d := 45) (by decide) (by decide) (by decide) (Below.refl _ _) (fun _ h => h)), .inl (Below.refl _ _)⟩⟩
    · -- 4
      have kk0 : ρ (.tmp 42) = dv (some ⟨h1, 0, none⟩) (some ⟨h2, 0, none⟩) (some ⟨h3, 0, none⟩) (some ⟨h4, 0, none⟩) m m m m m m m m := hv 0 42 rfl (hdep ⟨0, .data⟩ (by simp) rfl)
      have kk3 : ρ (.tmp 45) = .slice b2 (n - k) o2 := hv 3 45 rfl (hdep ⟨3, .data⟩ (by simp) rfl)
      refine .inl ⟨rfl, .inr (.inl ⟨_, _, run_call_op rfl (hf _) (args := #[dv (some ⟨h1, 0, none⟩) (some ⟨h2, 0, none⟩) (some ⟨h3, 0, none⟩) (some ⟨h4, 0, none⟩) m m m m m m m m, .slice b2 (n - k) o2]) (by simp [kk0, kk3]) (by kernel_rfl), ?_⟩)⟩
      refine (implApply_t (some ⟨h1, 0, none⟩) (some ⟨h2, 0, none⟩) (some ⟨h3, 0, none⟩) (some ⟨h4, 0, none⟩) m m m m m m m m (apS is rs cs hs f k).1 is (apS is rs cs hs f k).2 rs (n - k) (fun i => f (k + i)) b2 o2 u HLk.out.1 (H6.out.2.2.2.2.2.2.1.below hR.1) HLk.out.2 (HC.out.2 u (H6.out.2.1.below hR.1)) (by omega) (fun i hi => HF.out.2.2.2.2.2.2.2.1 (k + i) (by omega))).mono ?_
      rintro e u' ⟨p1, p2, p3, p4, gp, he, oD, oL, -, -, b'⟩
      exact ⟨_, he, ⟨p1, p2, p3, p4, gp, rfl, oD.mono hR.1.size, oL⟩, (hR.next (i := 4) (d := 46) (by decide) (by decide) (by decide) b' (fun g h => by obtain ⟨p1, p2, p3, p4, h1, h2⟩ := h; exact ⟨p1, p2, p3, p4, h1.below b', h2.below b'⟩)), .inl b'⟩
    · -- 5
      obtain ⟨p1, p2, p3, p4, gp, kk5, q1, q2⟩ : ∃ p1 p2 p3 p4 gp, ρ (.tmp 46) = .tuple #[dv (some ⟨p1, 0, none⟩) (some ⟨p2, 0, none⟩) (some ⟨p3, 0, none⟩) (some ⟨p4, 0, none⟩) m m m m m m m m, .slice (some ⟨gp, 0, none⟩) (n - k) (n - k)] ∧ OwnD u u6.heap.size (some ⟨p1, 0, none⟩) (some ⟨p2, 0, none⟩) (some ⟨p3, 0, none⟩) (some ⟨p4, 0, none⟩) m m m m m m m m (apS is rs (apS is rs cs hs f k).1 (apS is rs cs hs f k).2 (fun i => f (k + i)) (n - k)).1 is (apS is rs (apS is rs cs hs f k).1 (apS is rs cs hs f k).2 (fun i => f (k + i)) (n - k)).2 rs ∧ LsT u gp (n - k) (apA is rs (apS is rs cs hs f k).1 (apS is rs cs hs f k).2 (fun i => f (k + i))) (n - k) := hv 4 46 rfl (hdep ⟨4, .data⟩ (by simp) rfl)
      exact .inl ⟨rfl, .inl ⟨_, u, rfl, ⟨p1, p2, p3, p4, gp, kk5, q1, q2⟩, (hR.next (i := 5) (d := 41) (by decide) (by decide) (by decide) (Below.refl _ _) (fun _ h => h)), .inl (Below.refl _ _)⟩⟩
    · -- 6
      obtain ⟨p1, p2, p3, p4, gp, kk5, q1, q2⟩ : ∃ p1 p2 p3 p4 gp, ρ (.tmp 41) = .tuple #[dv (some ⟨p1, 0, none⟩) (some ⟨p2, 0, none⟩) (some ⟨p3, 0, none⟩) (some ⟨p4, 0, none⟩) m m m m m m m m, .slice (some ⟨gp, 0, none⟩) (n - k) (n - k)] ∧ OwnD u u6.heap.size (some ⟨p1, 0, none⟩) (some ⟨p2, 0, none⟩) (some ⟨p3, 0, none⟩) (some ⟨p4, 0, none⟩) m m m m m m m m (apS is rs (apS is rs cs hs f k).1 (apS is rs cs hs f k).2 (fun i => f (k + i)) (n - k)).1 is (apS is rs (apS is rs cs hs f k).1 (apS is rs cs hs f k).2 (fun i => f (k + i)) (n - k)).2 rs ∧ LsT u gp (n - k) (apA is rs (apS is rs cs hs f k).1 (apS is rs cs hs f k).2 (fun i => f (k + i))) (n - k) := hv 5 41 rfl (hdep ⟨5, .data⟩ (by simp) rfl)
      exact .inl ⟨rfl, .inl ⟨_, u, run_ext_w rfl kk5 rfl, ⟨p1, p2, p3, p4, rfl, q1⟩, (hR.next (i := 6) (d := 47) (by decide) (by decide) (by decide) (Below.refl _ _) (fun _ h => h)), .inl (Below.refl _ _)⟩⟩
    · -- 7
      obtain ⟨p1, p2, p3, p4, gp, kk5, q1, q2⟩ : ∃ p1 p2 p3 p4 gp, ρ (.tmp 41) = .tuple #[dv (some ⟨p1, 0, none⟩) (some ⟨p2, 0, none⟩) (some ⟨p3, 0, none⟩) (some ⟨p4, 0, none⟩) m m m m m m m m, .slice (some ⟨gp, 0, none⟩) (n - k) (n - k)] ∧ OwnD u u6.heap.size (some ⟨p1, 0, none⟩) (some ⟨p2, 0, none⟩) (some ⟨p3, 0, none⟩) (some ⟨p4, 0, none⟩) m m m m m m m m (apS is rs (apS is rs cs hs f k).1 (apS is rs cs hs f k).2 (fun i => f (k + i)) (n - k)).1 is (apS is rs (apS is rs cs hs f k).1 (apS is rs cs hs f k).2 (fun i => f (k + i)) (n - k)).2 rs ∧ LsT u gp (n - k) (apA is rs (apS is rs cs hs f k).1 (apS is rs cs hs f k).2 (fun i => f (k + i))) (n - k) := hv 5 41 rfl (hdep ⟨5, .data⟩ (by simp) rfl)
      exact .inl ⟨rfl, .inl ⟨_, u, run_ext_w rfl kk5 rfl, ⟨gp, rfl, q2⟩, (hR.next (i := 7) (d := 48) (by decide) (by decide) (by decide) (Below.refl _ _) (fun _ h => h)), .inl (Below.refl _ _)⟩⟩
    · -- 8
      have b' : Below u.heap.size u (u.alloc (.cells #[.slice none 0 0, .slice none 0 0, .slice none 0 0, .slice none 0 0] 27)) := bel_alloc _ _
      have hl9 : l 9 = false := by
        cases h : l 9 with
        | false => rfl
        | true => have h9 := hcl 9 _ rfl h ⟨8, .data⟩ (by simp) rfl; rw [hli] at h9; cases h9
      refine .inl ⟨rfl, .inl ⟨_, _, run_alloc_w 27 rfl #[.slice none 0 0, .slice none 0 0, .slice none 0 0, .slice none 0 0] 4 96 (by kernel_rfl), trivial, ?_, .inl b'⟩⟩
      exact ⟨bel_nx hR.1 b', fun _ => ⟨u.heap.size, updSq, hR.1.size, fun _ => Blk.new _ _ _, fun h => (by rw [updBn (by decide), hl9] at h; cases h)⟩⟩
    · -- 9
      obtain ⟨g, q1, q2, q3, q4⟩ := hR.2 (hdep ⟨8, .data⟩ (by simp) rfl)
      obtain ⟨p1, p2, p3, p4, kk7, oD⟩ : ∃ p1 p2 p3 p4, ρ (.tmp 47) = dv (some ⟨p1, 0, none⟩) (some ⟨p2, 0, none⟩) (some ⟨p3, 0, none⟩) (some ⟨p4, 0, none⟩) m m m m m m m m ∧ OwnD u u6.heap.size (some ⟨p1, 0, none⟩) (some ⟨p2, 0, none⟩) (some ⟨p3, 0, none⟩) (some ⟨p4, 0, none⟩) m m m m m m m m (apS is rs (apS is rs cs hs f k).1 (apS is rs cs hs f k).2 (fun i => f (k + i)) (n - k)).1 is (apS is rs (apS is rs cs hs f k).1 (apS is rs cs hs f k).2 (fun i => f (k + i)) (n - k)).2 rs := hv 6 47 rfl (hdep ⟨6, .data⟩ (by simp) rfl)
      have k9 := q3 hli
      have gw : u.grownBy (setL u g 0 [.slice (some ⟨p1, 0, none⟩) m m, .slice (some ⟨p2, 0, none⟩) m m, .slice (some ⟨p3, 0, none⟩) m m, .slice (some ⟨p4, 0, none⟩) m m]) (some g) := setL_gw _ _ _
      have hm : MgD u (setL u g 0 [.slice (some ⟨p1, 0, none⟩) m m, .slice (some ⟨p2, 0, none⟩) m m, .slice (some ⟨p3, 0, none⟩) m m, .slice (some ⟨p4, 0, none⟩) m m]) := .inr ⟨g, _, gw, k9⟩
      have hr : (Instr.storeAt 27 (.pointer (some ⟨g, 0, none⟩)) (dv (some ⟨p1, 0, none⟩) (some ⟨p2, 0, none⟩) (some ⟨p3, 0, none⟩) (some ⟨p4, 0, none⟩) m m m m m m m m)).run Try.prog u = .ok () (setL u g 0 [.slice (some ⟨p1, 0, none⟩) m m, .slice (some ⟨p2, 0, none⟩) m m, .slice (some ⟨p3, 0, none⟩) m m, .slice (some ⟨p4, 0, none⟩) m m]) := by
        have := run_storeAt_mid (P := Try.prog) u g 0 27 #[.slice (some ⟨p1, 0, none⟩) m m, .slice (some ⟨p2, 0, none⟩) m m, .slice (some ⟨p3, 0, none⟩) m m, .slice (some ⟨p4, 0, none⟩) m m] (k9.there 0 4 (by simp)) (by kernel_rfl) (by simp [Value.oneCell'])
        rw [setCells_L] at this
        exact this
      refine .inl ⟨rfl, .inr (.inr ⟨rfl, _, run_store_op rfl q1 kk7 hr, ?_, hm⟩)⟩
      exact ⟨setL_below q2 _ _ _ hR.1, fun _ => ⟨g, q1, q2, fun h => (by rw [updBq] at h; cases h), fun _ => ⟨p1, p2, p3, p4, ((((k9.set 0 _).set 1 _).set 2 _).set 3 _), hm.d oD⟩⟩⟩
    · -- 10
      obtain ⟨gp, kk7, q2⟩ : ∃ gp, ρ (.tmp 48) = .slice (some ⟨gp, 0, none⟩) (n - k) (n - k) ∧ LsT u gp (n - k) (apA is rs (apS is rs cs hs f k).1 (apS is rs cs hs f k).2 (fun i => f (k + i))) (n - k) := hv 7 48 rfl (hdep ⟨7, .data⟩ (by simp) rfl)
      exact .inl ⟨rfl, .inl ⟨_, u, rfl, ⟨gp, kk7, q2⟩, (hR.next (i := 10) (d := 11) (by decide) (by decide) (by decide) (Below.refl _ _) (fun _ h => h)), .inl (Below.refl _ _)⟩⟩
  intro vs σ u7 hR hσ hall
  obtain ⟨J0, s8, -, -, hN⟩ := hR.2 rfl
  have v8 : vs 8 = .pointer (some ⟨J0, 0, none⟩) := (hσ 8 10 rfl).trans s8
  obtain ⟨j1, j2, j3, j4, N1, N2⟩ := hN rfl
  obtain ⟨ge, v10, L1⟩ : ∃ ge, vs 10 = .slice (some ⟨ge, 0, none⟩) (n - k) (n - k) ∧ LsT u7 ge (n - k) (apA is rs (apS is rs cs hs f k).1 (apS is rs cs hs f k).2 (fun i => f (k + i))) (n - k) := hall 10 11 rfl
  have HE : Hid ((apS is rs (apS is rs cs hs f k).1 (apS is rs cs hs f k).2 (fun i => f (k + i)) (n - k)).1 = (apS is rs cs hs f n).1 ∧ (apS is rs (apS is rs cs hs f k).1 (apS is rs cs hs f k).2 (fun i => f (k + i)) (n - k)).2 = (apS is rs cs hs f n).2 ∧ ∀ i, (apA is rs (apS is rs cs hs f k).1 (apS is rs cs hs f k).2 (fun i => f (k + i))) i = (apA is rs cs hs f) (k + i)) := by
    have h9 := apS_add is rs cs hs f k (n - k)
    rw [show k + (n - k) = n by omega] at h9
    exact ⟨by rw [← h9], by rw [← h9], fun i => (apA_add is rs cs hs f k i).symm⟩
  have H7 : Hid (Below w.heap.size w u7 ∧ Blk u7 G0 27 #[.slice (some ⟨g1, 0, none⟩) m m, .slice (some ⟨g2, 0, none⟩) m m, .slice (some ⟨g3, 0, none⟩) m m, .slice (some ⟨g4, 0, none⟩) m m] ∧ SlD u7 (some ⟨g1, 0, none⟩) (some ⟨g2, 0, none⟩) (some ⟨g3, 0, none⟩) (some ⟨g4, 0, none⟩) (apS is rs cs hs f n).1 is (apS is rs cs hs f n).2 rs ∧ LsT u7 gs n (apA is rs cs hs f) n ∧ LsT u7 gf k (apA is rs cs hs f) k ∧ Blk u7 J0 27 #[.slice (some ⟨j1, 0, none⟩) m m, .slice (some ⟨j2, 0, none⟩) m m, .slice (some ⟨j3, 0, none⟩) m m, .slice (some ⟨j4, 0, none⟩) m m] ∧ SlD u7 (some ⟨j1, 0, none⟩) (some ⟨j2, 0, none⟩) (some ⟨j3, 0, none⟩) (some ⟨j4, 0, none⟩) (apS is rs cs hs f n).1 is (apS is rs cs hs f n).2 rs ∧ LsT u7 ge (n - k) (apA is rs (apS is rs cs hs f k).1 (apS is rs cs hs f k).2 (fun i => f (k + i))) (n - k)) := ⟨bel_nx H6.out.1 hR.1, H6.out.2.2.1.below hR.1, H6.out.2.2.2.1.below hR.1, H6.out.2.2.2.2.1.below hR.1, H6.out.2.2.2.2.2.2.2.below hR.1, N1, by have h8 := N2.sl.2; rw [HE.out.1, HE.out.2.1] at h8; exact h8, L1⟩
  simp only [putsL]
  rw [v8, v10]
  clear hall hσ v8 v10 s8 hR N1 N2 L1 hN H6 HC HLk
  have e1 : ((n : Int) != (n : Int)) = false := by simp
  have e2 : (((k : Int) + ((n - k : Nat) : Int)) != (n : Int)) = false := by simp; omega
  have w9 : IntKind.i64.wrap ((k : Int) + ((n - k : Nat) : Int)) = (k : Int) + ((n - k : Nat) : Int) := by rw [IntKind.wrap_i64]; omega
  go_wp2
  clear e1 e2 w9
  go_loopw [12] (fun i wr => ∃ q : Nat, q ≤ n ∧ i = .int .i64 q ∧ Below u7.heap.size u7 wr) (fun i _ => n - (intOf i).toNat)
  case atStart => exact ⟨0, Nat.zero_le _, rfl, by first | exact Below.refl _ _ | exact (Below.refl _ _).drew⟩
  case round =>
    obtain ⟨q, hq, rfl, hbl⟩ := hrel
    by_cases hlt : q < n
    · have hi : (q : Int) < (n : Int) := by omega
      obtain ⟨W8, hW8⟩ : ∃ W8, W8 = wr.alloc (.cells #[] 37) := ⟨_, rfl⟩
      have H8 : Hid (Below u7.heap.size u7 wr ∧ Below wr.heap.size wr W8 ∧ LsW W8 wr.heap.size (.slice (some ⟨wr.heap.size, 0, none⟩) 0 0) 0 (fun _ => default) ∧ LsT wr gf k (apA is rs cs hs f) k ∧ LsT wr ge (n - k) (apA is rs (apS is rs cs hs f k).1 (apS is rs cs hs f k).2 (fun i => f (k + i))) (n - k) ∧ LsT wr gs n (apA is rs cs hs f) n) := by
        have b8 : Below wr.heap.size wr W8 := by rw [hW8]; exact bel_alloc _ _
        have h7 := H7.out
        refine ⟨hbl, b8, ⟨fun _ => [], ⟨rfl, .inr ⟨wr.heap.size, 0, #[], rfl, Nat.le_refl _, ?_, by simp, by simp, rfl, rfl⟩⟩, fun k hk => absurd hk (Nat.not_lt_zero _)⟩, h7.2.2.2.2.1.below hbl, h7.2.2.2.2.2.2.2.below hbl, h7.2.2.2.1.below hbl⟩
        rw [hW8]
        exact Blk.new wr #[] 37
      have hnn : k + (n - k) = n := by omega
      have HNN : Hid (k + (n - k) = n) := hnn
      clear hbl hnn
      go_upto_region 14 with (at_builtin; first | (rw [← hW8]; refine wpList_appN rfl (.tmp 70) (.tmp 71) rfl wr.heap.size (.slice (some ⟨wr.heap.size, 0, none⟩) 0 0) 0 (fun _ => default) rfl H8.out.2.2.1 gf k k (apA is rs cs hs f) rfl (H8.out.2.2.2.1.below H8.out.2.1) (by omega) (by omega) H8.out.2.1.size ?_; intro v' u9 L9 g9 hk9; obtain ⟨ax, cx, hv⟩ := L9.shape; subst hv; simp only [Nat.zero_add] at L9 ⊢; have H9 : Hid (LsW u9 wr.heap.size (.slice ax k cx) k (fun i => if i < 0 then default else (apA is rs cs hs f) (i - 0)) ∧ Below wr.heap.size wr u9) := ⟨L9, H8.out.2.1.grown g9 H8.out.2.1.size hk9⟩; clear L9 g9 hk9) | (refine wpList_appN rfl (.tmp 72) (.tmp 73) rfl wr.heap.size (.slice ax k cx) k (fun i => if i < 0 then default else (apA is rs cs hs f) (i - 0)) rfl H9.out.1 ge (n - k) (n - k) (apA is rs (apS is rs cs hs f k).1 (apS is rs cs hs f k).2 (fun i => f (k + i))) rfl (H8.out.2.2.2.2.1.below H9.out.2) (by omega) (by omega) H9.out.2.size ?_; intro v' u10 L10 g10 hk10; obtain ⟨ay, cy, hv⟩ := L10.shape; subst hv; rw [HNN.out] at L10; rw [HNN.out]; have H10 : Hid (LsW u10 wr.heap.size (.slice ay n cy) n (apA is rs cs hs f) ∧ Below wr.heap.size wr u10) := ⟨L10.congr rfl (fun i hi => (by rw [appl_at HE.out.2.2 i])), H9.out.2.grown g10 H9.out.2.size hk10⟩; clear L10 g10 hk10))
      have hX := (H10.out.1.rd (by omega) HF.out.2.2.2.2.2.2.2.2.2).2
      obtain ⟨bx, ox, vx, rfl, _, hbx, hlx, hrx, hdx⟩ := hX.at hlt
      obtain ⟨t1, j1, t2, j2, rfl, rt1, rt2⟩ := VA.cells hdx hlx
      have hY := (H8.out.2.2.2.2.2.rd (by omega) HF.out.2.2.2.2.2.2.2.2.2).below H10.out.2
      obtain ⟨by', oy, vy, ey, _, hby, hly, hry, hdy⟩ := hY.at hlt
      simp only [Option.some.injEq, Addr.mk.injEq, and_true] at ey
      obtain ⟨rfl, rfl⟩ := ey
      obtain ⟨r1, l1, r2, l2, rfl, rr1, rr2⟩ := VA.cells hdy hly
      have HK : Hid (bx < u10.heap.size ∧ u10.rangeAt bx (ox + q * 6) (aL (apA is rs cs hs f q) t1 (apA is rs cs hs f q).ws.length j1 t2 (apA is rs cs hs f q).bs.length j2) ∧ gs < u10.heap.size ∧ u10.rangeAt gs (0 + q * 6) (aL (apA is rs cs hs f q) r1 (apA is rs cs hs f q).ws.length l1 r2 (apA is rs cs hs f q).bs.length l2) ∧ (SlI u10 t1 (apA is rs cs hs f q).ws ∧ SlB u10 t2 (apA is rs cs hs f q).bs ∧ SlI u10 r1 (apA is rs cs hs f q).ws ∧ SlB u10 r2 (apA is rs cs hs f q).bs) ∧ (apA is rs cs hs f q).ws.length ≤ 2000000 ∧ (apA is rs cs hs f q).bs.length ≤ 2000000) := ⟨hbx, hrx, hby, hry, ⟨rt1.int4, rt2.bool4, rr1.int4, rr2.bool4⟩, (by have := HF.out.2.2.2.2.2.2.2.1 q hlt; have h9 := apA_len is rs cs hs f q; have h8 := HEL.out.1 q hlt; have h6 := HEL.out.2; have h7 := HF.out.2.1; have h51 := h7.2.2.1; have h52 := h7.2.2.2; exact ⟨by omega, by omega⟩)⟩
      clear hX hlx hdx hly hdy hbx hrx hby hry rt1 rt2 rr1 rr2 hW8
      refine wp_region_any (by kernel_rfl) ?_
      refine wpAny_vals (fun u => Below u10.heap.size u10 u) (fun i v u => match i with
        | 0 => v = .slice (some ⟨bx, ox, none⟩) n cy
        | 1 => v = .int .i64 (q : Int)
        | 2 => v = .pointer (some ⟨bx, ox + q * 6, none⟩)
        | 3 => v = .agg (aL (apA is rs cs hs f q) t1 (apA is rs cs hs f q).ws.length j1 t2 (apA is rs cs hs f q).bs.length j2).toArray
        | 4 => v = .slice (some ⟨gs, 0, none⟩) n n
        | 5 => v = .int .i64 (q : Int)
        | 6 => v = .pointer (some ⟨gs, 0 + q * 6, none⟩)
        | 7 => v = .agg (aL (apA is rs cs hs f q) r1 (apA is rs cs hs f q).ws.length l1 r2 (apA is rs cs hs f q).bs.length l2).toArray
        | 8 => v = .bool true
        | 9 => v = .bool false
        | _ => True) (by kernel_rfl) (by kernel_rfl) (fun _ _ _ _ h _ => h) (by first | exact Below.refl _ _ | exact (Below.refl _ _).drew) ?_ ?_ _ _ rfl (by decide) (fun i => by simp [Array.getD]; try (split <;> rfl))
      · intro vs u hR hall
        have e9 : vs 9 = .bool false := hall 9 (by simp)
        simp only [putsL]
        rw [e9]
        clear hall e9
        have HF2 : Hid (Below u7.heap.size u7 u) := bel_nx (bel_nx H8.out.1 H10.out.2) hR
        clear HK H8 H9 H10 hR
        go_simp
        go_wp2
        go_roundw
        case rel => exact ⟨q + 1, by omega, by go_num, HF2.out⟩
        case measure => simp [intOf]; omega
      · intro u i o ρ hR ho hρ hc hf hd
        have hi : i < 10 := by
          have := (Array.getElem?_eq_some_iff.1 ho).1
          simpa using this
        obtain rfl | rfl | rfl | rfl | rfl | rfl | rfl | rfl | rfl | rfl : i = 0 ∨ i = 1 ∨ i = 2 ∨ i = 3 ∨ i = 4 ∨ i = 5 ∨ i = 6 ∨ i = 7 ∨ i = 8 ∨ i = 9 := by omega
        all_goals (simp only [List.getElem?_toArray, List.getElem?_cons_zero, List.getElem?_cons_succ, Option.some.injEq] at ho; subst ho)
        · -- 0
          have s13 : ρ (.tmp 13) = .slice (some ⟨bx, ox, none⟩) n cy := (hρ 13 (by kernel_rfl)).trans rfl
          exact .inl ⟨rfl, .inl ⟨_, u, rfl, s13, hR, Below.refl _ _⟩⟩
        · -- 1
          have s12 : ρ (.tmp 12) = .int .i64 (q : Int) := (hρ 12 (by kernel_rfl)).trans rfl
          exact .inl ⟨rfl, .inl ⟨_, u, rfl, s12, hR, Below.refl _ _⟩⟩
        · -- 2
          have h0 : ρ (.tmp 75) = .slice (some ⟨bx, ox, none⟩) n cy := hd ⟨0, .data⟩ (by simp) rfl 75 rfl
          have h1 : ρ (.tmp 76) = .int .i64 (q : Int) := hd ⟨1, .data⟩ (by simp) rfl 76 rfl
          exact .inl ⟨rfl, .inl ⟨.pointer (some ⟨bx, ox + q * 6, none⟩), u, run_index_op rfl h0 h1 (by go_simp), rfl, hR, Below.refl _ _⟩⟩
        · -- 3
          have h2 : ρ (.tmp 77) = .pointer (some ⟨bx, ox + q * 6, none⟩) := hd ⟨2, .data⟩ (by simp) rfl 77 rfl
          have hr : (Instr.loadAt 37 (.pointer (some ⟨bx, ox + q * 6, none⟩))).run Try.prog u = .ok (.agg (aL (apA is rs cs hs f q) t1 (apA is rs cs hs f q).ws.length j1 t2 (apA is rs cs hs f q).bs.length j2).toArray) u := run_loadAt_mid u bx (ox + q * 6) 37 (aL (apA is rs cs hs f q) t1 (apA is rs cs hs f q).ws.length j1 t2 (apA is rs cs hs f q).bs.length j2) _ (rangeAt_below HK.out.2.1 HK.out.1 hR) Try.underlying37 rfl (by kernel_rfl)
          exact .inl ⟨rfl, .inl ⟨.agg (aL (apA is rs cs hs f q) t1 (apA is rs cs hs f q).ws.length j1 t2 (apA is rs cs hs f q).bs.length j2).toArray, u, run_load_op rfl h2 hr, rfl, hR, Below.refl _ _⟩⟩
        · -- 4
          have s7 : ρ (.tmp 7) = .slice (some ⟨gs, 0, none⟩) n n := (hρ 7 (by kernel_rfl)).trans rfl
          exact .inl ⟨rfl, .inl ⟨_, u, rfl, s7, hR, Below.refl _ _⟩⟩
        · -- 5
          have s12 : ρ (.tmp 12) = .int .i64 (q : Int) := (hρ 12 (by kernel_rfl)).trans rfl
          exact .inl ⟨rfl, .inl ⟨_, u, rfl, s12, hR, Below.refl _ _⟩⟩
        · -- 6
          have h4 : ρ (.tmp 79) = .slice (some ⟨gs, 0, none⟩) n n := hd ⟨4, .data⟩ (by simp) rfl 79 rfl
          have h5 : ρ (.tmp 80) = .int .i64 (q : Int) := hd ⟨5, .data⟩ (by simp) rfl 80 rfl
          exact .inl ⟨rfl, .inl ⟨.pointer (some ⟨gs, 0 + q * 6, none⟩), u, run_index_op rfl h4 h5 (by go_simp), rfl, hR, Below.refl _ _⟩⟩
        · -- 7
          have h6 : ρ (.tmp 81) = .pointer (some ⟨gs, 0 + q * 6, none⟩) := hd ⟨6, .data⟩ (by simp) rfl 81 rfl
          have hr : (Instr.loadAt 37 (.pointer (some ⟨gs, 0 + q * 6, none⟩))).run Try.prog u = .ok (.agg (aL (apA is rs cs hs f q) r1 (apA is rs cs hs f q).ws.length l1 r2 (apA is rs cs hs f q).bs.length l2).toArray) u := run_loadAt_mid u gs (0 + q * 6) 37 (aL (apA is rs cs hs f q) r1 (apA is rs cs hs f q).ws.length l1 r2 (apA is rs cs hs f q).bs.length l2) _ (rangeAt_below HK.out.2.2.2.1 HK.out.2.2.1 hR) Try.underlying37 rfl (by kernel_rfl)
          exact .inl ⟨rfl, .inl ⟨.agg (aL (apA is rs cs hs f q) r1 (apA is rs cs hs f q).ws.length l1 r2 (apA is rs cs hs f q).bs.length l2).toArray, u, run_load_op rfl h6 hr, rfl, hR, Below.refl _ _⟩⟩
        · -- 8
          have h3 : ρ (.tmp 78) = .agg (aL (apA is rs cs hs f q) t1 (apA is rs cs hs f q).ws.length j1 t2 (apA is rs cs hs f q).bs.length j2).toArray := hd ⟨3, .data⟩ (by simp) rfl 78 rfl
          have h7 : ρ (.tmp 82) = .agg (aL (apA is rs cs hs f q) r1 (apA is rs cs hs f q).ws.length l1 r2 (apA is rs cs hs f q).bs.length l2).toArray := hd ⟨7, .data⟩ (by simp) rfl 82 rfl
          refine .inl ⟨rfl, .inr ⟨_, _, run_call_op rfl (hf _) (args := #[.agg (aL (apA is rs cs hs f q) t1 (apA is rs cs hs f q).ws.length j1 t2 (apA is rs cs hs f q).bs.length j2).toArray, .agg (aL (apA is rs cs hs f q) r1 (apA is rs cs hs f q).ws.length l1 r2 (apA is rs cs hs f q).bs.length l2).toArray]) (by simp [h3, h7]) (by kernel_rfl), ?_⟩⟩
          refine (lawSameResp_t (apA is rs cs hs f q).kd (apA is rs cs hs f q).fl (apA is rs cs hs f q).pl (apA is rs cs hs f q).n t1 t2 r1 r2 (apA is rs cs hs f q).ws.length (apA is rs cs hs f q).bs.length j1 j2 (apA is rs cs hs f q).ws.length (apA is rs cs hs f q).bs.length l1 l2 _ (apA is rs cs hs f q).ws rfl rfl (HK.out.2.2.2.2.1.1.below hR) (HK.out.2.2.2.2.1.2.2.1.below hR) HK.out.2.2.2.2.2.1 (apA is rs cs hs f q).bs rfl rfl (HK.out.2.2.2.2.1.2.1.below hR) (HK.out.2.2.2.2.1.2.2.2.below hR) HK.out.2.2.2.2.2.2).mono ?_
          rintro e u' ⟨he, b'⟩
          exact ⟨_, he, rfl, bel_nx hR b', b'⟩
        · -- 9
          have h8 : ρ (.tmp 83) = .bool true := hd ⟨8, .data⟩ (by simp) rfl 83 rfl
          exact .inl ⟨rfl, .inl ⟨.bool false, u, run_un_op rfl h8 (by go_simp), rfl, hR, Below.refl _ _⟩⟩
    · have hi : ¬ (q : Int) < (n : Int) := by omega
      have h7 := H7.out
      have HW : Hid (Below w.heap.size w wr ∧ Blk wr G0 27 #[.slice (some ⟨g1, 0, none⟩) m m, .slice (some ⟨g2, 0, none⟩) m m, .slice (some ⟨g3, 0, none⟩) m m, .slice (some ⟨g4, 0, none⟩) m m] ∧ SlD wr (some ⟨g1, 0, none⟩) (some ⟨g2, 0, none⟩) (some ⟨g3, 0, none⟩) (some ⟨g4, 0, none⟩) (apS is rs cs hs f n).1 is (apS is rs cs hs f n).2 rs ∧ Blk wr J0 27 #[.slice (some ⟨j1, 0, none⟩) m m, .slice (some ⟨j2, 0, none⟩) m m, .slice (some ⟨j3, 0, none⟩) m m, .slice (some ⟨j4, 0, none⟩) m m] ∧ SlD wr (some ⟨j1, 0, none⟩) (some ⟨j2, 0, none⟩) (some ⟨j3, 0, none⟩) (some ⟨j4, 0, none⟩) (apS is rs cs hs f n).1 is (apS is rs cs hs f n).2 rs) := ⟨bel_nx h7.1 hbl, h7.2.1.below hbl, h7.2.2.1.below hbl, h7.2.2.2.2.2.1.below hbl, h7.2.2.2.2.2.2.1.below hbl⟩
      have HLn : Hid (LnD m m m m (apS is rs cs hs f n).1 is (apS is rs cs hs f n).2 rs ∧ SmD 2000000 (apS is rs cs hs f n).1 is (apS is rs cs hs f n).2 rs ∧ okD m m m m (apS is rs cs hs f n).2 rs = true) := by
        have h8 := apS_len is rs cs hs f n
        have h9 := HF.out.2.1
        have h6 := HF.out.2.2.1
        exact ⟨⟨by rw [h8.1]; exact h9.1, h9.2.1, by rw [h8.2]; exact h9.2.2.1, h9.2.2.2⟩, ⟨by rw [h8.1]; exact h6.1, h6.2.1, by rw [h8.2]; exact h6.2.2.1, h6.2.2.2⟩, okD_all is rs cs hs f HF.out.2.2.2.2.2.2.2.2.1 n⟩
      clear h7 hbl
      obtain ⟨y0, y1, y2, y3⟩ := HW.out.2.1.four
      obtain ⟨z0, z1, z2, z3⟩ := HW.out.2.2.2.1.four
      go_wp2_with fail
      refine (implSame_any (some ⟨g1, 0, none⟩) (some ⟨g2, 0, none⟩) (some ⟨g3, 0, none⟩) (some ⟨g4, 0, none⟩) m m m m m m m m (some ⟨j1, 0, none⟩) (some ⟨j2, 0, none⟩) (some ⟨j3, 0, none⟩) (some ⟨j4, 0, none⟩) m m m m m m m m (apS is rs cs hs f n).1 is (apS is rs cs hs f n).2 rs (apS is rs cs hs f n).1 is (apS is rs cs hs f n).2 rs _ HLn.out.1 HLn.out.1 HW.out.2.2.1 HW.out.2.2.2.2 HLn.out.2.1 HLn.out.2.1 true (by simp [sdB])).mono ?_
      rintro e wa ⟨rfl, ba⟩
      have HV : Hid (Below w.heap.size w wa ∧ Blk wa G0 27 #[.slice (some ⟨g1, 0, none⟩) m m, .slice (some ⟨g2, 0, none⟩) m m, .slice (some ⟨g3, 0, none⟩) m m, .slice (some ⟨g4, 0, none⟩) m m] ∧ SlD wa (some ⟨g1, 0, none⟩) (some ⟨g2, 0, none⟩) (some ⟨g3, 0, none⟩) (some ⟨g4, 0, none⟩) (apS is rs cs hs f n).1 is (apS is rs cs hs f n).2 rs) := ⟨bel_nx HW.out.1 ba, HW.out.2.1.below ba, HW.out.2.2.1.below ba⟩
      clear ba y0 y1 y2 y3 z0 z1 z2 z3 HW
      obtain ⟨y0, y1, y2, y3⟩ := HV.out.2.1.four
      go_wp2_with fail
      refine (implDeviceOk_any (some ⟨g1, 0, none⟩) (some ⟨g2, 0, none⟩) (some ⟨g3, 0, none⟩) (some ⟨g4, 0, none⟩) m m m m m m m m (apS is rs cs hs f n).1 is (apS is rs cs hs f n).2 rs _ HLn.out.1 HV.out.2.2 HLn.out.2.1 true HLn.out.2.2).mono ?_
      rintro e wb ⟨rfl, bb⟩
      have BE := bel_nx HV.out.1 bb
      clear bb y0 y1 y2 y3
      go_wp2
      go_ret
      exact ⟨rfl, BE⟩
end Go.Proofs.Ytfdddkjonjpgpaa
