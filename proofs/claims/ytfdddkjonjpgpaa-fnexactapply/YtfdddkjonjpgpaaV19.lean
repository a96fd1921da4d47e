/- Texts that the proof needs, joined: Ap3 Ap4. -/
import Derived.Test.YtfdddkjonjpgpaaV18
import Derived.Test.YtfdddkjonjpgpaaV3
import Derived.Test.YtfdddkjonjpgpaaV2
namespace Go.Proofs.Ytfdddkjonjpgpaa
open Go.RowKit Go.Joins
set_option linter.unusedVariables false
set_option linter.unusedSimpArgs false
theorem run_ext_v {P : Program} {ρ : Operand → Value} {o : Oper} {u : World} {x : Operand} {k : Nat} {vs : Array Value} {v : Value} (ho : o.op = .extract x k) (ha : ρ x = .tuple vs) (hv : vs[k]? = some v) : (execOp ρ o).run P u = .ok (.value v) u := by
  unfold execOp
  simp only [ho, ha]
  rw [Sem.run_bind]
  simp [Instr.extract, hv]
theorem run_alloc_v {P : Program} {ρ : Operand → Value} {o : Oper} {w : World} (ty : TypeId) (ho : o.op = .alloc ty) (cs : Array Value) (n b : Nat) (hi : (P.info? ty).map (fun i => (i.zero, i.size, i.bytes)) = some (some (.agg cs), n, b)) : (execOp ρ o).run P w = .ok (.value (.pointer (some ⟨w.heap.size, 0, none⟩))) (w.alloc (.cells cs ty)) := by
  have hz : (zeroValue ty).run P w = .ok (.agg cs) w := by
    cases hq : P.info? ty with
    | none => simp [hq] at hi
    | some i => simp [hq] at hi; simp [zeroValue, typeInfo, hq, hi.1]
  unfold execOp
  simp only [ho]
  rw [Sem.run_bind]
  have h9 : (Instr.alloc ty true (.tuple #[])).run P w = .ok (.pointer (some ⟨w.heap.size, 0, none⟩)) (w.alloc (.cells cs ty)) := by
    unfold Instr.alloc
    rw [Sem.run_bind, hz]
    rfl
  rw [h9]
  rfl
theorem updBne {l : Nat → Bool} {i j : Nat} (h : i ≠ j) : updB l i j = l j := by unfold updB; rw [if_neg (Ne.symm h)]
theorem updBeq {l : Nat → Bool} {i : Nat} : updB l i i = true := by unfold updB; rw [if_pos rfl]
theorem updSeq {σ : Nat → Value} {d : Nat} {v : Value} : updS σ (some d) v d = v := by show (if d = d then v else σ d) = v; rw [if_pos rfl]
theorem updSne {σ : Nat → Value} {d s : Nat} {v : Value} (h : d ≠ s) : updS σ (some d) v s = σ s := by show (if s = d then v else σ s) = _; rw [if_neg (Ne.symm h)]
def MgA (B : Nat) (u u' : World) : Prop := Below u.heap.size u u' ∨ ∃ g t cs, u.grownBy u' (some g) ∧ Blk u g t cs ∧ t ≠ 3 ∧ t ≠ 4 ∧ B ≤ g
theorem MgA.d {B B' : Nat} {u u' : World} {a1 a2 a3 a4 : Option Addr} {l1 l2 l3 l4 c1 c2 c3 c4 : Nat} {cs is : List Bool} {hs rs : List Int} (hm : MgA B u u') (h : OwnD u B' a1 a2 a3 a4 l1 l2 l3 l4 c1 c2 c3 c4 cs is hs rs) : OwnD u' B' a1 a2 a3 a4 l1 l2 l3 l4 c1 c2 c3 c4 cs is hs rs := by
  rcases hm with hb | ⟨g, t, cv, hg, hk, h1, h2, _⟩
  · exact h.below hb
  · have n := h.noBlk hk h2 h1
    exact h.chg (Chg.ofGrown (S := fun x => x = g) hg (fun x e => (Option.some.inj e).symm)) (fun x hx e => n (by rw [← e]; exact hx))
theorem MgA.i {B B' : Nat} {u u' : World} {v : Value} {zs : List Int} (hm : MgA B u u') (h : OwnI u B' v zs) : OwnI u' B' v zs := by
  rcases hm with hb | ⟨g, t, cv, hg, hk, h1, h2, _⟩
  · exact h.below hb
  · exact h.kept hg (.inr (fun e => noBlk_row h hk h1 e))
theorem MgA.b {B B' : Nat} {u u' : World} {v : Value} {zs : List Bool} (hm : MgA B u u') (h : OwnB u B' v zs) : OwnB u' B' v zs := by
  rcases hm with hb | ⟨g, t, cv, hg, hk, h1, h2, _⟩
  · exact h.below hb
  · exact h.kept hg (.inr (fun e => noBlk_row h hk h2 e))
def RgA (wr : World) (D E : World → Nat → Prop) (l : Nat → Bool) (σ : Nat → Value) (u : World) : Prop :=
  Below wr.heap.size wr u ∧ (l 9 = true → ∃ g, σ 9 = .pointer (some ⟨g, 0, none⟩) ∧ wr.heap.size ≤ g ∧ (l 11 = false → Blk u g 27 #[.slice none 0 0, .slice none 0 0, .slice none 0 0, .slice none 0 0]) ∧ (l 11 = true → D u g)) ∧ (l 10 = true → ∃ g, σ 10 = .pointer (some ⟨g, 0, none⟩) ∧ wr.heap.size ≤ g ∧ (l 12 = false → Blk u g 37 #[.int .i64 0, .int .i64 0, .int .i64 0, .int .i64 0, .slice none 0 0, .slice none 0 0]) ∧ (l 12 = true → E u g))
theorem RgA.next {wr u u' : World} {D E : World → Nat → Prop} {l : Nat → Bool} {σ : Nat → Value} (h : RgA wr D E l σ u) {i d : Nat} {v : Value} (h1 : i ≠ 9) (h2 : i ≠ 10) (h3 : i ≠ 11) (h4 : i ≠ 12) (d1 : d ≠ 9) (d2 : d ≠ 10) (hb : Below u.heap.size u u') (hD : ∀ g, D u g → D u' g) (hE : ∀ g, E u g → E u' g) : RgA wr D E (updB l i) (updS σ (some d) v) u' := by
  obtain ⟨q1, q2, q3⟩ := h
  refine ⟨bel_nx q1 hb, fun h9 => ?_, fun h10 => ?_⟩
  · rw [updBne h1] at h9
    obtain ⟨g, e1, e2, e3, e4⟩ := q2 h9
    exact ⟨g, by rw [updSne d1]; exact e1, e2, fun h => (e3 (by rw [updBne h3] at h; exact h)).below hb, fun h => hD g (e4 (by rw [updBne h3] at h; exact h))⟩
  · rw [updBne h2] at h10
    obtain ⟨g, e1, e2, e3, e4⟩ := q3 h10
    exact ⟨g, by rw [updSne d2]; exact e1, e2, fun h => (e3 (by rw [updBne h4] at h; exact h)).below hb, fun h => hE g (e4 (by rw [updBne h4] at h; exact h))⟩
theorem blk_types {u : World} {g : Nat} {t t' : TypeId} {cs cs' : Array Value} (h : Blk u g t cs) (h' : Blk u g t' cs') (hne : t ≠ t') : False := by
  have e1 : u.heap[g]? = some (.cells cs t (0, 0)) := h
  have e2 : u.heap[g]? = some (.cells cs' t' (0, 0)) := h'
  rw [e1] at e2
  simp at e2
  exact hne e2.2
theorem ownI_capV {w : World} {lo n c : Nat} {a : Option Addr} {zs : List Int} (h : OwnI w lo (.slice a n c) zs) : n ≤ c := by
  rcases h.2 with ⟨e, h0⟩ | ⟨_, _, _, e, _, _, hle, _⟩
  · simp only [Value.slice.injEq] at e; omega
  · simp only [Value.slice.injEq] at e; omega
theorem ownB_capV {w : World} {lo n c : Nat} {a : Option Addr} {zs : List Bool} (h : OwnB w lo (.slice a n c) zs) : n ≤ c := by
  rcases h.2 with ⟨e, h0⟩ | ⟨_, _, _, e, _, _, hle, _⟩
  · simp only [Value.slice.injEq] at e; omega
  · simp only [Value.slice.injEq] at e; omega
theorem LsV.keptB {w w' : World} {base n g : Nat} {t : TypeId} {cs : Array Value} {v : Value} {f : Nat → VA} (h : LsV w base v n f) (gw : w.grownBy w' (some g)) (hk : Blk w g t cs) (h1 : t ≠ 3) (h2 : t ≠ 4) (h3 : t ≠ 37) : LsV w' base v n f := by
  obtain ⟨F, r1, r2⟩ := h
  refine ⟨F, World.ownsRow.kept r1 gw (.inr (fun e => ?_)), fun k hk' => ?_⟩
  · rcases r1.2 with ⟨hv, _⟩ | ⟨g', _, _, hv, _, hh, _⟩
    · rw [hv] at e; simp [Value.ownBlock] at e
    · rw [hv] at e
      simp only [Value.ownBlock, Option.some.injEq] at e
      subst e
      have e1 : w.heap[g']? = some (.cells cs t (0, 0)) := hk
      rw [e1] at hh
      simp at hh
      exact h3 hh.2
  · obtain ⟨a1, c1, a2, c2, e, o1, o2⟩ := r2 k hk'
    exact ⟨a1, c1, a2, c2, e, o1.kept gw (.inr (fun e => noBlk_row o1 hk h1 e)), o2.kept gw (.inr (fun e => noBlk_row o2 hk h2 e))⟩
theorem LsV.shape {w : World} {base n : Nat} {v : Value} {f : Nat → VA} (h : LsV w base v n f) : ∃ a c, v = .slice a n c := by
  obtain ⟨F, h1, _⟩ := h
  rcases h1.2 with ⟨rfl, h0⟩ | ⟨g, cap, cur, rfl, _⟩
  · exact ⟨none, 0, by rw [h0]⟩
  · exact ⟨_, cap, rfl⟩
theorem app_keepV {w W5 W6 w9 : World} {gO : Nat} {l1 l2 l3 l4 t1 t2 t3 t4 : Nat} {v : Value} {z1 z2 z3 z4 : Option Addr} {xs is : List Bool} {ys rs : List Int} {cv dv0 : Array Value} (b5 : Below w.heap.size w W5) (b6 : Below W5.heap.size W5 W6) (kR : Blk W5 (w.heap.size + 1) 27 cv) (kO : Blk W5 gO 27 dv0) (oD : OwnD W5 w.heap.size z1 z2 z3 z4 l1 l2 l3 l4 t1 t2 t3 t4 xs is ys rs) (g9 : W6.grownBy w9 v.ownBlock) (hk9 : ∀ k, v.ownBlock = some k → w.heap.size ≤ k) (ht9 : ∀ k, v.ownBlock = some k → ∃ cs, W6.heap[k]? = some (.cells cs 37 (0, 0))) :
    Below w.heap.size w w9 ∧ Blk w9 (w.heap.size + 1) 27 cv ∧ Blk w9 gO 27 dv0 ∧ OwnD w9 w.heap.size z1 z2 z3 z4 l1 l2 l3 l4 t1 t2 t3 t4 xs is ys rs := by
  have cgx : Cg W6 w9 (fun g => v.ownBlock = some g) := ⟨g9.os, g9.tape, g9.output, g9.size, fun g hg hn => g9.block g hg (fun e => hn e.symm)⟩
  have nb : ∀ {g : Nat} {t : TypeId} {c9 : Array Value}, Blk W6 g t c9 → t ≠ 37 → ¬ (v.ownBlock = some g) := fun hb hne e => by
    obtain ⟨cs9, e9⟩ := ht9 _ e
    exact blk_types (show Blk W6 _ _ cs9 from e9) hb (fun x => hne x.symm)
  have ch : Chg W6 w9 (fun g => v.ownBlock = some g) := ⟨cgx.os, cgx.tape, cgx.output, cgx.size, cgx.block⟩
  have oD6 := oD.below b6
  refine ⟨cgx.below (bel_nx b5 b6) (fun g e => hk9 g e) (Nat.le_trans b5.size b6.size), (kR.below b6).chg ch (nb (kR.below b6) (by decide)), (kO.below b6).chg ch (nb (kO.below b6) (by decide)), oD6.chg ch (fun g hg e => ?_)⟩
  obtain ⟨cs9, e9⟩ := ht9 _ e
  exact (oD6.noBlk (show Blk W6 _ _ cs9 from e9) (by decide) (by decide)) hg
set_option maxRecDepth 20000 in
set_option maxHeartbeats 8000000 in
theorem specApply_any (a1 a2 a3 a4 : Option Addr) (l1 l2 l3 l4 c1 c2 c3 c4 : Nat) (cs is : List Bool) (hs rs : List Int) (n : Nat) (f : Nat → VQ) (b : Option Addr) (c : Nat) (w : World) (hn : LnD l1 l2 l3 l4 cs is hs rs) (hs0 : SlD w a1 a2 a3 a4 cs is hs rs) (hl : SmD 2000000 cs is hs rs) (hr : Rd w 0 (.list 6 n (fun i => trs (qT (f i)))) (.slice b n c)) (hn1 : n ≤ 1048576) (hb : ∀ i, i < n → (f i).ws.length ≤ 2000000 ∧ (f i).bs.length ≤ 2000000) :
    Calls Try.prog 14 #[dv a1 a2 a3 a4 l1 l2 l3 l4 c1 c2 c3 c4, .slice b n c] w fun e w' => ∃ x1 x2 x3 x4 e1 e2 e3 e4 bt ct, e = .returned (.tuple #[dv x1 x2 x3 x4 l1 l2 l3 l4 e1 e2 e3 e4, .slice bt n ct]) ∧ SlD w' x1 x2 x3 x4 (apS is rs cs hs f n).1 is (apS is rs cs hs f n).2 rs ∧ LsV w' w.heap.size (.slice bt n ct) n (apA is rs cs hs f) ∧ Below w.heap.size w w' := by
  obtain ⟨W, hW⟩ : ∃ W, W = (w.alloc (.cells #[.slice a1 l1 c1, .slice a2 l2 c2, .slice a3 l3 c3, .slice a4 l4 c4] 27)).alloc (.cells #[.slice none 0 0, .slice none 0 0, .slice none 0 0, .slice none 0 0] 27) := ⟨_, rfl⟩
  have bW : Below w.heap.size w W := by rw [hW]; exact bel_nx (bel_alloc _ _) (bel_alloc _ _)
  have zW : W.heap.size = w.heap.size + 1 + 1 := by rw [hW]; simp
  have A0 : Blk W w.heap.size 27 #[.slice a1 l1 c1, .slice a2 l2 c2, .slice a3 l3 c3, .slice a4 l4 c4] := by rw [hW]; exact (Blk.new w _ _).below (bel_alloc _ _)
  have R0 : Blk W (w.heap.size + 1) 27 #[.slice none 0 0, .slice none 0 0, .slice none 0 0, .slice none 0 0] := by rw [hW]; have := Blk.new (w.alloc (.cells #[.slice a1 l1 c1, .slice a2 l2 c2, .slice a3 l3 c3, .slice a4 l4 c4] 27)) #[.slice none 0 0, .slice none 0 0, .slice none 0 0, .slice none 0 0] 27; simpa using this
  have HH : Hid (LnD l1 l2 l3 l4 cs is hs rs ∧ SlD w a1 a2 a3 a4 cs is hs rs ∧ SmD 2000000 cs is hs rs ∧ Rd w 0 (.list 6 n (fun i => trs (qT (f i)))) (.slice b n c) ∧ ∀ i, i < n → (f i).ws.length ≤ 2000000 ∧ (f i).bs.length ≤ 2000000) := ⟨hn, hs0, hl, hr, hb⟩
  have H0 : Hid (Below w.heap.size w W ∧ Blk W (w.heap.size + 1) 27 #[.slice none 0 0, .slice none 0 0, .slice none 0 0, .slice none 0 0] ∧ W.heap.size = w.heap.size + 1 + 1) := ⟨bW, R0, zW⟩
  obtain ⟨y0, y1, y2, y3⟩ := A0.four
  clear hn hs0 hl hr hb bW R0 A0 zW
  go_enter Try.func14, Try.ntmps14
  go_upto_region 1 with fail
  rw [← hW]
  clear hW
  go_wp2_with fail
  refine (l5Copy_any a1 a2 a3 a4 l1 l2 l3 l4 c1 c2 c3 c4 cs is hs rs _ HH.out.1 (HH.out.2.1.below H0.out.1) HH.out.2.2.1).mono ?_
  rintro e w1 ⟨x1, x2, x3, x4, e1, e2, e3, e4, rfl, O1, b1⟩
  obtain ⟨gO, hgO⟩ : ∃ gO, gO = w1.heap.size := ⟨_, rfl⟩
  obtain ⟨W2, hW2⟩ : ∃ W2, W2 = w1.alloc (.cells #[.slice x1 l1 e1, .slice x2 l2 e2, .slice x3 l3 e3, .slice x4 l4 e4] 27) := ⟨_, rfl⟩
  have H2 : Hid (Below w.heap.size w W2 ∧ Blk W2 (w.heap.size + 1) 27 #[.slice none 0 0, .slice none 0 0, .slice none 0 0, .slice none 0 0] ∧ Blk W2 gO 27 #[.slice x1 l1 e1, .slice x2 l2 e2, .slice x3 l3 e3, .slice x4 l4 e4] ∧ OwnD W2 w.heap.size x1 x2 x3 x4 l1 l2 l3 l4 e1 e2 e3 e4 (apS is rs cs hs f 0).1 is (apS is rs cs hs f 0).2 rs ∧ w.heap.size + 1 < gO) := by
    have z1 := H0.out.2.2
    have s1 := b1.size
    have bW2 : Below w1.heap.size w1 W2 := by rw [hW2]; exact bel_alloc _ _
    exact ⟨bel_nx (bel_nx H0.out.1 b1) bW2, (H0.out.2.1.below b1).below bW2, by rw [hW2, hgO]; exact Blk.new _ _ _, (O1.mono (by omega)).below bW2, by omega⟩
  clear O1 b1 H0 y0 y1 y2 y3
  go_upto_region 2 with fail
  rw [← hW2, ← hgO]
  clear hW2 hgO
  go_upto_region 3 with fail
  obtain ⟨W3, hW3⟩ : ∃ W3, W3 = W2.alloc (.cells #[] 37) := ⟨_, rfl⟩
  have H3 : Hid (Below w.heap.size w W3 ∧ Blk W3 (w.heap.size + 1) 27 #[.slice none 0 0, .slice none 0 0, .slice none 0 0, .slice none 0 0] ∧ Blk W3 gO 27 #[.slice x1 l1 e1, .slice x2 l2 e2, .slice x3 l3 e3, .slice x4 l4 e4] ∧ OwnD W3 w.heap.size x1 x2 x3 x4 l1 l2 l3 l4 e1 e2 e3 e4 (apS is rs cs hs f 0).1 is (apS is rs cs hs f 0).2 rs ∧ w.heap.size + 1 < gO ∧ LsV W3 w.heap.size (.slice (some ⟨W2.heap.size, 0, none⟩) 0 0) 0 (apA is rs cs hs f)) := by
    have h2 := H2.out
    have b3 : Below W2.heap.size W2 W3 := by rw [hW3]; exact bel_alloc _ _
    refine ⟨bel_nx h2.1 b3, h2.2.1.below b3, h2.2.2.1.below b3, h2.2.2.2.1.below b3, h2.2.2.2.2, fun _ => [], ⟨rfl, .inr ⟨W2.heap.size, 0, #[], rfl, h2.1.size, ?_, by simp, by simp, rfl, rfl⟩⟩, fun k hk => absurd hk (Nat.not_lt_zero _)⟩
    rw [hW3]
    exact Blk.new W2 #[] 37
  rw [← hW3]
  clear hW3 H2
  go_wp2
  go_loopw [7, 8] (fun sv i wr => ∃ (k : Nat) (bt : Option Addr) (ct : Nat) (x1 x2 x3 x4 : Option Addr) (e1 e2 e3 e4 : Nat), k ≤ n ∧ i = .int .i64 k ∧ sv = .slice bt k ct ∧ Below w.heap.size w wr ∧ Blk wr (w.heap.size + 1) 27 #[.slice none 0 0, .slice none 0 0, .slice none 0 0, .slice none 0 0] ∧ Blk wr gO 27 #[.slice x1 l1 e1, .slice x2 l2 e2, .slice x3 l3 e3, .slice x4 l4 e4] ∧ OwnD wr w.heap.size x1 x2 x3 x4 l1 l2 l3 l4 e1 e2 e3 e4 (apS is rs cs hs f k).1 is (apS is rs cs hs f k).2 rs ∧ LsV wr w.heap.size (.slice bt k ct) k (apA is rs cs hs f)) (fun _ i _ => n - (intOf i).toNat)
  case atStart => exact ⟨0, _, _, x1, x2, x3, x4, e1, e2, e3, e4, Nat.zero_le _, rfl, rfl, H3.out.1, H3.out.2.1, H3.out.2.2.1, H3.out.2.2.2.1, H3.out.2.2.2.2.2⟩
  case round =>
    have HG : Hid (w.heap.size + 1 < gO) := H3.out.2.2.2.2.1
    have hgO := HG.out
    clear H3
    obtain ⟨k, bt, ct, x1, x2, x3, x4, e1, e2, e3, e4, hk, rfl, rfl, hbl, hR0, hD, hO, hL⟩ := hrel
    by_cases hlt : k < n
    · have hi : (k : Int) < (n : Int) := by omega
      obtain ⟨bb, off, vs, rfl, _, hb0, hlen, hr0, hrd⟩ := HH.out.2.2.2.1.at hlt
      obtain ⟨b1, d1, b2, d2, rfl, q1, q2⟩ := VQ.cells hrd hlen
      clear hlen hrd
      have HK : Hid (Blk wr gO 27 #[.slice x1 l1 e1, .slice x2 l2 e2, .slice x3 l3 e3, .slice x4 l4 e4] ∧ bb < wr.heap.size ∧ wr.rangeAt bb (off + k * 6) [.int .i64 (f k).kd, .int .i64 (f k).pl, .int .i64 (f k).n, .slice b1 (f k).ws.length d1, .slice b2 (f k).bs.length d2, .int .i64 (f k).wa] ∧ OwnD wr w.heap.size x1 x2 x3 x4 l1 l2 l3 l4 e1 e2 e3 e4 (apS is rs cs hs f k).1 is (apS is rs cs hs f k).2 rs ∧ (SlI wr b1 (f k).ws ∧ SlB wr b2 (f k).bs) ∧ SmD 2000000 (apS is rs cs hs f k).1 is (apS is rs cs hs f k).2 rs ∧ (l1 ≤ e1 ∧ l2 ≤ e2 ∧ l3 ≤ e3 ∧ l4 ≤ e4) ∧ (f k).ws.length ≤ 2000000 ∧ (f k).bs.length ≤ 2000000) := by
        have h9 := HH.out.2.2.1
        have h8 := apS_len is rs cs hs f k
        exact ⟨hD, Nat.lt_of_lt_of_le hb0 hbl.size, rangeAt_below hr0 hb0 hbl, hO, ⟨q1.int4.below hbl, q2.bool4.below hbl⟩, ⟨by rw [h8.1]; exact h9.1, h9.2.1, by rw [h8.2]; exact h9.2.2.1, h9.2.2.2⟩, ⟨ownB_capV hO.1, ownB_capV hO.2.1, ownI_capV hO.2.2.1, ownI_capV hO.2.2.2.1⟩, (HH.out.2.2.2.2 k hlt).1, (HH.out.2.2.2.2 k hlt).2⟩
      have HL : Hid (Below w.heap.size w wr ∧ Blk wr (w.heap.size + 1) 27 #[.slice none 0 0, .slice none 0 0, .slice none 0 0, .slice none 0 0] ∧ LsV wr w.heap.size (.slice bt k ct) k (apA is rs cs hs f)) := ⟨hbl, hR0, hL⟩
      clear hbl hR0 hD hO hL hr0 hb0 q1 q2
      go_upto_region 6 with fail
      refine wp_region_any (by kernel_rfl) ?_
      refine wpAny_valy (RgA wr (fun u g => ∃ z1 z2 z3 z4 t1 t2 t3 t4, Blk u g 27 #[.slice z1 l1 t1, .slice z2 l2 t2, .slice z3 l3 t3, .slice z4 l4 t4] ∧ OwnD u wr.heap.size z1 z2 z3 z4 l1 l2 l3 l4 t1 t2 t3 t4 (apS is rs cs hs f (k + 1)).1 is (apS is rs cs hs f (k + 1)).2 rs) (fun u g => ∃ r1 p1 r2 p2, Blk u g 37 (aL (apA is rs cs hs f k) r1 (apA is rs cs hs f k).ws.length p1 r2 (apA is rs cs hs f k).bs.length p2).toArray ∧ OwnI u wr.heap.size (.slice r1 (apA is rs cs hs f k).ws.length p1) (apA is rs cs hs f k).ws ∧ OwnB u wr.heap.size (.slice r2 (apA is rs cs hs f k).bs.length p2) (apA is rs cs hs f k).bs)) (MgA wr.heap.size) (fun i v u => match i with
        | 0 => v = dv x1 x2 x3 x4 l1 l2 l3 l4 e1 e2 e3 e4
        | 1 => v = .slice (some ⟨bb, off, none⟩) n c
        | 2 => v = .int .i64 (k : Int)
        | 3 => v = .pointer (some ⟨bb, off + k * 6, none⟩)
        | 4 => v = .agg ([.int .i64 (f k).kd, .int .i64 (f k).pl, .int .i64 (f k).n, .slice b1 (f k).ws.length d1, .slice b2 (f k).bs.length d2, .int .i64 (f k).wa]).toArray
        | 5 => ∃ z1 z2 z3 z4 t1 t2 t3 t4 r1 p1 r2 p2, v = .tuple #[dv z1 z2 z3 z4 l1 l2 l3 l4 t1 t2 t3 t4, .agg (aL (apA is rs cs hs f k) r1 (apA is rs cs hs f k).ws.length p1 r2 (apA is rs cs hs f k).bs.length p2).toArray] ∧ OwnD u wr.heap.size z1 z2 z3 z4 l1 l2 l3 l4 t1 t2 t3 t4 (apS is rs cs hs f (k + 1)).1 is (apS is rs cs hs f (k + 1)).2 rs ∧ OwnI u wr.heap.size (.slice r1 (apA is rs cs hs f k).ws.length p1) (apA is rs cs hs f k).ws ∧ OwnB u wr.heap.size (.slice r2 (apA is rs cs hs f k).bs.length p2) (apA is rs cs hs f k).bs
        | 6 => ∃ z1 z2 z3 z4 t1 t2 t3 t4 r1 p1 r2 p2, v = .tuple #[dv z1 z2 z3 z4 l1 l2 l3 l4 t1 t2 t3 t4, .agg (aL (apA is rs cs hs f k) r1 (apA is rs cs hs f k).ws.length p1 r2 (apA is rs cs hs f k).bs.length p2).toArray] ∧ OwnD u wr.heap.size z1 z2 z3 z4 l1 l2 l3 l4 t1 t2 t3 t4 (apS is rs cs hs f (k + 1)).1 is (apS is rs cs hs f (k + 1)).2 rs ∧ OwnI u wr.heap.size (.slice r1 (apA is rs cs hs f k).ws.length p1) (apA is rs cs hs f k).ws ∧ OwnB u wr.heap.size (.slice r2 (apA is rs cs hs f k).bs.length p2) (apA is rs cs hs f k).bs
        | 7 => ∃ z1 z2 z3 z4 t1 t2 t3 t4, v = dv z1 z2 z3 z4 l1 l2 l3 l4 t1 t2 t3 t4 ∧ OwnD u wr.heap.size z1 z2 z3 z4 l1 l2 l3 l4 t1 t2 t3 t4 (apS is rs cs hs f (k + 1)).1 is (apS is rs cs hs f (k + 1)).2 rs
        | 8 => ∃ r1 p1 r2 p2, v = .agg (aL (apA is rs cs hs f k) r1 (apA is rs cs hs f k).ws.length p1 r2 (apA is rs cs hs f k).bs.length p2).toArray ∧ OwnI u wr.heap.size (.slice r1 (apA is rs cs hs f k).ws.length p1) (apA is rs cs hs f k).ws ∧ OwnB u wr.heap.size (.slice r2 (apA is rs cs hs f k).bs.length p2) (apA is rs cs hs f k).bs
        | _ => True) (by kernel_rfl) (by kernel_rfl) ?_ (fun u => .inl (Below.refl _ _)) ⟨by first | exact Below.refl _ _ | exact (Below.refl _ _).drew, fun h => (by cases h), fun h => (by cases h)⟩ ?_ ?_ _ _ rfl (by decide) (fun i => by simp [Array.getD]; try (split <;> rfl))
      · intro i v u u' h hm
        match i with
        | 0 => exact h
        | 1 => exact h
        | 2 => exact h
        | 3 => exact h
        | 4 => exact h
        | 5 =>
          obtain ⟨z1, z2, z3, z4, t1, t2, t3, t4, r1, p1, r2, p2, e, o1, o2, o3⟩ := h
          exact ⟨z1, z2, z3, z4, t1, t2, t3, t4, r1, p1, r2, p2, e, hm.d o1, hm.i o2, hm.b o3⟩
        | 6 =>
          obtain ⟨z1, z2, z3, z4, t1, t2, t3, t4, r1, p1, r2, p2, e, o1, o2, o3⟩ := h
          exact ⟨z1, z2, z3, z4, t1, t2, t3, t4, r1, p1, r2, p2, e, hm.d o1, hm.i o2, hm.b o3⟩
        | 7 =>
          obtain ⟨z1, z2, z3, z4, t1, t2, t3, t4, e, o1⟩ := h
          exact ⟨z1, z2, z3, z4, t1, t2, t3, t4, e, hm.d o1⟩
        | 8 =>
          obtain ⟨r1, p1, r2, p2, e, o2, o3⟩ := h
          exact ⟨r1, p1, r2, p2, e, hm.i o2, hm.b o3⟩
        | _ + 9 => trivial
      rotate_left
      · intro u i o ρ l hR ho hli hcl hρ hc hf hdep hv
        have hi : i < 13 := by
          have := (Array.getElem?_eq_some_iff.1 ho).1
          simpa using this
        obtain rfl | rfl | rfl | rfl | rfl | rfl | rfl | rfl | rfl | rfl | rfl | rfl | rfl : i = 0 ∨ i = 1 ∨ i = 2 ∨ i = 3 ∨ i = 4 ∨ i = 5 ∨ i = 6 ∨ i = 7 ∨ i = 8 ∨ i = 9 ∨ i = 10 ∨ i = 11 ∨ i = 12 := by omega
        all_goals (simp only [List.getElem?_toArray, List.getElem?_cons_zero, List.getElem?_cons_succ, Option.some.injEq] at ho; subst ho)
        · -- 0
          have s6 : ρ (.tmp 6) = .pointer (some ⟨gO, 0, none⟩) := (hρ 6 (by kernel_rfl)).trans rfl
          exact .inl ⟨rfl, .inl ⟨_, u, run_load_op rfl s6 (run_loadAt_mid u gO 0 27 [.slice x1 l1 e1, .slice x2 l2 e2, .slice x3 l3 e3, .slice x4 l4 e4] _ (Blk.rng (l := [.slice x1 l1 e1, .slice x2 l2 e2, .slice x3 l3 e3, .slice x4 l4 e4]) (HK.out.1.below hR.1)) Try.underlying27 rfl (by kernel_rfl)), rfl, (hR.next (i := 0) (d := 21) (by decide) (by decide) (by decide) (by decide) (by decide) (by decide) (Below.refl _ _) (fun _ h => h) (fun _ h => h)), .inl (Below.refl _ _)⟩⟩
        · -- 1
          have s1 : ρ (.tmp 1) = .slice (some ⟨bb, off, none⟩) n c := (hρ 1 (by kernel_rfl)).trans rfl
          exact .inl ⟨rfl, .inl ⟨_, u, rfl, s1, (hR.next (i := 1) (d := 22) (by decide) (by decide) (by decide) (by decide) (by decide) (by decide) (Below.refl _ _) (fun _ h => h) (fun _ h => h)), .inl (Below.refl _ _)⟩⟩
        · -- 2
          have s8 : ρ (.tmp 8) = .int .i64 (k : Int) := (hρ 8 (by kernel_rfl)).trans rfl
          exact .inl ⟨rfl, .inl ⟨_, u, rfl, s8, (hR.next (i := 2) (d := 23) (by decide) (by decide) (by decide) (by decide) (by decide) (by decide) (Below.refl _ _) (fun _ h => h) (fun _ h => h)), .inl (Below.refl _ _)⟩⟩
        · -- 3
          have h1 : ρ (.tmp 22) = .slice (some ⟨bb, off, none⟩) n c := hv 1 22 rfl (hdep ⟨1, .data⟩ (by simp) rfl)
          have h2 : ρ (.tmp 23) = .int .i64 (k : Int) := hv 2 23 rfl (hdep ⟨2, .data⟩ (by simp) rfl)
          exact .inl ⟨rfl, .inl ⟨.pointer (some ⟨bb, off + k * 6, none⟩), u, run_index_op rfl h1 h2 (by go_simp), rfl, (hR.next (i := 3) (d := 24) (by decide) (by decide) (by decide) (by decide) (by decide) (by decide) (Below.refl _ _) (fun _ h => h) (fun _ h => h)), .inl (Below.refl _ _)⟩⟩
        · -- 4
          have h3 : ρ (.tmp 24) = .pointer (some ⟨bb, off + k * 6, none⟩) := hv 3 24 rfl (hdep ⟨3, .data⟩ (by simp) rfl)
          exact .inl ⟨rfl, .inl ⟨_, u, run_load_op rfl h3 (run_loadAt_mid u bb (off + k * 6) 57 [.int .i64 (f k).kd, .int .i64 (f k).pl, .int .i64 (f k).n, .slice b1 (f k).ws.length d1, .slice b2 (f k).bs.length d2, .int .i64 (f k).wa] _ (rangeAt_below HK.out.2.2.1 HK.out.2.1 hR.1) Try.underlying57 rfl (by kernel_rfl)), rfl, (hR.next (i := 4) (d := 25) (by decide) (by decide) (by decide) (by decide) (by decide) (by decide) (Below.refl _ _) (fun _ h => h) (fun _ h => h)), .inl (Below.refl _ _)⟩⟩
        · -- 5
          have h0 : ρ (.tmp 21) = dv x1 x2 x3 x4 l1 l2 l3 l4 e1 e2 e3 e4 := hv 0 21 rfl (hdep ⟨0, .data⟩ (by simp) rfl)
          have h4 : ρ (.tmp 25) = .agg ([.int .i64 (f k).kd, .int .i64 (f k).pl, .int .i64 (f k).n, .slice b1 (f k).ws.length d1, .slice b2 (f k).bs.length d2, .int .i64 (f k).wa]).toArray := hv 4 25 rfl (hdep ⟨4, .data⟩ (by simp) rfl)
          refine .inl ⟨rfl, .inr (.inl ⟨_, _, run_call_op rfl (hf _) (args := #[dv x1 x2 x3 x4 l1 l2 l3 l4 e1 e2 e3 e4, .agg ([.int .i64 (f k).kd, .int .i64 (f k).pl, .int .i64 (f k).n, .slice b1 (f k).ws.length d1, .slice b2 (f k).bs.length d2, .int .i64 (f k).wa]).toArray]) (by simp [h0, h4]) (by kernel_rfl), ?_⟩)⟩
          refine (specServe_q x1 x2 x3 x4 l1 l2 l3 l4 e1 e2 e3 e4 (apS is rs cs hs f k).1 is (apS is rs cs hs f k).2 rs (f k).kd (f k).pl (f k).n (f k).wa b1 b2 (f k).ws.length (f k).bs.length d1 d2 (f k).ws (f k).bs u HK.out.2.2.2.1.sl.1 (HK.out.2.2.2.1.sl.2.below hR.1) HK.out.2.2.2.2.2.1 HK.out.2.2.2.2.2.2.1 (HK.out.2.2.2.2.1.1.below hR.1) (HK.out.2.2.2.2.1.2.below hR.1) rfl rfl HK.out.2.2.2.2.2.2.2.1 HK.out.2.2.2.2.2.2.2.2 (apV is rs cs hs f k) (svV_at is rs cs hs f k HH.out.1)).mono ?_
          rintro e u' ⟨z1, z2, z3, z4, y1, y2, y3, y4, t1, t2, t3, t4, r1, r2, m1, m2, p1, p2, he, oD, oI, oB, _, b'⟩
          have hln := oD.sl.1
          have h8 := apS_len is rs cs hs f (k + 1)
          have h7 := HH.out.1
          obtain rfl : l1 = y1 := by rw [h7.1, hln.1]; exact h8.1.symm
          obtain rfl : l2 = y2 := by rw [h7.2.1, hln.2.1]
          obtain rfl : l3 = y3 := by rw [h7.2.2.1, hln.2.2.1]; exact h8.2.symm
          obtain rfl : l4 = y4 := by rw [h7.2.2.2, hln.2.2.2]
          obtain rfl : m1 = (apA is rs cs hs f k).ws.length := oI.sl.1
          obtain rfl : m2 = (apA is rs cs hs f k).bs.length := oB.sl.1
          exact ⟨_, he, ⟨z1, z2, z3, z4, t1, t2, t3, t4, r1, p1, r2, p2, rfl, oD.mono hR.1.size, OwnI.mono (show OwnI _ _ _ _ from oI) hR.1.size, OwnB.mono (show OwnB _ _ _ _ from oB) hR.1.size⟩, (hR.next (i := 5) (d := 26) (by decide) (by decide) (by decide) (by decide) (by decide) (by decide) b' (fun g h => by obtain ⟨z1, z2, z3, z4, t1, t2, t3, t4, h1, h2⟩ := h; exact ⟨z1, z2, z3, z4, t1, t2, t3, t4, h1.below b', h2.below b'⟩) (fun g h => by obtain ⟨r1, p1, r2, p2, h1, h2, h3⟩ := h; exact ⟨r1, p1, r2, p2, h1.below b', h2.below b', h3.below b'⟩)), .inl b'⟩
        · -- 6
          obtain ⟨z1, z2, z3, z4, t1, t2, t3, t4, r1, p1, r2, p2, h5, q1, q2, q3⟩ : ∃ z1 z2 z3 z4 t1 t2 t3 t4 r1 p1 r2 p2, ρ (.tmp 26) = .tuple #[dv z1 z2 z3 z4 l1 l2 l3 l4 t1 t2 t3 t4, .agg (aL (apA is rs cs hs f k) r1 (apA is rs cs hs f k).ws.length p1 r2 (apA is rs cs hs f k).bs.length p2).toArray] ∧ OwnD u wr.heap.size z1 z2 z3 z4 l1 l2 l3 l4 t1 t2 t3 t4 (apS is rs cs hs f (k + 1)).1 is (apS is rs cs hs f (k + 1)).2 rs ∧ OwnI u wr.heap.size (.slice r1 (apA is rs cs hs f k).ws.length p1) (apA is rs cs hs f k).ws ∧ OwnB u wr.heap.size (.slice r2 (apA is rs cs hs f k).bs.length p2) (apA is rs cs hs f k).bs := hv 5 26 rfl (hdep ⟨5, .data⟩ (by simp) rfl)
          exact .inl ⟨rfl, .inl ⟨_, u, rfl, ⟨z1, z2, z3, z4, t1, t2, t3, t4, r1, p1, r2, p2, h5, q1, q2, q3⟩, (hR.next (i := 6) (d := 20) (by decide) (by decide) (by decide) (by decide) (by decide) (by decide) (Below.refl _ _) (fun _ h => h) (fun _ h => h)), .inl (Below.refl _ _)⟩⟩
        · -- 7
          obtain ⟨z1, z2, z3, z4, t1, t2, t3, t4, r1, p1, r2, p2, h6, q1, q2, q3⟩ : ∃ z1 z2 z3 z4 t1 t2 t3 t4 r1 p1 r2 p2, ρ (.tmp 20) = .tuple #[dv z1 z2 z3 z4 l1 l2 l3 l4 t1 t2 t3 t4, .agg (aL (apA is rs cs hs f k) r1 (apA is rs cs hs f k).ws.length p1 r2 (apA is rs cs hs f k).bs.length p2).toArray] ∧ OwnD u wr.heap.size z1 z2 z3 z4 l1 l2 l3 l4 t1 t2 t3 t4 (apS is rs cs hs f (k + 1)).1 is (apS is rs cs hs f (k + 1)).2 rs ∧ OwnI u wr.heap.size (.slice r1 (apA is rs cs hs f k).ws.length p1) (apA is rs cs hs f k).ws ∧ OwnB u wr.heap.size (.slice r2 (apA is rs cs hs f k).bs.length p2) (apA is rs cs hs f k).bs := hv 6 20 rfl (hdep ⟨6, .data⟩ (by simp) rfl)
          exact .inl ⟨rfl, .inl ⟨_, u, run_ext_v rfl h6 rfl, ⟨z1, z2, z3, z4, t1, t2, t3, t4, rfl, q1⟩, (hR.next (i := 7) (d := 27) (by decide) (by decide) (by decide) (by decide) (by decide) (by decide) (Below.refl _ _) (fun _ h => h) (fun _ h => h)), .inl (Below.refl _ _)⟩⟩
        · -- 8
          obtain ⟨z1, z2, z3, z4, t1, t2, t3, t4, r1, p1, r2, p2, h6, q1, q2, q3⟩ : ∃ z1 z2 z3 z4 t1 t2 t3 t4 r1 p1 r2 p2, ρ (.tmp 20) = .tuple #[dv z1 z2 z3 z4 l1 l2 l3 l4 t1 t2 t3 t4, .agg (aL (apA is rs cs hs f k) r1 (apA is rs cs hs f k).ws.length p1 r2 (apA is rs cs hs f k).bs.length p2).toArray] ∧ OwnD u wr.heap.size z1 z2 z3 z4 l1 l2 l3 l4 t1 t2 t3 t4 (apS is rs cs hs f (k + 1)).1 is (apS is rs cs hs f (k + 1)).2 rs ∧ OwnI u wr.heap.size (.slice r1 (apA is rs cs hs f k).ws.length p1) (apA is rs cs hs f k).ws ∧ OwnB u wr.heap.size (.slice r2 (apA is rs cs hs f k).bs.length p2) (apA is rs cs hs f k).bs := hv 6 20 rfl (hdep ⟨6, .data⟩ (by simp) rfl)
          exact .inl ⟨rfl, .inl ⟨_, u, run_ext_v rfl h6 rfl, ⟨r1, p1, r2, p2, rfl, q2, q3⟩, (hR.next (i := 8) (d := 28) (by decide) (by decide) (by decide) (by decide) (by decide) (by decide) (Below.refl _ _) (fun _ h => h) (fun _ h => h)), .inl (Below.refl _ _)⟩⟩
        · -- 9
          have b' : Below u.heap.size u (u.alloc (.cells #[.slice none 0 0, .slice none 0 0, .slice none 0 0, .slice none 0 0] 27)) := bel_alloc _ _
          have hl11 : l 11 = false := by
            cases h : l 11 with
            | false => rfl
            | true => have h9 := hcl 11 _ rfl h ⟨9, .data⟩ (by simp) rfl; rw [hli] at h9; cases h9
          refine .inl ⟨rfl, .inl ⟨_, _, run_alloc_v 27 rfl #[.slice none 0 0, .slice none 0 0, .slice none 0 0, .slice none 0 0] 4 96 (by kernel_rfl), trivial, ?_, .inl b'⟩⟩
          refine ⟨bel_nx hR.1 b', fun _ => ⟨u.heap.size, updSeq, hR.1.size, fun _ => Blk.new _ _ _, fun h => by rw [updBne (by decide), hl11] at h; cases h⟩, fun h10 => ?_⟩
          rw [updBne (by decide)] at h10
          obtain ⟨g, q1, q2, q3, q4⟩ := hR.2.2 h10
          exact ⟨g, by rw [updSne (by decide)]; exact q1, q2, fun h => (q3 (by rw [updBne (by decide)] at h; exact h)).below b', fun h => by
            obtain ⟨r1, p1, r2, p2, w1, w2, w3⟩ := q4 (by rw [updBne (by decide)] at h; exact h)
            exact ⟨r1, p1, r2, p2, w1.below b', w2.below b', w3.below b'⟩⟩
        · -- 10
          have b' : Below u.heap.size u (u.alloc (.cells #[.int .i64 0, .int .i64 0, .int .i64 0, .int .i64 0, .slice none 0 0, .slice none 0 0] 37)) := bel_alloc _ _
          have hl12 : l 12 = false := by
            cases h : l 12 with
            | false => rfl
            | true => have h9 := hcl 12 _ rfl h ⟨10, .data⟩ (by simp) rfl; rw [hli] at h9; cases h9
          refine .inl ⟨rfl, .inl ⟨_, _, run_alloc_v 37 rfl #[.int .i64 0, .int .i64 0, .int .i64 0, .int .i64 0, .slice none 0 0, .slice none 0 0] 6 80 (by kernel_rfl), trivial, ?_, .inl b'⟩⟩
          refine ⟨bel_nx hR.1 b', fun h9 => ?_, fun _ => ⟨u.heap.size, updSeq, hR.1.size, fun _ => Blk.new _ _ _, fun h => by rw [updBne (by decide), hl12] at h; cases h⟩⟩
          rw [updBne (by decide)] at h9
          obtain ⟨g, q1, q2, q3, q4⟩ := hR.2.1 h9
          exact ⟨g, by rw [updSne (by decide)]; exact q1, q2, fun h => (q3 (by rw [updBne (by decide)] at h; exact h)).below b', fun h => by
            obtain ⟨z1, z2, z3, z4, t1, t2, t3, t4, w1, w2⟩ := q4 (by rw [updBne (by decide)] at h; exact h)
            exact ⟨z1, z2, z3, z4, t1, t2, t3, t4, w1.below b', w2.below b'⟩⟩
        · -- 11
          obtain ⟨g, q1, q2, q3, q4⟩ := hR.2.1 (hdep ⟨9, .data⟩ (by simp) rfl)
          obtain ⟨z1, z2, z3, z4, t1, t2, t3, t4, h7, oD⟩ : ∃ z1 z2 z3 z4 t1 t2 t3 t4, ρ (.tmp 27) = dv z1 z2 z3 z4 l1 l2 l3 l4 t1 t2 t3 t4 ∧ OwnD u wr.heap.size z1 z2 z3 z4 l1 l2 l3 l4 t1 t2 t3 t4 (apS is rs cs hs f (k + 1)).1 is (apS is rs cs hs f (k + 1)).2 rs := hv 7 27 rfl (hdep ⟨7, .data⟩ (by simp) rfl)
          have k9 := q3 hli
          have gw : u.grownBy (setL u g 0 [.slice z1 l1 t1, .slice z2 l2 t2, .slice z3 l3 t3, .slice z4 l4 t4]) (some g) := setL_gw _ _ _
          have hm : MgA wr.heap.size u (setL u g 0 [.slice z1 l1 t1, .slice z2 l2 t2, .slice z3 l3 t3, .slice z4 l4 t4]) := .inr ⟨g, _, _, gw, k9, by decide, by decide, q2⟩
          have hr : (Instr.storeAt 27 (.pointer (some ⟨g, 0, none⟩)) (dv z1 z2 z3 z4 l1 l2 l3 l4 t1 t2 t3 t4)).run Try.prog u = .ok () (setL u g 0 [.slice z1 l1 t1, .slice z2 l2 t2, .slice z3 l3 t3, .slice z4 l4 t4]) := by
            have := run_storeAt_mid (P := Try.prog) u g 0 27 #[.slice z1 l1 t1, .slice z2 l2 t2, .slice z3 l3 t3, .slice z4 l4 t4] (k9.there 0 4 (by simp)) (by kernel_rfl) (by simp [Value.oneCell'])
            rw [setCells_L] at this
            exact this
          refine .inl ⟨rfl, .inr (.inr ⟨rfl, _, run_store_op rfl q1 h7 hr, ?_, hm⟩)⟩
          refine ⟨setL_below q2 _ _ _ hR.1, fun _ => ⟨g, q1, q2, fun h => (by rw [updBeq] at h; cases h), fun _ => ⟨z1, z2, z3, z4, t1, t2, t3, t4, ((((k9.set 0 _).set 1 _).set 2 _).set 3 _), hm.d oD⟩⟩, fun h10 => ?_⟩
          rw [updBne (by decide)] at h10
          obtain ⟨g', w1, w2, w3, w4⟩ := hR.2.2 h10
          exact ⟨g', w1, w2, fun h => by
            have k2 := w3 (by rw [updBne (by decide)] at h; exact h)
            exact k2.chg (Chg.ofGrown (S := fun x => x = g) gw (fun x e => (Option.some.inj e).symm)) (fun e => by have e' : g' = g := e; subst e'; exact blk_types k2 k9 (by decide)), fun h => by
            obtain ⟨r1, p1, r2, p2, v1, v2, v3⟩ := w4 (by rw [updBne (by decide)] at h; exact h)
            exact ⟨r1, p1, r2, p2, v1.chg (Chg.ofGrown (S := fun x => x = g) gw (fun x e => (Option.some.inj e).symm)) (fun e => by have e' : g' = g := e; subst e'; exact blk_types v1 k9 (by decide)), hm.i v2, hm.b v3⟩⟩
        · -- 12
          obtain ⟨g, q1, q2, q3, q4⟩ := hR.2.2 (hdep ⟨10, .data⟩ (by simp) rfl)
          obtain ⟨r1, p1, r2, p2, h8, oI, oB⟩ : ∃ r1 p1 r2 p2, ρ (.tmp 28) = .agg (aL (apA is rs cs hs f k) r1 (apA is rs cs hs f k).ws.length p1 r2 (apA is rs cs hs f k).bs.length p2).toArray ∧ OwnI u wr.heap.size (.slice r1 (apA is rs cs hs f k).ws.length p1) (apA is rs cs hs f k).ws ∧ OwnB u wr.heap.size (.slice r2 (apA is rs cs hs f k).bs.length p2) (apA is rs cs hs f k).bs := hv 8 28 rfl (hdep ⟨8, .data⟩ (by simp) rfl)
          have k9 := q3 hli
          have gw : u.grownBy (setL u g 0 (aL (apA is rs cs hs f k) r1 (apA is rs cs hs f k).ws.length p1 r2 (apA is rs cs hs f k).bs.length p2)) (some g) := setL_gw _ _ _
          have hm : MgA wr.heap.size u (setL u g 0 (aL (apA is rs cs hs f k) r1 (apA is rs cs hs f k).ws.length p1 r2 (apA is rs cs hs f k).bs.length p2)) := .inr ⟨g, _, _, gw, k9, by decide, by decide, q2⟩
          have hr : (Instr.storeAt 37 (.pointer (some ⟨g, 0, none⟩)) (.agg (aL (apA is rs cs hs f k) r1 (apA is rs cs hs f k).ws.length p1 r2 (apA is rs cs hs f k).bs.length p2).toArray)).run Try.prog u = .ok () (setL u g 0 (aL (apA is rs cs hs f k) r1 (apA is rs cs hs f k).ws.length p1 r2 (apA is rs cs hs f k).bs.length p2)) := by
            have := run_storeAt_mid (P := Try.prog) u g 0 37 (aL (apA is rs cs hs f k) r1 (apA is rs cs hs f k).ws.length p1 r2 (apA is rs cs hs f k).bs.length p2).toArray (k9.there 0 6 (by simp)) (by kernel_rfl) (by simp [Value.oneCell'])
            rw [setCells_L] at this
            exact this
          refine .inl ⟨rfl, .inr (.inr ⟨rfl, _, run_store_op rfl q1 h8 hr, ?_, hm⟩)⟩
          refine ⟨setL_below q2 _ _ _ hR.1, fun h9 => ?_, fun _ => ⟨g, q1, q2, fun h => (by rw [updBeq] at h; cases h), fun _ => ⟨r1, p1, r2, p2, ((((((k9.set 0 _).set 1 _).set 2 _).set 3 _).set 4 _).set 5 _), hm.i oI, hm.b oB⟩⟩⟩
          rw [updBne (by decide)] at h9
          obtain ⟨g', w1, w2, w3, w4⟩ := hR.2.1 h9
          exact ⟨g', w1, w2, fun h => by
            have k2 := w3 (by rw [updBne (by decide)] at h; exact h)
            exact k2.chg (Chg.ofGrown (S := fun x => x = g) gw (fun x e => (Option.some.inj e).symm)) (fun e => by have e' : g' = g := e; subst e'; exact blk_types k2 k9 (by decide)), fun h => by
            obtain ⟨z1, z2, z3, z4, t1, t2, t3, t4, v1, v2⟩ := w4 (by rw [updBne (by decide)] at h; exact h)
            exact ⟨z1, z2, z3, z4, t1, t2, t3, t4, v1.chg (Chg.ofGrown (S := fun x => x = g) gw (fun x e => (Option.some.inj e).symm)) (fun e => by have e' : g' = g := e; subst e'; exact blk_types v1 k9 (by decide)), hm.d v2⟩⟩
      · intro vs σ u hR hσ hall
        obtain ⟨gN, s9, lN, -, hN⟩ := hR.2.1 rfl
        obtain ⟨gA, s10, lA, -, hA⟩ := hR.2.2 rfl
        have v9 : vs 9 = .pointer (some ⟨gN, 0, none⟩) := (hσ 9 9 rfl).trans s9
        have v10 : vs 10 = .pointer (some ⟨gA, 0, none⟩) := (hσ 10 10 rfl).trans s10
        obtain ⟨z1, z2, z3, z4, t1, t2, t3, t4, N1, N2⟩ := hN rfl
        obtain ⟨r1, p1, r2, p2, A1, A2, A3⟩ := hA rfl
        have hsz := HL.out.1.size
        have HU : Hid (Below w.heap.size w u ∧ Blk u (w.heap.size + 1) 27 #[.slice none 0 0, .slice none 0 0, .slice none 0 0, .slice none 0 0] ∧ Blk u gO 27 #[.slice x1 l1 e1, .slice x2 l2 e2, .slice x3 l3 e3, .slice x4 l4 e4] ∧ LsV u w.heap.size (.slice bt k ct) k (apA is rs cs hs f) ∧ Blk u gN 27 #[.slice z1 l1 t1, .slice z2 l2 t2, .slice z3 l3 t3, .slice z4 l4 t4] ∧ OwnD u w.heap.size z1 z2 z3 z4 l1 l2 l3 l4 t1 t2 t3 t4 (apS is rs cs hs f (k + 1)).1 is (apS is rs cs hs f (k + 1)).2 rs ∧ Blk u gA 37 (aL (apA is rs cs hs f k) r1 (apA is rs cs hs f k).ws.length p1 r2 (apA is rs cs hs f k).bs.length p2).toArray ∧ OwnI u w.heap.size (.slice r1 (apA is rs cs hs f k).ws.length p1) (apA is rs cs hs f k).ws ∧ OwnB u w.heap.size (.slice r2 (apA is rs cs hs f k).bs.length p2) (apA is rs cs hs f k).bs) := ⟨bel_nx HL.out.1 hR.1, HL.out.2.1.below hR.1, HK.out.1.below hR.1, HL.out.2.2.below hR.1, N1, N2.mono hsz, A1, OwnI.mono (show OwnI _ _ _ _ from A2) hsz, OwnB.mono (show OwnB _ _ _ _ from A3) hsz⟩
        simp only [putsL]
        rw [v9, v10]
        clear hall hσ v9 v10 s9 s10 hR N1 N2 A1 A2 A3 hN hA lN lA HK HL
        go_simp
        obtain ⟨y0, y1, y2, y3⟩ := HU.out.2.2.2.2.1.four
        obtain ⟨o0, o1, o2, o3⟩ := HU.out.2.2.1.four
        have f0 := HU.out.2.2.1.fro 0
        have f1 := HU.out.2.2.1.fro 1
        have f2 := HU.out.2.2.1.fro 2
        have f3 := HU.out.2.2.1.fro 3
        obtain ⟨W5, hW5⟩ : ∃ W5, W5 = (((u.setCell ⟨gO, 0, none⟩ (.slice z1 l1 t1)).setCell ⟨gO, 1, none⟩ (.slice z2 l2 t2)).setCell ⟨gO, 2, none⟩ (.slice z3 l3 t3)).setCell ⟨gO, 3, none⟩ (.slice z4 l4 t4) := ⟨_, rfl⟩
        have H5 : Hid (Below w.heap.size w W5 ∧ Blk W5 (w.heap.size + 1) 27 #[.slice none 0 0, .slice none 0 0, .slice none 0 0, .slice none 0 0] ∧ Blk W5 gO 27 #[.slice z1 l1 t1, .slice z2 l2 t2, .slice z3 l3 t3, .slice z4 l4 t4] ∧ LsV W5 w.heap.size (.slice bt k ct) k (apA is rs cs hs f) ∧ OwnD W5 w.heap.size z1 z2 z3 z4 l1 l2 l3 l4 t1 t2 t3 t4 (apS is rs cs hs f (k + 1)).1 is (apS is rs cs hs f (k + 1)).2 rs ∧ Blk W5 gA 37 (aL (apA is rs cs hs f k) r1 (apA is rs cs hs f k).ws.length p1 r2 (apA is rs cs hs f k).bs.length p2).toArray ∧ OwnI W5 w.heap.size (.slice r1 (apA is rs cs hs f k).ws.length p1) (apA is rs cs hs f k).ws ∧ OwnB W5 w.heap.size (.slice r2 (apA is rs cs hs f k).bs.length p2) (apA is rs cs hs f k).bs) := by
          have h := HU.out
          have h3 := HG.out
          have cg : Cg u W5 (fun g => g = gO) := by
            rw [hW5]
            exact ((((Cg.refl u (fun g => g = gO)).set (p := ⟨gO, 0, none⟩) rfl _).set (p := ⟨gO, 1, none⟩) rfl _).set (p := ⟨gO, 2, none⟩) rfl _).set (p := ⟨gO, 3, none⟩) rfl _
          have ch : Chg u W5 (fun g => g = gO) := ⟨cg.os, cg.tape, cg.output, cg.size, cg.block⟩
          have gw : u.grownBy W5 (some gO) := by
            have e9 : W5 = setL u gO 0 [.slice z1 l1 t1, .slice z2 l2 t2, .slice z3 l3 t3, .slice z4 l4 t4] := by rw [hW5]; rfl
            rw [e9]; exact setL_gw _ _ _
          have hm : MgA w.heap.size u W5 := .inr ⟨gO, _, _, gw, h.2.2.1, by decide, by decide, by omega⟩
          exact ⟨cg.below h.1 (fun g e => by have e' : g = gO := e; omega) h.1.size, h.2.1.chg ch (by omega), by rw [hW5]; exact ((((h.2.2.1.set 0 _).set 1 _).set 2 _).set 3 _), h.2.2.2.1.keptB gw h.2.2.1 (by decide) (by decide) (by decide), hm.d h.2.2.2.2.2.1, h.2.2.2.2.2.2.1.chg ch (fun e => by have e' : gA = gO := e; subst e'; exact blk_types h.2.2.2.2.2.2.1 h.2.2.1 (by decide)), hm.i h.2.2.2.2.2.2.2.1, hm.b h.2.2.2.2.2.2.2.2⟩
        go_upto_region 8 with fail
        rw [← hW5]
        clear hW5 y0 y1 y2 y3 o0 o1 o2 o3 f0 f1 f2 f3 HU
        obtain ⟨y0, y1, y2, y3, y4, y5⟩ := Blk.six (H5.out.2.2.2.2.2.1)
        obtain ⟨W6, hW6⟩ : ∃ W6, W6 = W5.alloc (.cells (aL (apA is rs cs hs f k) r1 (apA is rs cs hs f k).ws.length p1 r2 (apA is rs cs hs f k).bs.length p2).toArray 37) := ⟨_, rfl⟩
        have H6 : Hid (Below W5.heap.size W5 W6 ∧ Blk W6 W5.heap.size 37 (aL (apA is rs cs hs f k) r1 (apA is rs cs hs f k).ws.length p1 r2 (apA is rs cs hs f k).bs.length p2).toArray) := ⟨by rw [hW6]; exact bel_alloc _ _, by rw [hW6]; exact Blk.new _ _ _⟩
        go_wp2_with (at_builtin; rw [← hW6]; refine wpList_appV rfl (.tmp 30) (.tmp 32) rfl w.heap.size (.slice bt k ct) k (apA is rs cs hs f) rfl (H5.out.2.2.2.1.below H6.out.1) W5.heap.size 1 r1 p1 r2 p2 rfl H6.out.2 (H5.out.2.2.2.2.2.2.1.below H6.out.1) (H5.out.2.2.2.2.2.2.2.below H6.out.1) (by omega) (Nat.le_trans H5.out.1.size H6.out.1.size) ?_; intro v' w9 L9 g9 hk9 ht9; obtain ⟨bt9, ct9, hv9⟩ := L9.shape; subst hv9; have H9 : Hid (Below w.heap.size w w9 ∧ Blk w9 (w.heap.size + 1) 27 #[.slice none 0 0, .slice none 0 0, .slice none 0 0, .slice none 0 0] ∧ Blk w9 gO 27 #[.slice z1 l1 t1, .slice z2 l2 t2, .slice z3 l3 t3, .slice z4 l4 t4] ∧ OwnD w9 w.heap.size z1 z2 z3 z4 l1 l2 l3 l4 t1 t2 t3 t4 (apS is rs cs hs f (k + 1)).1 is (apS is rs cs hs f (k + 1)).2 rs ∧ LsV w9 w.heap.size (.slice bt9 (k + 1) ct9) (k + 1) (apA is rs cs hs f)) := (by have h9 := app_keepV H5.out.1 H6.out.1 H5.out.2.1 H5.out.2.2.1 H5.out.2.2.2.2.1 g9 hk9 ht9; exact ⟨h9.1, h9.2.1, h9.2.2.1, h9.2.2.2, L9⟩); clear L9 g9 hk9 ht9)
        clear H5 H6 y0 y1 y2 y3 y4 y5
        go_roundw
        case rel => exact ⟨k + 1, bt9, ct9, z1, z2, z3, z4, t1, t2, t3, t4, by omega, by go_num, rfl, H9.out.1, H9.out.2.1, H9.out.2.2.1, H9.out.2.2.2.1, H9.out.2.2.2.2⟩
        case measure => simp [intOf]; omega
    · have hi : ¬ (k : Int) < (n : Int) := by omega
      have e9 : k = n := by omega
      subst e9
      obtain ⟨y0, y1, y2, y3⟩ := hD.four
      obtain ⟨z0, z1, z2, z3⟩ := hR0.four
      have f0 := hR0.fro 0
      have f1 := hR0.fro 1
      have f2 := hR0.fro 2
      have f3 := hR0.fro 3
      obtain ⟨W8, hW8⟩ : ∃ W8, W8 = (((wr.setCell ⟨w.heap.size + 1, 0, none⟩ (.slice x1 l1 e1)).setCell ⟨w.heap.size + 1, 1, none⟩ (.slice x2 l2 e2)).setCell ⟨w.heap.size + 1, 2, none⟩ (.slice x3 l3 e3)).setCell ⟨w.heap.size + 1, 3, none⟩ (.slice x4 l4 e4) := ⟨_, rfl⟩
      have H8 : Hid (Below w.heap.size w W8 ∧ Blk W8 (w.heap.size + 1) 27 #[.slice x1 l1 e1, .slice x2 l2 e2, .slice x3 l3 e3, .slice x4 l4 e4] ∧ SlD W8 x1 x2 x3 x4 (apS is rs cs hs f k).1 is (apS is rs cs hs f k).2 rs ∧ LsV W8 w.heap.size (.slice bt k ct) k (apA is rs cs hs f)) := by
        have cg : Cg wr W8 (fun g => g = w.heap.size + 1) := by
          rw [hW8]
          exact ((((Cg.refl wr (fun g => g = w.heap.size + 1)).set (p := ⟨w.heap.size + 1, 0, none⟩) rfl _).set (p := ⟨w.heap.size + 1, 1, none⟩) rfl _).set (p := ⟨w.heap.size + 1, 2, none⟩) rfl _).set (p := ⟨w.heap.size + 1, 3, none⟩) rfl _
        have gw : wr.grownBy W8 (some (w.heap.size + 1)) := by
          have e9 : W8 = setL wr (w.heap.size + 1) 0 [.slice x1 l1 e1, .slice x2 l2 e2, .slice x3 l3 e3, .slice x4 l4 e4] := by rw [hW8]; rfl
          rw [e9]; exact setL_gw _ _ _
        have hm : MgA w.heap.size wr W8 := .inr ⟨w.heap.size + 1, _, _, gw, hR0, by decide, by decide, by omega⟩
        refine ⟨cg.below hbl (fun g e => by have e' : g = w.heap.size + 1 := e; omega) hbl.size, ?_, (hm.d hO).sl.2, hL.keptB gw hR0 (by decide) (by decide) (by decide)⟩
        rw [hW8]
        exact ((((hR0.set 0 _).set 1 _).set 2 _).set 3 _)
      clear hbl hR0 hD hO hL
      go_wp2
      rw [← hW8]
      clear hW8
      obtain ⟨v0, v1, v2, v3⟩ := H8.out.2.1.four
      refine bodyPost_ret (v := .tuple #[dv x1 x2 x3 x4 l1 l2 l3 l4 e1 e2 e3 e4, .slice bt k ct]) (by simp [results, Try.results14, go_sem, v0, v1, v2, v3]) rfl ?_
      exact ⟨x1, x2, x3, x4, e1, e2, e3, e4, bt, ct, rfl, H8.out.2.2.1, H8.out.2.2.2, H8.out.1⟩
end Go.Proofs.Ytfdddkjonjpgpaa
namespace Go.Proofs.Ytfdddkjonjpgpaa
open Go.RowKit Go.Joins
set_option linter.unusedVariables false
set_option linter.unusedSimpArgs false
theorem sumN_bd {g : Nat → Nat} {M : Nat} : ∀ {n : Nat}, (∀ i, i < n → g i ≤ M) → sumN n g ≤ n * M
  | 0, _ => by simp [sumN]
  | n + 1, h => by
    have h1 := sumN_bd (n := n) (fun i hi => h i (by omega))
    have h2 := h n (by omega)
    simp only [sumN]
    rw [Nat.add_mul]
    omega
theorem eqResp_u (X : VA) (a1 : Option Addr) (l1 c1 : Nat) (a2 : Option Addr) (l2 c2 : Nat) (a1' : Option Addr) (c1' : Nat) (a2' : Option Addr) (c2' : Nat) (w : World) (r1 : Rd w 0 (intsT X.ws) (.slice a1 l1 c1)) (r2 : Rd w 0 (boolsT X.bs) (.slice a2 l2 c2)) (r1' : Rd w 0 (intsT X.ws) (.slice a1' l1 c1')) (r2' : Rd w 0 (boolsT X.bs) (.slice a2' l2 c2')) (hz : X.ws.length ≤ 2000000 ∧ X.bs.length ≤ 2000000) :
    Calls Try.prog 48 #[.agg (aL X a1 l1 c1 a2 l2 c2).toArray, .agg (aL X a1' l1 c1' a2' l2 c2').toArray] w fun e w' => e = .returned (.bool true) ∧ Below w.heap.size w w' := by
  have s1 := r1.int4
  have s2 := r2.bool4
  obtain ⟨_, _, e1, _⟩ := r1.ints
  simp only [Value.slice.injEq] at e1
  obtain ⟨_, _, e2, _⟩ := r2.bools
  simp only [Value.slice.injEq] at e2
  exact eqResp_true X.kd X.fl X.pl X.n a1 a2 a1' a2' l1 l2 l1 l2 c1 c2 c1' c2' X.ws X.bs w e1.2.1 e2.2.1 e1.2.1 e2.2.1 s1 s2 r1'.int4 r2'.bool4 hz.1 hz.2
set_option maxRecDepth 20000 in
set_option maxHeartbeats 4000000 in
theorem eqRespS_u (n : Nat) (f : Nat → VA) (a : Option Addr) (n' cap : Nat) (a' : Option Addr) (cap' : Nat) (w : World) (hs : Rd w 0 (.list 6 n (fun k => trs (aT (f k)))) (.slice a n' cap)) (hs' : Rd w 0 (.list 6 n (fun k => trs (aT (f k)))) (.slice a' n' cap')) (hn0 : n ≤ 1048576) (hz : ∀ k, k < n → (f k).ws.length ≤ 2000000 ∧ (f k).bs.length ≤ 2000000) :
    Calls Try.prog 18 #[.slice a n' cap, .slice a' n' cap'] w fun e w' => e = .returned (.bool true) ∧ Below w.heap.size w w' := by
  obtain ⟨a9, c9, h9, -, hn⟩ := hs.shape
  simp only [Value.slice.injEq] at h9
  obtain ⟨-, rfl, -⟩ := h9
  clear a9 c9 hn
  have hn1 : n' ≤ 1048576 := hn0
  have HZ : Hid (∀ k, k < n' → (f k).ws.length ≤ 2000000 ∧ (f k).bs.length ≤ 2000000) := hz
  have HS : Hid (Rd w 0 (.list 6 n' (fun k => trs (aT (f k)))) (.slice a n' cap) ∧ Rd w 0 (.list 6 n' (fun k => trs (aT (f k)))) (.slice a' n' cap')) := ⟨hs, hs'⟩
  clear hs hs' hz
  go_enter Try.func18, Try.ntmps18
  go_wp2
  go_loopw [5] (fun i wr => ∃ z : Nat, z ≤ n' ∧ i = .int .i64 z ∧ Below w.heap.size w wr) (fun i _ => n' - (intOf i).toNat)
  case atStart => exact ⟨0, Nat.zero_le _, rfl, Below.refl _ _⟩
  case round =>
    obtain ⟨k, hk, rfl, hbl⟩ := hrel
    by_cases hlt : k < n'
    · have hi : (k : Int) < (n' : Int) := by omega
      obtain ⟨b, off, vs, rfl, _, hb0, hlen, hr, hrd⟩ := (HS.out.1.below hbl).at hlt
      obtain ⟨a1, c1, a2, c2, rfl, r1, r2⟩ := VA.cells hrd hlen
      clear hlen hrd hb0
      obtain ⟨b', off', vs, rfl, _, hb0, hlen, hr', hrd⟩ := (HS.out.2.below hbl).at hlt
      obtain ⟨a1', c1', a2', c2', rfl, r1', r2'⟩ := VA.cells hrd hlen
      clear hlen hrd hb0
      have d09 : wr.cell? ⟨b, off + k * 6, none⟩ = _ := hr 0 _ rfl
      have e09 : wr.cell? ⟨b', off' + k * 6, none⟩ = _ := hr' 0 _ rfl
      have d19 : wr.cell? ⟨b, off + k * 6 + 1, none⟩ = _ := hr 1 _ rfl
      have e19 : wr.cell? ⟨b', off' + k * 6 + 1, none⟩ = _ := hr' 1 _ rfl
      have d29 : wr.cell? ⟨b, off + k * 6 + 2, none⟩ = _ := hr 2 _ rfl
      have e29 : wr.cell? ⟨b', off' + k * 6 + 2, none⟩ = _ := hr' 2 _ rfl
      have d39 : wr.cell? ⟨b, off + k * 6 + 3, none⟩ = _ := hr 3 _ rfl
      have e39 : wr.cell? ⟨b', off' + k * 6 + 3, none⟩ = _ := hr' 3 _ rfl
      have d49 : wr.cell? ⟨b, off + k * 6 + 4, none⟩ = _ := hr 4 _ rfl
      have e49 : wr.cell? ⟨b', off' + k * 6 + 4, none⟩ = _ := hr' 4 _ rfl
      have d59 : wr.cell? ⟨b, off + k * 6 + 5, none⟩ = _ := hr 5 _ rfl
      have e59 : wr.cell? ⟨b', off' + k * 6 + 5, none⟩ = _ := hr' 5 _ rfl
      have HK : Hid (Below w.heap.size w wr ∧ ((f k).ws.length ≤ 2000000 ∧ (f k).bs.length ≤ 2000000) ∧ Rd wr 0 (intsT (f k).ws) (.slice a1 ((f k).ws.length) c1) ∧ Rd wr 0 (boolsT (f k).bs) (.slice a2 ((f k).bs.length) c2) ∧ Rd wr 0 (intsT (f k).ws) (.slice a1' ((f k).ws.length) c1') ∧ Rd wr 0 (boolsT (f k).bs) (.slice a2' ((f k).bs.length) c2')) := ⟨hbl, HZ.out k hlt, r1, r2, r1', r2'⟩
      clear r1 r2 r1' r2' hr hr' hbl
      go_wp2_with fail
      go_region_with (go_at_call 48; refine (eqResp_u (f k) a1 ((f k).ws.length) c1 a2 ((f k).bs.length) c2 a1' c1' a2' c2' _ (HK.out.2.2.1.below (by first | exact Below.refl _ _ | exact (Below.refl _ _).drew | exact (Below.refl _ _).drew.drew)) (HK.out.2.2.2.1.below (by first | exact Below.refl _ _ | exact (Below.refl _ _).drew | exact (Below.refl _ _).drew.drew)) (HK.out.2.2.2.2.1.below (by first | exact Below.refl _ _ | exact (Below.refl _ _).drew | exact (Below.refl _ _).drew.drew)) (HK.out.2.2.2.2.2.below (by first | exact Below.refl _ _ | exact (Below.refl _ _).drew | exact (Below.refl _ _).drew.drew)) HK.out.2.1).mono ?_; rintro e w1 ⟨rfl, b1'⟩; have b1 : Below wr.heap.size wr w1 := bel_nx (by first | exact Below.refl _ _ | exact (Below.refl _ _).drew | exact (Below.refl _ _).drew.drew) b1'; clear b1')
      all_goals (
        have B1 := bel_nx HK.out.1 b1
        clear HK b1 d09 e09 d19 e19 d29 e29 d39 e39 d49 e49 d59 e59
        go_wp2
        go_roundw
        case rel => exact ⟨k + 1, by omega, by go_num, B1⟩
        case measure => simp [intOf]; omega)
    · have hi : ¬ (k : Int) < (n' : Int) := by omega
      go_wp2
      go_ret
      exact ⟨rfl, hbl⟩
end Go.Proofs.Ytfdddkjonjpgpaa
