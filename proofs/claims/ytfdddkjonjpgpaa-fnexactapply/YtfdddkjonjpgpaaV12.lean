/- Texts that the proof needs, joined: Dev25 Msk Dev26 Dev27a Dev27b. -/
import Derived.Test.YtfdddkjonjpgpaaV11
import Derived.Lib.AppendZeros
import Derived.Test.YtfdddkjonjpgpaaV8
import Derived.Test.YtfdddkjonjpgpaaV4
import Derived.BigRegion
namespace Go.Proofs.Ytfdddkjonjpgpaa
open Go.RowKit
set_option linter.unusedVariables false
set_option linter.unusedSimpArgs false
theorem slB_subG {w : World} {b off k N : Nat} {hs : List Bool} (h : SlB w (some ⟨b, off, none⟩) hs) (hk : k + N ≤ hs.length) : SlB w (some ⟨b, off + k, none⟩) ((hs.drop k).take N) := by
  rcases h with e | ⟨b', off', ha, hb, hc⟩
  · subst e; exact .inl (by simp)
  · simp only [Option.some.injEq, Addr.mk.injEq, and_true] at ha
    obtain ⟨rfl, rfl⟩ := ha
    refine .inr ⟨b, off + k, rfl, hb, fun i hi => ?_⟩
    have hi' : i < N := by simp at hi; omega
    have := hc (k + i) (by omega)
    rw [show off + k + i = off + (k + i) by omega, this]
    simp [List.getD_eq_getElem?_getD, List.getElem?_take, hi', List.getElem?_drop]
theorem slI_subG {w : World} {b off k N : Nat} {hs : List Int} (h : SlI w (some ⟨b, off, none⟩) hs) (hk : k + N ≤ hs.length) : SlI w (some ⟨b, off + k, none⟩) ((hs.drop k).take N) := by
  rcases h with e | ⟨b', off', ha, hb, hc⟩
  · subst e; exact .inl (by simp)
  · simp only [Option.some.injEq, Addr.mk.injEq, and_true] at ha
    obtain ⟨rfl, rfl⟩ := ha
    refine .inr ⟨b, off + k, rfl, hb, fun i hi => ?_⟩
    have hi' : i < N := by simp at hi; omega
    have := hc (k + i) (by omega)
    rw [show off + k + i = off + (k + i) by omega, this]
    simp [List.getD_eq_getElem?_getD, List.getElem?_take, hi', List.getElem?_drop]
theorem wpList_appF {w : World} {ops : Array Oper} {rest : List Oper} {o : Oper} {a : Act} {Q : Exit → Act → World → Prop} (hgd : o.guard = none) (s x : Operand)
    (ho : o.op = .call { callee := .builtin .append, args := #[s, x], argTypes := #[24, 24] }) (base : Nat) (v : Value) (zs : List Bool) (hs : a.eval s = v) (hown : OwnB w base v zs)
    (ad : Addr) (m c : Nat) (ys : List Bool) (hx : a.eval x = .slice (some ad) m c) (hm : m = ys.length) (hsl : SlB w (some ad) ys) (hlen : zs.length + ys.length ≤ 4000000) (hbase : base ≤ w.heap.size)
    (h : ∀ v' w', OwnB w' base v' (zs ++ ys) → w.grownBy w' v.ownBlock → wpList Try.prog ops Q rest (a.put o.dst v') w') : wpList Try.prog ops Q (o :: rest) a w := by
  obtain ⟨i0, hi, hz0, hz1, hz2⟩ := info_parts Try.info4
  subst hm
  have hml : zs.length + ys.length ≤ maxLen := by unfold maxLen; omega
  have hsrc : ∀ j v, (ys.map Value.bool)[j]? = some v → w.cell? (ad.add j) = some v := by
    rcases hsl with e | ⟨b, off, ha, hb, hc⟩
    · subst e; intro j v hj; simp at hj
    · simp only [Option.some.injEq] at ha
      subst ha
      exact slB_at (.inr ⟨b, off, rfl, hb, hc⟩)
  refine wpList_append_own _ hgd s x 24 ho base 4 i0 (.bool false) 1 1 Try.underlying24 hi hz0 hz1 hz2 rfl (by decide) v zs.length (zs.map Value.bool) hs hown ad ys.length c (ys.map Value.bool) hx (by simp) hsrc (onesB ys) hml (by omega) hbase ?_
  intro v' w' o' g' _
  exact h v' w' (by simpa [OwnB] using o') g'
theorem tB8_len (bs : List Bool) (k N : Nat) (h : k + N ≤ bs.length) : (tB8 bs k N).length = 8 * ((N + 7) / 8) := by
  unfold tB8; simp; omega
theorem ownB_form {w : World} {base : Nat} {v : Value} {zs : List Bool} (h : OwnB w base v zs) : ∃ a c n, v = .slice a n c ∧ n = zs.length := by
  obtain ⟨_, h2⟩ := h
  rcases h2 with ⟨hv, h3⟩ | ⟨g, cap, cur, hv, hg, hh, _⟩
  · exact ⟨none, 0, 0, hv, h3.symm⟩
  · exact ⟨_, cap, _, hv, rfl⟩
theorem bel_rowB {B : Nat} {w0 w w' : World} {base : Nat} {v : Value} {zs : List Bool} (hb : Below B w0 w) (h : OwnB w base v zs) (hg : w.grownBy w' v.ownBlock) (h1 : B ≤ base) (h2 : B ≤ w.heap.size) : Below B w0 w' :=
  hb.grown hg h2 (fun k hk => by have := (World.ownsRow.lt h k hk).1; omega)
set_option maxRecDepth 20000 in
set_option maxHeartbeats 2000000 in
theorem l5Bits_any (a : Option Addr) (l c k N : Nat) (bs : List Bool) (w : World) (hl : l = bs.length) (hlc : l ≤ c) (hs : SlB w a bs) (hk : k + N ≤ l) (hN : 1 ≤ N) (h3 : l ≤ 2000000) :
    Calls Try.prog 71 #[.slice a l c, .int .i64 (k : Int), .int .i64 (N : Int)] w fun e w' => ∃ v, e = .returned v ∧ OwnB w' w.heap.size v (tB8 bs k N) ∧ Below w.heap.size w w' := by
  obtain ⟨b, off, rfl, hb, hc⟩ := cell_atB hs (k := 0) (by omega)
  have hs1 := slB_subG (k := k) (N := N) hs (by omega)
  obtain ⟨xs, hxs⟩ : ∃ xs, xs = (bs.drop k).take N := ⟨_, rfl⟩
  rw [← hxs] at hs1
  have HX : Hid (N = xs.length ∧ xs = (bs.drop k).take N) := by refine ⟨?_, hxs⟩; rw [hxs]; simp; omega
  have b1 := bel_alloc w (.cells #[] 4)
  have ol : OwnB (w.alloc (.cells #[] 4)) w.heap.size (.slice (some ⟨w.heap.size, 0, none⟩) 0 0) [] := ⟨rfl, .inr ⟨w.heap.size, 0, #[], rfl, Nat.le_refl _, Blk.new w #[] 4, by simp, by simp, rfl, rfl⟩⟩
  have HS1 : Hid (SlB (w.alloc (.cells #[] 4)) (some ⟨b, off + k, none⟩) xs ∧ xs.length ≤ 2000000) := ⟨hs1.below b1, by have := HX.out.1; omega⟩
  have i0 : (k : Int) ≤ (k : Int) + (N : Int) := by omega
  have i1 : (k : Int) + (N : Int) ≤ (l : Int) := by omega
  have i2 : (k : Int) + (N : Int) ≤ (c : Int) := by omega
  have i3 : (0 : Int) ≤ (k : Int) := by omega
  have i4 : (0 : Int) ≤ (k : Int) + (N : Int) := by omega
  have i5 : IntKind.i64.wrap ((k : Int) + (N : Int)) = (k : Int) + (N : Int) := by rw [IntKind.wrap_i64]; omega
  have i6 : (k : Int) ≤ (c : Int) := by omega
  have i7 : ¬ c = k := by omega
  have i8 : ((k : Int) + (N : Int)).toNat - k = N := by omega
  have HM : Hid (N ≤ 2000000) := by show N ≤ 2000000; omega
  clear hs hs1 hxs hc
  go_enter Try.func71, Try.ntmps71
  go_wp2_with (at_builtin; obtain ⟨v1, w1, hr, o1, b1', _, a1, d1, hv1⟩ := app0B (w.alloc (.cells #[] 4)) w.heap.size w.heap.size (some ⟨b, off + k, none⟩) N (c - k) xs HX.out.1 HS1.out.1 HS1.out.2 (Nat.le_refl _) ol; refine Lib.wpList_append_run _ rfl (.tmp 8) (.tmp 14) _ _ rfl _ _ rfl rfl _ _ hr ?_; subst hv1; have B1 := bel_next b1 b1'; clear hr b1' ol b1)
  clear i0 i1 i2 i3 i4 i5 i6 i7 i8
  go_loopw [7] (fun v wr => ∃ j : Nat, N + j ≤ 8 * ((N + 7) / 8) ∧ OwnB wr w.heap.size v (xs ++ List.replicate j false) ∧ Below w.heap.size w wr) (fun v _ => 8 * ((N + 7) / 8) - (match v with | .slice _ n _ => n | _ => 0))
  case atStart => exact ⟨0, by omega, by simpa using o1, B1⟩
  case round =>
    obtain ⟨j, hj, ho, hB⟩ := hrel
    obtain ⟨a', c', n', rfl, hn'⟩ := ownB_form ho
    have hnj : n' = N + j := by rw [hn']; simp; have := HX.out.1; omega
    have HN' : Hid (n' = N + j) := hnj
    have hM := HM.out
    by_cases he : n' % 8 = 0
    · have e : tB8 bs k N = xs ++ List.replicate j false := by
        unfold tB8; rw [← HX.out.2, show 8 * ((N + 7) / 8) - N = j by omega]
      have hz : ((n' : Int) % 8 != 0) = false := by simp; omega
      have hz2 : Int.tmod (n' : Int) 8 = (n' : Int) % 8 := Int.tmod_eq_emod_of_nonneg (by omega)
      rw [← e] at ho
      clear hn' hnj hj o1 B1
      go_wp2_with fail
      go_ret
      exact ⟨_, rfl, ho, hB⟩
    · have hz : ((n' : Int) % 8 != 0) = true := by simp; omega
      have hz2 : Int.tmod (n' : Int) 8 = (n' : Int) % 8 := Int.tmod_eq_emod_of_nonneg (by omega)
      have hlen : Hid ((xs ++ List.replicate j false).length + [false].length ≤ 4000000) := hide (by rw [← hn']; simp; omega)
      have B2 := bel_next hB (bel_alloc wr (.cells #[.bool false] 4))
      have o2 := ho.below (bel_alloc wr (.cells #[.bool false] 4))
      have hlt : N + (j + 1) ≤ 8 * ((N + 7) / 8) := by omega
      clear hn' hnj o1 B1 ho
      go_wp2_with (at_builtin; refine wpList_appF rfl (.tmp 20) (.tmp 21) rfl w.heap.size (.slice a' n' c') (xs ++ List.replicate j false) rfl o2 ⟨wr.heap.size, 0, none⟩ 1 1 [false] rfl rfl (lit_slB1 _ _ rfl) hlen.out B2.size ?_; intro v3 w3 o3 g3; have B3 : Below w.heap.size w w3 := bel_rowB B2 o2 g3 (Nat.le_refl _) B2.size; obtain ⟨a3, c3, n3, hv3, hn3⟩ := ownB_form o3; subst hv3; have HN3 : Hid (n3 = n' + 1) := hide (by rw [hn3, HN'.out]; simp; have := HX.out.1; omega); rw [List.append_assoc, show List.replicate j false ++ [false] = List.replicate (j + 1) false from (List.replicate_succ' ..).symm] at o3; clear hn3 g3 o2 B2)
      go_roundw
      case rel => exact ⟨j + 1, hlt, o3, B3⟩
      case measure => have := HN3.out; have := HN'.out; simp; omega
end Go.Proofs.Ytfdddkjonjpgpaa
namespace Go.Proofs.Ytfdddkjonjpgpaa
open Go.RowKit
abbrev wv (h : Int) : BitVec 64 := BitVec.ofInt 64 h
theorem wv_nat {h : Int} (h0 : 0 ≤ h) (h1 : h ≤ 65535) : ((wv h).toNat : Int) = h := by
  unfold wv
  rw [BitVec.toNat_ofInt]
  have e : h % ((2 ^ 64 : Nat) : Int) = h := Int.emod_eq_of_lt h0 (by omega)
  rw [e]; omega
theorem wrap_sm {n : Nat} (h : n < 65536) : IntKind.i64.wrap (n : Int) = (n : Int) := by rw [IntKind.wrap_i64]; omega
theorem wv_back {v : BitVec 64} : wv (v.toNat : Int) = v := by
  simp [wv, BitVec.ofInt_natCast]
theorem and_lt {a b : BitVec 64} (h : a.toNat < 65536) : (a &&& b).toNat < 65536 := by
  rw [BitVec.toNat_and]; exact Nat.lt_of_le_of_lt Nat.and_le_left h
def mv (h x y : BitVec 64) : BitVec 64 := (h &&& x) ||| (y &&& ~~~x)
theorem wv_lt {h : Int} (h0 : 0 ≤ h) (h1 : h ≤ 65535) : (wv h).toNat < 65536 := by have := wv_nat h0 h1; omega
theorem sm_bit {v : BitVec 64} (h : v.toNat < 65536) {i : Nat} (hi : 16 ≤ i) : v.getLsbD i = false := by
  rw [BitVec.getLsbD]
  exact Nat.testBit_lt_two_pow (Nat.lt_of_lt_of_le h (Nat.pow_le_pow_right (n := 2) (by decide) hi))
theorem ones_bit (i : Nat) (hi : i < 16) : (wv 65535).getLsbD i = true := by
  have h : ∀ i : Fin 16, (wv 65535).getLsbD i = true := by decide
  exact h ⟨i, hi⟩
def bitI (h : Int) (k : Nat) : Int := h / ((2 ^ k : Nat) : Int) % 2
end Go.Proofs.Ytfdddkjonjpgpaa
namespace Go.Proofs.Ytfdddkjonjpgpaa
open Go.RowKit
set_option linter.unusedVariables false
set_option linter.unusedSimpArgs false
structure SS (w : World) (dc qc : Array Value) (z : World) (G6 G7 : Nat) (x1 x2 x3 x4 : Option Addr) (l1 l2 l3 l4 d1 d2 d3 d4 : Nat) (is : List Bool) (rs : List Int) (cs : List Bool) (hs : List Int) (tc : Array Value) (u : World) : Prop where
  X : Blk u w.heap.size 27 dc
  Y : Blk u (w.heap.size + 1) 57 qc
  P : Blk u (w.heap.size + 1 + 1) 27 #[.slice none 0 0, .slice none 0 0, .slice none 0 0, .slice none 0 0]
  Q : Blk u (w.heap.size + 1 + 1 + 1) 37 #[.int .i64 0, .int .i64 0, .int .i64 0, .int .i64 0, .slice none 0 0, .slice none 0 0]
  N : Blk u G6 27 #[.slice x1 l1 d1, .slice x2 l2 d2, .slice x3 l3 d3, .slice x4 l4 d4]
  T : Blk u G7 37 tc
  D : OwnD u z.heap.size x1 x2 x3 x4 l1 l2 l3 l4 d1 d2 d3 d4 cs is hs rs
  bel : Below w.heap.size w u
  belz : Below z.heap.size z u
  zb0 : z.heap.size = w.heap.size + 1 + 1 + 1 + 1
  g6 : z.heap.size ≤ G6
  g7 : G6 < G7
theorem SS.below {w u z : World} {dc qc tc : Array Value} {G6 G7 : Nat} {x1 x2 x3 x4 : Option Addr} {l1 l2 l3 l4 d1 d2 d3 d4 : Nat} {is cs : List Bool} {rs hs : List Int} {u' : World} (h : SS w dc qc z G6 G7 x1 x2 x3 x4 l1 l2 l3 l4 d1 d2 d3 d4 is rs cs hs tc u) (hb : Below u.heap.size u u') : SS w dc qc z G6 G7 x1 x2 x3 x4 l1 l2 l3 l4 d1 d2 d3 d4 is rs cs hs tc u' :=
  ⟨h.X.below hb, h.Y.below hb, h.P.below hb, h.Q.below hb, h.N.below hb, h.T.below hb, h.D.below hb, bel_next h.bel hb, bel_next h.belz hb, h.zb0, h.g6, h.g7⟩
theorem SS.setT {w u z : World} {dc qc tc : Array Value} {G6 G7 : Nat} {x1 x2 x3 x4 : Option Addr} {l1 l2 l3 l4 d1 d2 d3 d4 : Nat} {is cs : List Bool} {rs hs : List Int} (h : SS w dc qc z G6 G7 x1 x2 x3 x4 l1 l2 l3 l4 d1 d2 d3 d4 is rs cs hs tc u) (j : Nat) (y : Value) : SS w dc qc z G6 G7 x1 x2 x3 x4 l1 l2 l3 l4 d1 d2 d3 d4 is rs cs hs (tc.setIfInBounds j y) (u.setCell ⟨G7, j, none⟩ y) := by
  have := h.g6
  have := h.g7
  have := h.zb0
  refine ⟨h.X.setNe (by omega), h.Y.setNe (by omega), h.P.setNe (by omega), h.Q.setNe (by omega), h.N.setNe (by omega), h.T.set j y, ?_, h.bel.setCell (p := ⟨G7, j, none⟩) (by show w.heap.size ≤ G7; omega) _, h.belz.setCell (p := ⟨G7, j, none⟩) (by show z.heap.size ≤ G7; omega) _, h.zb0, h.g6, h.g7⟩
  have e : ExB u G7 37 := ⟨_, h.T⟩
  exact ⟨row_setE h.D.1 e (by decide), row_setE h.D.2.1 e (by decide), row_setE h.D.2.2.1 e (by decide), row_setE h.D.2.2.2.1 e (by decide), h.D.2.2.2.2⟩
theorem SS.chg {w u z : World} {dc qc tc : Array Value} {G6 G7 : Nat} {x1 x2 x3 x4 : Option Addr} {l1 l2 l3 l4 d1 d2 d3 d4 : Nat} {is cs : List Bool} {rs hs : List Int} {u' : World} {cs' : List Bool} {hs' : List Int} (h : SS w dc qc z G6 G7 x1 x2 x3 x4 l1 l2 l3 l4 d1 d2 d3 d4 is rs cs hs tc u) (hc : Chg u u' (Of4 (.slice x1 l1 d1) (.slice x2 l2 d2) (.slice x3 l3 d3) (.slice x4 l4 d4))) (hD : OwnD u' z.heap.size x1 x2 x3 x4 l1 l2 l3 l4 d1 d2 d3 d4 cs' is hs' rs) : SS w dc qc z G6 G7 x1 x2 x3 x4 l1 l2 l3 l4 d1 d2 d3 d4 is rs cs' hs' tc u' :=
  ⟨h.X.chg hc (h.D.noBlk h.X (by decide) (by decide)), h.Y.chg hc (h.D.noBlk h.Y (by decide) (by decide)), h.P.chg hc (h.D.noBlk h.P (by decide) (by decide)), h.Q.chg hc (h.D.noBlk h.Q (by decide) (by decide)), h.N.chg hc (h.D.noBlk h.N (by decide) (by decide)), h.T.chg hc (h.D.noBlk h.T (by decide) (by decide)), hD, Chg.below h.bel hc (fun g hg => by have := (h.D.of4 g hg).1; have := h.zb0; omega) h.bel.size, Chg.below h.belz hc (fun g hg => (h.D.of4 g hg).1) h.belz.size, h.zb0, h.g6, h.g7⟩
theorem SS.apart {w u z : World} {dc qc tc : Array Value} {G6 G7 : Nat} {x1 x2 x3 x4 : Option Addr} {l1 l2 l3 l4 d1 d2 d3 d4 : Nat} {is cs : List Bool} {rs hs : List Int} {r1 r2 : Option Addr} {p1 p2 t1 t2 : Nat} {u0 : World} {ws : List Int} {bs : List Bool} (h : SS w dc qc z G6 G7 x1 x2 x3 x4 l1 l2 l3 l4 d1 d2 d3 d4 is rs cs hs tc u0) (hi : OwnI u u0.heap.size (.slice r1 p1 t1) ws) (hj : OwnB u u0.heap.size (.slice r2 p2 t2) bs) : ∀ g, (Of4 (.slice x1 l1 d1) (.slice x2 l2 d2) (.slice x3 l3 d3) (.slice x4 l4 d4)) g → ¬ Of2 (.slice r1 p1 t1) (.slice r2 p2 t2) g := by
  intro g h1 h2
  have q1 := (h.D.of4 g h1).2
  rcases h2 with h2 | h2
  · have := (World.ownsRow.lt hi g h2).1; omega
  · have := (World.ownsRow.lt hj g h2).1; omega
theorem mskI_spec {h x y : Int} (h0 : 0 ≤ h ∧ h ≤ 65535) (x0 : 0 ≤ x ∧ x ≤ 65535) (y0 : 0 ≤ y ∧ y ≤ 65535) : bits .or .i64 (bits .and .i64 h x) (bits .and .i64 y (bits .xor .i64 65535 x)) = mskI h x y := by
  have hx := wv_lt x0.1 x0.2
  have hy := wv_lt y0.1 y0.2
  have hh := wv_lt h0.1 h0.2
  have h16 : (wv 65535).toNat < 65536 := wv_lt (by decide) (by decide)
  have hxor : (wv 65535 ^^^ wv x).toNat < 65536 := by rw [BitVec.toNat_xor]; exact Nat.xor_lt_two_pow (n := 16) h16 hx
  have a1 : bits .and .i64 h x = ((wv h &&& wv x).toNat : Int) := wrap_sm (and_lt hh)
  have a2 : bits .xor .i64 65535 x = ((wv 65535 ^^^ wv x).toNat : Int) := wrap_sm hxor
  have a3 : bits .and .i64 y ((wv 65535 ^^^ wv x).toNat : Int) = ((wv y &&& wv ((wv 65535 ^^^ wv x).toNat : Int)).toNat : Int) := wrap_sm (and_lt hy)
  have a4 : wv y &&& (wv 65535 ^^^ wv x) = wv y &&& ~~~(wv x) := by
    apply BitVec.eq_of_getLsbD_eq
    intro i hi
    by_cases h1 : i < 16
    · simp only [BitVec.getLsbD_and, BitVec.getLsbD_xor, BitVec.getLsbD_not, ones_bit i h1]
      cases (wv x).getLsbD i <;> simp [hi]
    · simp only [BitVec.getLsbD_and, sm_bit hy (show 16 ≤ i by omega), Bool.false_and]
  have a5 : mskI h x y = bits .or .i64 ((wv h &&& wv x).toNat : Int) ((wv y &&& ~~~(wv x)).toNat : Int) := by
    unfold mskI
    rw [a1, show bits .andNot .i64 y x = ((wv y &&& ~~~(wv x)).toNat : Int) from wrap_sm (and_lt hy)]
  rw [a1, a2, a3, wv_back, a4, a5]
end Go.Proofs.Ytfdddkjonjpgpaa
namespace Go.Proofs.Ytfdddkjonjpgpaa
open Go.RowKit
set_option linter.unusedVariables false
set_option linter.unusedSimpArgs false
set_option maxRecDepth 20000 in
set_option maxHeartbeats 4000000 in
theorem specServe_1 (a1 a2 a3 a4 : Option Addr) (l1 l2 l3 l4 c1 c2 c3 c4 : Nat) (cs is : List Bool) (hs rs : List Int) (wa : Int) (q1 q2 : Option Addr) (m1 m2 k1 k2 : Nat) (ws : List Int) (bs : List Bool) (w : World) (hn : LnD l1 l2 l3 l4 cs is hs rs) (hs0 : SlD w a1 a2 a3 a4 cs is hs rs) (hsm : SmD 2000000 cs is hs rs) (hq : SlI w q1 ws) (hq2 : SlB w q2 bs) (h1 : m1 = ws.length) (h2 : m2 = bs.length) (hl : ws.length ≤ 2000000) (hl2 : bs.length ≤ 2000000) (k N : Nat) (hN : 1 ≤ N) (hpk : k + N ≤ l1) (hcap : l1 ≤ c1) (hok : okR 1 (k : Int) (N : Int) wa ws m1 m2 = true) (hd : okD l1 l2 l3 l4 hs rs = true) (hal : svAll l1 l2 l3 l4 1 (k : Int) (N : Int) wa m1 m2 = true) :
    Calls Try.prog 42 #[dv a1 a2 a3 a4 l1 l2 l3 l4 c1 c2 c3 c4, .agg #[.int .i64 1, .int .i64 (k : Int), .int .i64 (N : Int), .slice q1 m1 k1, .slice q2 m2 k2, .int .i64 wa]] w fun e w' => SR w w' e cs is hs rs 1 0 0 0 [] (tB8 cs k N) := by
  obtain ⟨z, hz⟩ : ∃ z, z = (((w.alloc (.cells #[.slice a1 l1 c1, .slice a2 l2 c2, .slice a3 l3 c3, .slice a4 l4 c4] 27)).alloc (.cells #[.int .i64 1, .int .i64 (k : Int), .int .i64 (N : Int), .slice q1 m1 k1, .slice q2 m2 k2, .int .i64 wa] 57)).alloc (.cells #[.slice none 0 0, .slice none 0 0, .slice none 0 0, .slice none 0 0] 27)).alloc (.cells #[.int .i64 0, .int .i64 0, .int .i64 0, .int .i64 0, .slice none 0 0, .slice none 0 0] 37) := ⟨_, rfl⟩
  have HZ : Hid (z = _) := hz
  have b0 : Below w.heap.size w z := by rw [hz]; exact bel_next (bel_next (bel_next (bel_alloc w _) (bel_alloc _ _)) (bel_alloc _ _)) (bel_alloc _ _)
  have X0 : Blk z w.heap.size 27 #[.slice a1 l1 c1, .slice a2 l2 c2, .slice a3 l3 c3, .slice a4 l4 c4] := by rw [hz]; exact (((Blk.new w _ _).below (bel_alloc _ _)).below (bel_alloc _ _)).below (bel_alloc _ _)
  have Y0 : Blk z (w.heap.size + 1) 57 #[.int .i64 1, .int .i64 (k : Int), .int .i64 (N : Int), .slice q1 m1 k1, .slice q2 m2 k2, .int .i64 wa] := by rw [hz]; have := ((Blk.new (w.alloc (.cells #[.slice a1 l1 c1, .slice a2 l2 c2, .slice a3 l3 c3, .slice a4 l4 c4] 27)) #[.int .i64 1, .int .i64 (k : Int), .int .i64 (N : Int), .slice q1 m1 k1, .slice q2 m2 k2, .int .i64 wa] 57).below (bel_alloc _ (.cells #[.slice none 0 0, .slice none 0 0, .slice none 0 0, .slice none 0 0] 27))).below (bel_alloc _ (.cells #[.int .i64 0, .int .i64 0, .int .i64 0, .int .i64 0, .slice none 0 0, .slice none 0 0] 37)); simpa using this
  have P0 : Blk z (w.heap.size + 1 + 1) 27 #[.slice none 0 0, .slice none 0 0, .slice none 0 0, .slice none 0 0] := by rw [hz]; have := (Blk.new ((w.alloc (.cells #[.slice a1 l1 c1, .slice a2 l2 c2, .slice a3 l3 c3, .slice a4 l4 c4] 27)).alloc (.cells #[.int .i64 1, .int .i64 (k : Int), .int .i64 (N : Int), .slice q1 m1 k1, .slice q2 m2 k2, .int .i64 wa] 57)) #[.slice none 0 0, .slice none 0 0, .slice none 0 0, .slice none 0 0] 27).below (bel_alloc _ (.cells #[.int .i64 0, .int .i64 0, .int .i64 0, .int .i64 0, .slice none 0 0, .slice none 0 0] 37)); simpa using this
  have Q0 : Blk z (w.heap.size + 1 + 1 + 1) 37 #[.int .i64 0, .int .i64 0, .int .i64 0, .int .i64 0, .slice none 0 0, .slice none 0 0] := by rw [hz]; have := Blk.new (((w.alloc (.cells #[.slice a1 l1 c1, .slice a2 l2 c2, .slice a3 l3 c3, .slice a4 l4 c4] 27)).alloc (.cells #[.int .i64 1, .int .i64 (k : Int), .int .i64 (N : Int), .slice q1 m1 k1, .slice q2 m2 k2, .int .i64 wa] 57)).alloc (.cells #[.slice none 0 0, .slice none 0 0, .slice none 0 0, .slice none 0 0] 27)) #[.int .i64 0, .int .i64 0, .int .i64 0, .int .i64 0, .slice none 0 0, .slice none 0 0] 37; simpa using this
  have HN : Hid (LnD l1 l2 l3 l4 cs is hs rs ∧ SmD 2000000 cs is hs rs ∧ SlD w a1 a2 a3 a4 cs is hs rs ∧ SlI w q1 ws ∧ SlB w q2 bs) := ⟨hn, hsm, hs0, hq, hq2⟩
  have HQ : Hid (m1 = ws.length ∧ m2 = bs.length ∧ ws.length ≤ 2000000 ∧ bs.length ≤ 2000000) := ⟨h1, h2, hl, hl2⟩
  have HZS : Hid (z.heap.size = w.heap.size + 1 + 1 + 1 + 1) := by show _ = _; rw [hz]; simp
  obtain ⟨x0', x1', x2', x3'⟩ := X0.four
  clear hz hn hs0 hsm hq hq2 h1 h2 hl hl2
  go_enter Try.func42, Try.ntmps42
  go_upto_region 1 with fail
  rw [← HZ.out]
  go_wp2_with fail
  refine (l5Copy_any a1 a2 a3 a4 l1 l2 l3 l4 c1 c2 c3 c4 cs is hs rs _ HN.out.1 (HN.out.2.2.1.below b0) HN.out.2.1).mono ?_
  rintro e w1 ⟨x1, x2, x3, x4, d1, d2, d3, d4, rfl, o1, b'⟩
  have b1 := bel_next b0 b'
  have bz1 := b'
  have X1 := X0.below b'
  have Y1 := Y0.below b'
  have P1 := P0.below b'
  have Q1 := Q0.below b'
  have HG6 : Hid (z.heap.size ≤ w1.heap.size) := b'.size
  clear x0' x1' x2' x3' X0 Y0 P0 Q0 b0 b'
  have b' := bel_alloc w1 (.cells #[.slice x1 l1 d1, .slice x2 l2 d2, .slice x3 l3 d3, .slice x4 l4 d4] 27)
  have N' := Blk.new w1 #[.slice x1 l1 d1, .slice x2 l2 d2, .slice x3 l3 d3, .slice x4 l4 d4] 27
  obtain ⟨w2, hw2⟩ : ∃ x, x = w1.alloc (.cells #[.slice x1 l1 d1, .slice x2 l2 d2, .slice x3 l3 d3, .slice x4 l4 d4] 27) := ⟨_, rfl⟩
  rw [← hw2] at b' N'
  have HW2 : Hid (w2 = _) := hw2
  obtain ⟨G6, hBN⟩ : ∃ x, x = w1.heap.size := ⟨_, rfl⟩
  rw [← hBN] at N'
  have HBN : Hid (G6 = w1.heap.size) := hBN
  have S2 : ∀ G7 tc, G6 < G7 → Blk w2 G7 37 tc → True := fun _ _ _ _ => trivial
  have b2 := bel_next b1 b'
  have bz2 := bel_next bz1 b'
  have X2 := X1.below b'
  have Y2 := Y1.below b'
  have P2 := P1.below b'
  have Q2 := Q1.below b'
  have o2 := o1.below b'
  clear hw2 hBN b1 bz1 X1 Y1 P1 Q1 o1 b' S2
  obtain ⟨x0', x1', x2', x3'⟩ := X2.four
  go_upto_region 2 with fail
  rw [← HW2.out]
  simp only [← HBN.out]
  have HD : Hid (okD l1 l2 l3 l4 hs rs = true) := hd
  have HOK : Hid (okR 1 (k : Int) (N : Int) wa ws m1 m2 = true) := hok
  have HAL : Hid (svAll l1 l2 l3 l4 1 (k : Int) (N : Int) wa m1 m2 = true) := hal
  have HLM : Hid (l1 ≤ 2000000 ∧ l2 ≤ 2000000 ∧ l3 ≤ 2000000 ∧ l4 ≤ 2000000) := by have := okD_len hd; show _ ∧ _ ∧ _ ∧ _; omega
  clear hd hok hal
  go_wp2_with fail
  refine (specDeviceOk_any a1 a2 a3 a4 l1 l2 l3 l4 c1 c2 c3 c4 cs is hs rs _ HN.out.1 (HN.out.2.2.1.below b2) HN.out.2.1 true HD.out).mono ?_
  rintro e w3 ⟨rfl, b'⟩
  have b3 := bel_next b2 b'
  have bz3 := bel_next bz2 b'
  have X3 := X2.below b'
  have Y3 := Y2.below b'
  have P3 := P2.below b'
  have Q3 := Q2.below b'
  have N3 := N'.below b'
  have o3 := o2.below b'
  clear x0' x1' x2' x3' X2 Y2 P2 Q2 N' o2 b2 bz2 b'
  obtain ⟨x0', x1', x2', x3'⟩ := X3.four
  obtain ⟨y0', y1', y2', y3', y4', y5'⟩ := Y3.six
  go_wp2_with fail
  refine (specReqOk_q 1 (k : Int) (N : Int) wa q1 q2 m1 m2 k1 k2 ws bs _ HQ.out.1 HQ.out.2.1 (HN.out.2.2.2.1.below b3) (HN.out.2.2.2.2.below b3) HQ.out.2.2.1 HQ.out.2.2.2).mono ?_
  rintro e w4 ⟨he, b'⟩
  rw [HOK.out] at he
  subst he
  have b4 := bel_next b3 b'
  have bz4 := bel_next bz3 b'
  have X4 := X3.below b'
  have Y4 := Y3.below b'
  have P4 := P3.below b'
  have Q4 := Q3.below b'
  have N4 := N3.below b'
  have o4 := o3.below b'
  clear x0' x1' x2' x3' y0' y1' y2' y3' y4' y5' X3 Y3 P3 Q3 N3 o3 b3 bz3 b'
  obtain ⟨x0', x1', x2', x3'⟩ := X4.four
  obtain ⟨y0', y1', y2', y3', y4', y5'⟩ := Y4.six
  go_wp2_with fail
  refine (l5There_any a1 a2 a3 a4 l1 l2 l3 l4 c1 c2 c3 c4 1 (k : Int) (N : Int) wa q1 q2 m1 m2 k1 k2 ws bs _ HQ.out.1 HQ.out.2.1 (HN.out.2.2.2.1.below b4) (HN.out.2.2.2.2.below b4) HQ.out.2.2.1 HQ.out.2.2.2 HOK.out HLM.out.1 HLM.out.2.1 HLM.out.2.2.1 HLM.out.2.2.2 true HAL.out).mono ?_
  rintro e w5 ⟨rfl, b'⟩
  have b5 := bel_next b4 b'
  have bz5 := bel_next bz4 b'
  have X5 := X4.below b'
  have Y5 := Y4.below b'
  have P5 := P4.below b'
  have Q5 := Q4.below b'
  have N5 := N4.below b'
  have o5 := o4.below b'
  clear x0' x1' x2' x3' y0' y1' y2' y3' y4' y5' X4 Y4 P4 Q4 N4 o4 b4 bz4 b'
  obtain ⟨y0', y1', y2', y3', y4', y5'⟩ := Y5.six
  have b' := bel_alloc w5 (.cells #[.int .i64 1, .int .i64 0, .int .i64 0, .int .i64 0, .slice none 0 0, .slice none 0 0] 37)
  have T' := Blk.new w5 #[.int .i64 1, .int .i64 0, .int .i64 0, .int .i64 0, .slice none 0 0, .slice none 0 0] 37
  obtain ⟨w6, hw6⟩ : ∃ x, x = w5.alloc (.cells #[.int .i64 1, .int .i64 0, .int .i64 0, .int .i64 0, .slice none 0 0, .slice none 0 0] 37) := ⟨_, rfl⟩
  rw [← hw6] at b' T'
  have HW6 : Hid (w6 = _) := hw6
  obtain ⟨G7, hG7⟩ : ∃ x, x = w5.heap.size := ⟨_, rfl⟩
  rw [← hG7] at T'
  have HG7 : Hid (G7 = w5.heap.size) := hG7
  have S6 : SS w #[.slice a1 l1 c1, .slice a2 l2 c2, .slice a3 l3 c3, .slice a4 l4 c4] #[.int .i64 1, .int .i64 (k : Int), .int .i64 (N : Int), .slice q1 m1 k1, .slice q2 m2 k2, .int .i64 wa] z G6 G7 x1 x2 x3 x4 l1 l2 l3 l4 d1 d2 d3 d4 is rs cs hs #[.int .i64 1, .int .i64 0, .int .i64 0, .int .i64 0, .slice none 0 0, .slice none 0 0] w6 := ⟨X5.below b', Y5.below b', P5.below b', Q5.below b', N5.below b', T', o5.below b', bel_next b5 b', bel_next bz5 b', HZS.out, by have := HG6.out; have := HBN.out; omega, by rw [hG7]; exact N5.lt⟩
  clear X5 Y5 P5 Q5 N5 o5 b5 bz5 b' T' hw6 hG7
  go_upto_region 7 with fail
  clear y0' y1' y2' y3' y4' y5'
  rw [← HW6.out]
  simp only [← HG7.out]
  clear HW6 HG7 HW2 HBN HZ
  have HK : Hid (l1 = cs.length ∧ l1 ≤ c1 ∧ k + N ≤ l1 ∧ 1 ≤ N) := ⟨HN.out.1.1, hcap, hpk, hN⟩
  clear hcap hpk hN
  obtain ⟨x0', x1', x2', x3'⟩ := S6.X.four
  obtain ⟨y0', y1', y2', y3', y4', y5'⟩ := S6.Y.six
  obtain ⟨n0', n1', n2', n3'⟩ := S6.N.four
  obtain ⟨t0', t1', t2', t3', t4', t5'⟩ := S6.T.six
  have ft0 := S6.T.fro 0
  have ft1 := S6.T.fro 1
  have ft2 := S6.T.fro 2
  have ft3 := S6.T.fro 3
  have ft4 := S6.T.fro 4
  have ft5 := S6.T.fro 5
  go_wp2_with fail
  refine (l5Bits_any a1 l1 c1 k N cs _ HK.out.1 HK.out.2.1 (HN.out.2.2.1.1.below S6.bel) HK.out.2.2.1 HK.out.2.2.2 HLM.out.1).mono ?_
  rintro e w7 ⟨v, rfl, ov, b'⟩
  obtain ⟨r2, t2, p2, rfl, hp2⟩ := ownB_form ov
  have S7 := S6.below b'
  have HAp : Hid (∀ g, (Of4 (.slice x1 l1 d1) (.slice x2 l2 d2) (.slice x3 l3 d3) (.slice x4 l4 d4)) g → ¬ Of2 (.slice none 0 0) (.slice r2 p2 t2) g) := S6.apart (ownI_nil0 _ _) ov
  have HO : Hid (OwnB w7 w.heap.size (.slice r2 p2 t2) (tB8 cs k N)) := ov.mono S6.bel.size
  have S8 := S7.setT 5 (.slice r2 p2 t2)
  have HO8 : Hid (OwnB (w7.setCell ⟨G7, 5, none⟩ (.slice r2 p2 t2)) w.heap.size (.slice r2 p2 t2) (tB8 cs k N)) := row_setE HO.out ⟨_, S7.T⟩ (by decide)
  clear hp2 ov b' S6
  clear x0' x1' x2' x3' y0' y1' y2' y3' y4' y5' n0' n1' n2' n3' t0' t1' t2' t3' t4' t5' ft0 ft1 ft2 ft3 ft4 ft5
  obtain ⟨x0', x1', x2', x3'⟩ := S7.X.four
  obtain ⟨y0', y1', y2', y3', y4', y5'⟩ := S7.Y.six
  obtain ⟨n0', n1', n2', n3'⟩ := S7.N.four
  obtain ⟨t0', t1', t2', t3', t4', t5'⟩ := S7.T.six
  have ft0 := S7.T.fro 0
  have ft1 := S7.T.fro 1
  have ft2 := S7.T.fro 2
  have ft3 := S7.T.fro 3
  have ft4 := S7.T.fro 4
  have ft5 := S7.T.fro 5
  go_upto_region 41 with fail
  obtain ⟨w8, hw8⟩ : ∃ x, x = w7.setCell ⟨G7, 5, none⟩ (.slice r2 p2 t2) := ⟨_, rfl⟩
  rw [← hw8] at S8 HO8 ⊢
  have S9 : SS w #[.slice a1 l1 c1, .slice a2 l2 c2, .slice a3 l3 c3, .slice a4 l4 c4] #[.int .i64 1, .int .i64 (k : Int), .int .i64 (N : Int), .slice q1 m1 k1, .slice q2 m2 k2, .int .i64 wa] z G6 G7 x1 x2 x3 x4 l1 l2 l3 l4 d1 d2 d3 d4 is rs cs hs #[.int .i64 1, .int .i64 0, .int .i64 0, .int .i64 0, .slice none 0 0, .slice r2 p2 t2] w8 := S8
  clear hw8 S8 S7 HO
  clear x0' x1' x2' x3' y0' y1' y2' y3' y4' y5' n0' n1' n2' n3' t0' t1' t2' t3' t4' t5' ft0 ft1 ft2 ft3 ft4 ft5
  obtain ⟨r1, p1, t1, hr1⟩ : ∃ (r1 : Option Addr) (p1 t1 : Nat), Value.slice r1 p1 t1 = .slice none 0 0 := ⟨none, 0, 0, rfl⟩
  rw [← hr1] at S9 HAp
  have OI : Hid (OwnI w8 w.heap.size (.slice r1 p1 t1) []) := by rw [hr1]; exact ownI_nil0 _ _
  have OB := HO8
  clear hr1
  have N4 := S9.N
  have T' := S9.T
  have P4 := S9.P
  have Q4 := S9.Q
  have HH : Hid (OwnD w8 w.heap.size x1 x2 x3 x4 l1 l2 l3 l4 d1 d2 d3 d4 cs is hs rs ∧ OwnI w8 w.heap.size (.slice r1 p1 t1) [] ∧ OwnB w8 w.heap.size (.slice r2 p2 t2) (tB8 cs k N) ∧ Below w.heap.size w w8 ∧ ExB w8 (w.heap.size + 1 + 1) 27 ∧ ExB w8 (w.heap.size + 1 + 1 + 1) 37) := ⟨S9.D.mono (by have := S9.zb0; omega), OI.out, OB.out, S9.bel, ⟨_, P4⟩, ⟨_, Q4⟩⟩
  have lN : w.heap.size + 1 + 1 + 1 + 1 ≤ G6 := by have := S9.zb0; have := S9.g6; omega
  have lT : w.heap.size + 1 + 1 + 1 + 1 ≤ G7 := by have := S9.g7; omega
  obtain ⟨n0, n1, n2, n3⟩ := N4.four
  obtain ⟨t0', t1', t2', t3', t4', t5'⟩ := T'.six
  obtain ⟨p0', p1', p2', p3'⟩ := P4.four
  obtain ⟨q0', q1', q2', q3', q4', q5'⟩ := Q4.six
  have fp0 := P4.fro 0
  have fp1 := P4.fro 1
  have fp2 := P4.fro 2
  have fp3 := P4.fro 3
  have fq0 := Q4.fro 0
  have fq1 := Q4.fro 1
  have fq2 := Q4.fro 2
  have fq3 := Q4.fro 3
  have fq4 := Q4.fro 4
  have fq5 := Q4.fro 5
  have e1 : ¬ (G6 = w.heap.size + 1 + 1) := by omega
  have e2 : ¬ (G6 = w.heap.size + 1 + 1 + 1) := by omega
  have e3 : ¬ (G7 = w.heap.size + 1 + 1) := by omega
  have e4 : ¬ (G7 = w.heap.size + 1 + 1 + 1) := by omega
  have e1' : ¬ (w.heap.size + 1 + 1 = G6) := by omega
  have e2' : ¬ (w.heap.size + 1 + 1 + 1 = G6) := by omega
  have e3' : ¬ (w.heap.size + 1 + 1 = G7) := by omega
  have e4' : ¬ (w.heap.size + 1 + 1 + 1 = G7) := by omega
  clear lN lT
  obtain ⟨W5, hW5⟩ : ∃ x, x = ((((((((((w8.setCell ⟨w.heap.size + 1 + 1, 0, none⟩ (.slice x1 l1 d1)).setCell ⟨w.heap.size + 1 + 1, 1, none⟩ (.slice x2 l2 d2)).setCell ⟨w.heap.size + 1 + 1, 2, none⟩ (.slice x3 l3 d3)).setCell ⟨w.heap.size + 1 + 1, 3, none⟩ (.slice x4 l4 d4)).setCell ⟨w.heap.size + 1 + 1 + 1, 0, none⟩ (.int .i64 (1))).setCell ⟨w.heap.size + 1 + 1 + 1, 1, none⟩ (.int .i64 (0))).setCell ⟨w.heap.size + 1 + 1 + 1, 2, none⟩ (.int .i64 (0))).setCell ⟨w.heap.size + 1 + 1 + 1, 3, none⟩ (.int .i64 (0))).setCell ⟨w.heap.size + 1 + 1 + 1, 4, none⟩ (.slice r1 p1 t1)).setCell ⟨w.heap.size + 1 + 1 + 1, 5, none⟩ (.slice r2 p2 t2)) := ⟨_, rfl⟩
  have HW5 : Hid (W5 = _) := hW5
  have HF : Hid (OwnD W5 w.heap.size x1 x2 x3 x4 l1 l2 l3 l4 d1 d2 d3 d4 cs is hs rs ∧ OwnI W5 w.heap.size (.slice r1 p1 t1) [] ∧ OwnB W5 w.heap.size (.slice r2 p2 t2) (tB8 cs k N) ∧ Below w.heap.size w W5) := by
    obtain ⟨o1, o2, o3, o4, o5, o6⟩ := HH.out
    have x6 : ∀ v0 v1 v2 v3 : Value, ExB ((((w8.setCell ⟨w.heap.size + 1 + 1, 0, none⟩ v0).setCell ⟨w.heap.size + 1 + 1, 1, none⟩ v1).setCell ⟨w.heap.size + 1 + 1, 2, none⟩ v2).setCell ⟨w.heap.size + 1 + 1, 3, none⟩ v3) (w.heap.size + 1 + 1 + 1) 37 := fun _ _ _ _ => ExB.set (ExB.set (ExB.set (ExB.set o6)))
    rw [hW5]
    exact ⟨(o1.set4 o5 (by decide) (by decide)).set6 (x6 _ _ _ _) (by decide) (by decide), rowp_set6 (row_set4 o2 o5 (by decide)) (x6 _ _ _ _) (by decide), rowp_set6 (row_set4 o3 o5 (by decide)) (x6 _ _ _ _) (by decide), belp_set6 (bel_set4 o4 (by omega)) (by omega)⟩
  have HPQ : Hid (Blk W5 (w.heap.size + 1 + 1) 27 #[.slice x1 l1 d1, .slice x2 l2 d2, .slice x3 l3 d3, .slice x4 l4 d4] ∧ Blk W5 (w.heap.size + 1 + 1 + 1) 37 #[.int .i64 1, .int .i64 0, .int .i64 0, .int .i64 0, .slice r1 p1 t1, .slice r2 p2 t2]) := by
    have a1' := (((P4.set 0 (.slice x1 l1 d1)).set 1 (.slice x2 l2 d2)).set 2 (.slice x3 l3 d3)).set 3 (.slice x4 l4 d4)
    have a2' := (((((a1'.setNe (g' := w.heap.size + 1 + 1 + 1) (j := 0) (y := .int .i64 (1)) (by omega)).setNe (g' := w.heap.size + 1 + 1 + 1) (j := 1) (y := .int .i64 (0)) (by omega)).setNe (g' := w.heap.size + 1 + 1 + 1) (j := 2) (y := .int .i64 (0)) (by omega)).setNe (g' := w.heap.size + 1 + 1 + 1) (j := 3) (y := .int .i64 (0)) (by omega)).setNe (g' := w.heap.size + 1 + 1 + 1) (j := 4) (y := .slice r1 p1 t1) (by omega)).setNe (g' := w.heap.size + 1 + 1 + 1) (j := 5) (y := .slice r2 p2 t2) (by omega)
    have c1' := (((Q4.setNe (g' := w.heap.size + 1 + 1) (j := 0) (y := .slice x1 l1 d1) (by omega)).setNe (g' := w.heap.size + 1 + 1) (j := 1) (y := .slice x2 l2 d2) (by omega)).setNe (g' := w.heap.size + 1 + 1) (j := 2) (y := .slice x3 l3 d3) (by omega)).setNe (g' := w.heap.size + 1 + 1) (j := 3) (y := .slice x4 l4 d4) (by omega)
    have c2' := (((((c1'.set 0 (.int .i64 (1))).set 1 (.int .i64 (0))).set 2 (.int .i64 (0))).set 3 (.int .i64 (0))).set 4 (.slice r1 p1 t1)).set 5 (.slice r2 p2 t2)
    rw [hW5]
    exact ⟨a2', c2'⟩
  clear hW5 S9
  go_region
  rw [← HW5.out]
  obtain ⟨u0, u1, u2, u3⟩ := HPQ.out.1.four
  obtain ⟨v0, v1, v2, v3, v4, v5⟩ := HPQ.out.2.six
  clear p0' p1' p2' p3' q0' q1' q2' q3' q4' q5' fp0 fp1 fp2 fp3 fq0 fq1 fq2 fq3 fq4 fq5 n0 n1 n2 n3 t0' t1' t2' t3' t4' t5'
  go_wp2
  refine bodyPost_ret (v := .tuple #[dv x1 x2 x3 x4 l1 l2 l3 l4 d1 d2 d3 d4, rp (1) (0) (0) (0) r1 r2 p1 p2 t1 t2]) (by simp [results, Try.results42, go_sem, u0, u1, u2, u3, v0, v1, v2, v3, v4, v5]) rfl ?_
  obtain ⟨o1, o2, o3, o4⟩ := HF.out
  exact ⟨_, _, _, _, _, _, _, _, _, _, _, _, _, _, _, _, _, _, rfl, o1.drew, o2.below (Below.refl _ _).drew, o3.below (Below.refl _ _).drew, HAp.out, o4.drew⟩
set_option maxRecDepth 20000 in
set_option maxHeartbeats 4000000 in
theorem specServe_2 (a1 a2 a3 a4 : Option Addr) (l1 l2 l3 l4 c1 c2 c3 c4 : Nat) (cs is : List Bool) (hs rs : List Int) (wa : Int) (q1 q2 : Option Addr) (m1 m2 k1 k2 : Nat) (ws : List Int) (bs : List Bool) (w : World) (hn : LnD l1 l2 l3 l4 cs is hs rs) (hs0 : SlD w a1 a2 a3 a4 cs is hs rs) (hsm : SmD 2000000 cs is hs rs) (hq : SlI w q1 ws) (hq2 : SlB w q2 bs) (h1 : m1 = ws.length) (h2 : m2 = bs.length) (hl : ws.length ≤ 2000000) (hl2 : bs.length ≤ 2000000) (k N : Nat) (hN : 1 ≤ N) (hpk : k + N ≤ l2) (hcap : l2 ≤ c2) (hok : okR 2 (k : Int) (N : Int) wa ws m1 m2 = true) (hd : okD l1 l2 l3 l4 hs rs = true) (hal : svAll l1 l2 l3 l4 2 (k : Int) (N : Int) wa m1 m2 = true) :
    Calls Try.prog 42 #[dv a1 a2 a3 a4 l1 l2 l3 l4 c1 c2 c3 c4, .agg #[.int .i64 2, .int .i64 (k : Int), .int .i64 (N : Int), .slice q1 m1 k1, .slice q2 m2 k2, .int .i64 wa]] w fun e w' => SR w w' e cs is hs rs 2 0 0 0 [] (tB8 is k N) := by
  obtain ⟨z, hz⟩ : ∃ z, z = (((w.alloc (.cells #[.slice a1 l1 c1, .slice a2 l2 c2, .slice a3 l3 c3, .slice a4 l4 c4] 27)).alloc (.cells #[.int .i64 2, .int .i64 (k : Int), .int .i64 (N : Int), .slice q1 m1 k1, .slice q2 m2 k2, .int .i64 wa] 57)).alloc (.cells #[.slice none 0 0, .slice none 0 0, .slice none 0 0, .slice none 0 0] 27)).alloc (.cells #[.int .i64 0, .int .i64 0, .int .i64 0, .int .i64 0, .slice none 0 0, .slice none 0 0] 37) := ⟨_, rfl⟩
  have HZ : Hid (z = _) := hz
  have b0 : Below w.heap.size w z := by rw [hz]; exact bel_next (bel_next (bel_next (bel_alloc w _) (bel_alloc _ _)) (bel_alloc _ _)) (bel_alloc _ _)
  have X0 : Blk z w.heap.size 27 #[.slice a1 l1 c1, .slice a2 l2 c2, .slice a3 l3 c3, .slice a4 l4 c4] := by rw [hz]; exact (((Blk.new w _ _).below (bel_alloc _ _)).below (bel_alloc _ _)).below (bel_alloc _ _)
  have Y0 : Blk z (w.heap.size + 1) 57 #[.int .i64 2, .int .i64 (k : Int), .int .i64 (N : Int), .slice q1 m1 k1, .slice q2 m2 k2, .int .i64 wa] := by rw [hz]; have := ((Blk.new (w.alloc (.cells #[.slice a1 l1 c1, .slice a2 l2 c2, .slice a3 l3 c3, .slice a4 l4 c4] 27)) #[.int .i64 2, .int .i64 (k : Int), .int .i64 (N : Int), .slice q1 m1 k1, .slice q2 m2 k2, .int .i64 wa] 57).below (bel_alloc _ (.cells #[.slice none 0 0, .slice none 0 0, .slice none 0 0, .slice none 0 0] 27))).below (bel_alloc _ (.cells #[.int .i64 0, .int .i64 0, .int .i64 0, .int .i64 0, .slice none 0 0, .slice none 0 0] 37)); simpa using this
  have P0 : Blk z (w.heap.size + 1 + 1) 27 #[.slice none 0 0, .slice none 0 0, .slice none 0 0, .slice none 0 0] := by rw [hz]; have := (Blk.new ((w.alloc (.cells #[.slice a1 l1 c1, .slice a2 l2 c2, .slice a3 l3 c3, .slice a4 l4 c4] 27)).alloc (.cells #[.int .i64 2, .int .i64 (k : Int), .int .i64 (N : Int), .slice q1 m1 k1, .slice q2 m2 k2, .int .i64 wa] 57)) #[.slice none 0 0, .slice none 0 0, .slice none 0 0, .slice none 0 0] 27).below (bel_alloc _ (.cells #[.int .i64 0, .int .i64 0, .int .i64 0, .int .i64 0, .slice none 0 0, .slice none 0 0] 37)); simpa using this
  have Q0 : Blk z (w.heap.size + 1 + 1 + 1) 37 #[.int .i64 0, .int .i64 0, .int .i64 0, .int .i64 0, .slice none 0 0, .slice none 0 0] := by rw [hz]; have := Blk.new (((w.alloc (.cells #[.slice a1 l1 c1, .slice a2 l2 c2, .slice a3 l3 c3, .slice a4 l4 c4] 27)).alloc (.cells #[.int .i64 2, .int .i64 (k : Int), .int .i64 (N : Int), .slice q1 m1 k1, .slice q2 m2 k2, .int .i64 wa] 57)).alloc (.cells #[.slice none 0 0, .slice none 0 0, .slice none 0 0, .slice none 0 0] 27)) #[.int .i64 0, .int .i64 0, .int .i64 0, .int .i64 0, .slice none 0 0, .slice none 0 0] 37; simpa using this
  have HN : Hid (LnD l1 l2 l3 l4 cs is hs rs ∧ SmD 2000000 cs is hs rs ∧ SlD w a1 a2 a3 a4 cs is hs rs ∧ SlI w q1 ws ∧ SlB w q2 bs) := ⟨hn, hsm, hs0, hq, hq2⟩
  have HQ : Hid (m1 = ws.length ∧ m2 = bs.length ∧ ws.length ≤ 2000000 ∧ bs.length ≤ 2000000) := ⟨h1, h2, hl, hl2⟩
  have HZS : Hid (z.heap.size = w.heap.size + 1 + 1 + 1 + 1) := by show _ = _; rw [hz]; simp
  obtain ⟨x0', x1', x2', x3'⟩ := X0.four
  clear hz hn hs0 hsm hq hq2 h1 h2 hl hl2
  go_enter Try.func42, Try.ntmps42
  go_upto_region 1 with fail
  rw [← HZ.out]
  go_wp2_with fail
  refine (l5Copy_any a1 a2 a3 a4 l1 l2 l3 l4 c1 c2 c3 c4 cs is hs rs _ HN.out.1 (HN.out.2.2.1.below b0) HN.out.2.1).mono ?_
  rintro e w1 ⟨x1, x2, x3, x4, d1, d2, d3, d4, rfl, o1, b'⟩
  have b1 := bel_next b0 b'
  have bz1 := b'
  have X1 := X0.below b'
  have Y1 := Y0.below b'
  have P1 := P0.below b'
  have Q1 := Q0.below b'
  have HG6 : Hid (z.heap.size ≤ w1.heap.size) := b'.size
  clear x0' x1' x2' x3' X0 Y0 P0 Q0 b0 b'
  have b' := bel_alloc w1 (.cells #[.slice x1 l1 d1, .slice x2 l2 d2, .slice x3 l3 d3, .slice x4 l4 d4] 27)
  have N' := Blk.new w1 #[.slice x1 l1 d1, .slice x2 l2 d2, .slice x3 l3 d3, .slice x4 l4 d4] 27
  obtain ⟨w2, hw2⟩ : ∃ x, x = w1.alloc (.cells #[.slice x1 l1 d1, .slice x2 l2 d2, .slice x3 l3 d3, .slice x4 l4 d4] 27) := ⟨_, rfl⟩
  rw [← hw2] at b' N'
  have HW2 : Hid (w2 = _) := hw2
  obtain ⟨G6, hBN⟩ : ∃ x, x = w1.heap.size := ⟨_, rfl⟩
  rw [← hBN] at N'
  have HBN : Hid (G6 = w1.heap.size) := hBN
  have S2 : ∀ G7 tc, G6 < G7 → Blk w2 G7 37 tc → True := fun _ _ _ _ => trivial
  have b2 := bel_next b1 b'
  have bz2 := bel_next bz1 b'
  have X2 := X1.below b'
  have Y2 := Y1.below b'
  have P2 := P1.below b'
  have Q2 := Q1.below b'
  have o2 := o1.below b'
  clear hw2 hBN b1 bz1 X1 Y1 P1 Q1 o1 b' S2
  obtain ⟨x0', x1', x2', x3'⟩ := X2.four
  go_upto_region 2 with fail
  rw [← HW2.out]
  simp only [← HBN.out]
  have HD : Hid (okD l1 l2 l3 l4 hs rs = true) := hd
  have HOK : Hid (okR 2 (k : Int) (N : Int) wa ws m1 m2 = true) := hok
  have HAL : Hid (svAll l1 l2 l3 l4 2 (k : Int) (N : Int) wa m1 m2 = true) := hal
  have HLM : Hid (l1 ≤ 2000000 ∧ l2 ≤ 2000000 ∧ l3 ≤ 2000000 ∧ l4 ≤ 2000000) := by have := okD_len hd; show _ ∧ _ ∧ _ ∧ _; omega
  clear hd hok hal
  go_wp2_with fail
  refine (specDeviceOk_any a1 a2 a3 a4 l1 l2 l3 l4 c1 c2 c3 c4 cs is hs rs _ HN.out.1 (HN.out.2.2.1.below b2) HN.out.2.1 true HD.out).mono ?_
  rintro e w3 ⟨rfl, b'⟩
  have b3 := bel_next b2 b'
  have bz3 := bel_next bz2 b'
  have X3 := X2.below b'
  have Y3 := Y2.below b'
  have P3 := P2.below b'
  have Q3 := Q2.below b'
  have N3 := N'.below b'
  have o3 := o2.below b'
  clear x0' x1' x2' x3' X2 Y2 P2 Q2 N' o2 b2 bz2 b'
  obtain ⟨x0', x1', x2', x3'⟩ := X3.four
  obtain ⟨y0', y1', y2', y3', y4', y5'⟩ := Y3.six
  go_wp2_with fail
  refine (specReqOk_q 2 (k : Int) (N : Int) wa q1 q2 m1 m2 k1 k2 ws bs _ HQ.out.1 HQ.out.2.1 (HN.out.2.2.2.1.below b3) (HN.out.2.2.2.2.below b3) HQ.out.2.2.1 HQ.out.2.2.2).mono ?_
  rintro e w4 ⟨he, b'⟩
  rw [HOK.out] at he
  subst he
  have b4 := bel_next b3 b'
  have bz4 := bel_next bz3 b'
  have X4 := X3.below b'
  have Y4 := Y3.below b'
  have P4 := P3.below b'
  have Q4 := Q3.below b'
  have N4 := N3.below b'
  have o4 := o3.below b'
  clear x0' x1' x2' x3' y0' y1' y2' y3' y4' y5' X3 Y3 P3 Q3 N3 o3 b3 bz3 b'
  obtain ⟨x0', x1', x2', x3'⟩ := X4.four
  obtain ⟨y0', y1', y2', y3', y4', y5'⟩ := Y4.six
  go_wp2_with fail
  refine (l5There_any a1 a2 a3 a4 l1 l2 l3 l4 c1 c2 c3 c4 2 (k : Int) (N : Int) wa q1 q2 m1 m2 k1 k2 ws bs _ HQ.out.1 HQ.out.2.1 (HN.out.2.2.2.1.below b4) (HN.out.2.2.2.2.below b4) HQ.out.2.2.1 HQ.out.2.2.2 HOK.out HLM.out.1 HLM.out.2.1 HLM.out.2.2.1 HLM.out.2.2.2 true HAL.out).mono ?_
  rintro e w5 ⟨rfl, b'⟩
  have b5 := bel_next b4 b'
  have bz5 := bel_next bz4 b'
  have X5 := X4.below b'
  have Y5 := Y4.below b'
  have P5 := P4.below b'
  have Q5 := Q4.below b'
  have N5 := N4.below b'
  have o5 := o4.below b'
  clear x0' x1' x2' x3' y0' y1' y2' y3' y4' y5' X4 Y4 P4 Q4 N4 o4 b4 bz4 b'
  obtain ⟨y0', y1', y2', y3', y4', y5'⟩ := Y5.six
  have b' := bel_alloc w5 (.cells #[.int .i64 2, .int .i64 0, .int .i64 0, .int .i64 0, .slice none 0 0, .slice none 0 0] 37)
  have T' := Blk.new w5 #[.int .i64 2, .int .i64 0, .int .i64 0, .int .i64 0, .slice none 0 0, .slice none 0 0] 37
  obtain ⟨w6, hw6⟩ : ∃ x, x = w5.alloc (.cells #[.int .i64 2, .int .i64 0, .int .i64 0, .int .i64 0, .slice none 0 0, .slice none 0 0] 37) := ⟨_, rfl⟩
  rw [← hw6] at b' T'
  have HW6 : Hid (w6 = _) := hw6
  obtain ⟨G7, hG7⟩ : ∃ x, x = w5.heap.size := ⟨_, rfl⟩
  rw [← hG7] at T'
  have HG7 : Hid (G7 = w5.heap.size) := hG7
  have S6 : SS w #[.slice a1 l1 c1, .slice a2 l2 c2, .slice a3 l3 c3, .slice a4 l4 c4] #[.int .i64 2, .int .i64 (k : Int), .int .i64 (N : Int), .slice q1 m1 k1, .slice q2 m2 k2, .int .i64 wa] z G6 G7 x1 x2 x3 x4 l1 l2 l3 l4 d1 d2 d3 d4 is rs cs hs #[.int .i64 2, .int .i64 0, .int .i64 0, .int .i64 0, .slice none 0 0, .slice none 0 0] w6 := ⟨X5.below b', Y5.below b', P5.below b', Q5.below b', N5.below b', T', o5.below b', bel_next b5 b', bel_next bz5 b', HZS.out, by have := HG6.out; have := HBN.out; omega, by rw [hG7]; exact N5.lt⟩
  clear X5 Y5 P5 Q5 N5 o5 b5 bz5 b' T' hw6 hG7
  go_upto_region 7 with fail
  clear y0' y1' y2' y3' y4' y5'
  rw [← HW6.out]
  simp only [← HG7.out]
  clear HW6 HG7 HW2 HBN HZ
  have HK : Hid (l2 = is.length ∧ l2 ≤ c2 ∧ k + N ≤ l2 ∧ 1 ≤ N) := ⟨HN.out.1.2.1, hcap, hpk, hN⟩
  clear hcap hpk hN
  obtain ⟨x0', x1', x2', x3'⟩ := S6.X.four
  obtain ⟨y0', y1', y2', y3', y4', y5'⟩ := S6.Y.six
  obtain ⟨n0', n1', n2', n3'⟩ := S6.N.four
  obtain ⟨t0', t1', t2', t3', t4', t5'⟩ := S6.T.six
  have ft0 := S6.T.fro 0
  have ft1 := S6.T.fro 1
  have ft2 := S6.T.fro 2
  have ft3 := S6.T.fro 3
  have ft4 := S6.T.fro 4
  have ft5 := S6.T.fro 5
  go_wp2_with fail
  refine (l5Bits_any a2 l2 c2 k N is _ HK.out.1 HK.out.2.1 (HN.out.2.2.1.2.1.below S6.bel) HK.out.2.2.1 HK.out.2.2.2 HLM.out.2.1).mono ?_
  rintro e w7 ⟨v, rfl, ov, b'⟩
  obtain ⟨r2, t2, p2, rfl, hp2⟩ := ownB_form ov
  have S7 := S6.below b'
  have HAp : Hid (∀ g, (Of4 (.slice x1 l1 d1) (.slice x2 l2 d2) (.slice x3 l3 d3) (.slice x4 l4 d4)) g → ¬ Of2 (.slice none 0 0) (.slice r2 p2 t2) g) := S6.apart (ownI_nil0 _ _) ov
  have HO : Hid (OwnB w7 w.heap.size (.slice r2 p2 t2) (tB8 is k N)) := ov.mono S6.bel.size
  have S8 := S7.setT 5 (.slice r2 p2 t2)
  have HO8 : Hid (OwnB (w7.setCell ⟨G7, 5, none⟩ (.slice r2 p2 t2)) w.heap.size (.slice r2 p2 t2) (tB8 is k N)) := row_setE HO.out ⟨_, S7.T⟩ (by decide)
  clear hp2 ov b' S6
  clear x0' x1' x2' x3' y0' y1' y2' y3' y4' y5' n0' n1' n2' n3' t0' t1' t2' t3' t4' t5' ft0 ft1 ft2 ft3 ft4 ft5
  obtain ⟨x0', x1', x2', x3'⟩ := S7.X.four
  obtain ⟨y0', y1', y2', y3', y4', y5'⟩ := S7.Y.six
  obtain ⟨n0', n1', n2', n3'⟩ := S7.N.four
  obtain ⟨t0', t1', t2', t3', t4', t5'⟩ := S7.T.six
  have ft0 := S7.T.fro 0
  have ft1 := S7.T.fro 1
  have ft2 := S7.T.fro 2
  have ft3 := S7.T.fro 3
  have ft4 := S7.T.fro 4
  have ft5 := S7.T.fro 5
  go_upto_region 41 with fail
  obtain ⟨w8, hw8⟩ : ∃ x, x = w7.setCell ⟨G7, 5, none⟩ (.slice r2 p2 t2) := ⟨_, rfl⟩
  rw [← hw8] at S8 HO8 ⊢
  have S9 : SS w #[.slice a1 l1 c1, .slice a2 l2 c2, .slice a3 l3 c3, .slice a4 l4 c4] #[.int .i64 2, .int .i64 (k : Int), .int .i64 (N : Int), .slice q1 m1 k1, .slice q2 m2 k2, .int .i64 wa] z G6 G7 x1 x2 x3 x4 l1 l2 l3 l4 d1 d2 d3 d4 is rs cs hs #[.int .i64 2, .int .i64 0, .int .i64 0, .int .i64 0, .slice none 0 0, .slice r2 p2 t2] w8 := S8
  clear hw8 S8 S7 HO
  clear x0' x1' x2' x3' y0' y1' y2' y3' y4' y5' n0' n1' n2' n3' t0' t1' t2' t3' t4' t5' ft0 ft1 ft2 ft3 ft4 ft5
  obtain ⟨r1, p1, t1, hr1⟩ : ∃ (r1 : Option Addr) (p1 t1 : Nat), Value.slice r1 p1 t1 = .slice none 0 0 := ⟨none, 0, 0, rfl⟩
  rw [← hr1] at S9 HAp
  have OI : Hid (OwnI w8 w.heap.size (.slice r1 p1 t1) []) := by rw [hr1]; exact ownI_nil0 _ _
  have OB := HO8
  clear hr1
  have N4 := S9.N
  have T' := S9.T
  have P4 := S9.P
  have Q4 := S9.Q
  have HH : Hid (OwnD w8 w.heap.size x1 x2 x3 x4 l1 l2 l3 l4 d1 d2 d3 d4 cs is hs rs ∧ OwnI w8 w.heap.size (.slice r1 p1 t1) [] ∧ OwnB w8 w.heap.size (.slice r2 p2 t2) (tB8 is k N) ∧ Below w.heap.size w w8 ∧ ExB w8 (w.heap.size + 1 + 1) 27 ∧ ExB w8 (w.heap.size + 1 + 1 + 1) 37) := ⟨S9.D.mono (by have := S9.zb0; omega), OI.out, OB.out, S9.bel, ⟨_, P4⟩, ⟨_, Q4⟩⟩
  have lN : w.heap.size + 1 + 1 + 1 + 1 ≤ G6 := by have := S9.zb0; have := S9.g6; omega
  have lT : w.heap.size + 1 + 1 + 1 + 1 ≤ G7 := by have := S9.g7; omega
  obtain ⟨n0, n1, n2, n3⟩ := N4.four
  obtain ⟨t0', t1', t2', t3', t4', t5'⟩ := T'.six
  obtain ⟨p0', p1', p2', p3'⟩ := P4.four
  obtain ⟨q0', q1', q2', q3', q4', q5'⟩ := Q4.six
  have fp0 := P4.fro 0
  have fp1 := P4.fro 1
  have fp2 := P4.fro 2
  have fp3 := P4.fro 3
  have fq0 := Q4.fro 0
  have fq1 := Q4.fro 1
  have fq2 := Q4.fro 2
  have fq3 := Q4.fro 3
  have fq4 := Q4.fro 4
  have fq5 := Q4.fro 5
  have e1 : ¬ (G6 = w.heap.size + 1 + 1) := by omega
  have e2 : ¬ (G6 = w.heap.size + 1 + 1 + 1) := by omega
  have e3 : ¬ (G7 = w.heap.size + 1 + 1) := by omega
  have e4 : ¬ (G7 = w.heap.size + 1 + 1 + 1) := by omega
  have e1' : ¬ (w.heap.size + 1 + 1 = G6) := by omega
  have e2' : ¬ (w.heap.size + 1 + 1 + 1 = G6) := by omega
  have e3' : ¬ (w.heap.size + 1 + 1 = G7) := by omega
  have e4' : ¬ (w.heap.size + 1 + 1 + 1 = G7) := by omega
  clear lN lT
  obtain ⟨W5, hW5⟩ : ∃ x, x = ((((((((((w8.setCell ⟨w.heap.size + 1 + 1, 0, none⟩ (.slice x1 l1 d1)).setCell ⟨w.heap.size + 1 + 1, 1, none⟩ (.slice x2 l2 d2)).setCell ⟨w.heap.size + 1 + 1, 2, none⟩ (.slice x3 l3 d3)).setCell ⟨w.heap.size + 1 + 1, 3, none⟩ (.slice x4 l4 d4)).setCell ⟨w.heap.size + 1 + 1 + 1, 0, none⟩ (.int .i64 (2))).setCell ⟨w.heap.size + 1 + 1 + 1, 1, none⟩ (.int .i64 (0))).setCell ⟨w.heap.size + 1 + 1 + 1, 2, none⟩ (.int .i64 (0))).setCell ⟨w.heap.size + 1 + 1 + 1, 3, none⟩ (.int .i64 (0))).setCell ⟨w.heap.size + 1 + 1 + 1, 4, none⟩ (.slice r1 p1 t1)).setCell ⟨w.heap.size + 1 + 1 + 1, 5, none⟩ (.slice r2 p2 t2)) := ⟨_, rfl⟩
  have HW5 : Hid (W5 = _) := hW5
  have HF : Hid (OwnD W5 w.heap.size x1 x2 x3 x4 l1 l2 l3 l4 d1 d2 d3 d4 cs is hs rs ∧ OwnI W5 w.heap.size (.slice r1 p1 t1) [] ∧ OwnB W5 w.heap.size (.slice r2 p2 t2) (tB8 is k N) ∧ Below w.heap.size w W5) := by
    obtain ⟨o1, o2, o3, o4, o5, o6⟩ := HH.out
    have x6 : ∀ v0 v1 v2 v3 : Value, ExB ((((w8.setCell ⟨w.heap.size + 1 + 1, 0, none⟩ v0).setCell ⟨w.heap.size + 1 + 1, 1, none⟩ v1).setCell ⟨w.heap.size + 1 + 1, 2, none⟩ v2).setCell ⟨w.heap.size + 1 + 1, 3, none⟩ v3) (w.heap.size + 1 + 1 + 1) 37 := fun _ _ _ _ => ExB.set (ExB.set (ExB.set (ExB.set o6)))
    rw [hW5]
    exact ⟨(o1.set4 o5 (by decide) (by decide)).set6 (x6 _ _ _ _) (by decide) (by decide), rowp_set6 (row_set4 o2 o5 (by decide)) (x6 _ _ _ _) (by decide), rowp_set6 (row_set4 o3 o5 (by decide)) (x6 _ _ _ _) (by decide), belp_set6 (bel_set4 o4 (by omega)) (by omega)⟩
  have HPQ : Hid (Blk W5 (w.heap.size + 1 + 1) 27 #[.slice x1 l1 d1, .slice x2 l2 d2, .slice x3 l3 d3, .slice x4 l4 d4] ∧ Blk W5 (w.heap.size + 1 + 1 + 1) 37 #[.int .i64 2, .int .i64 0, .int .i64 0, .int .i64 0, .slice r1 p1 t1, .slice r2 p2 t2]) := by
    have a1' := (((P4.set 0 (.slice x1 l1 d1)).set 1 (.slice x2 l2 d2)).set 2 (.slice x3 l3 d3)).set 3 (.slice x4 l4 d4)
    have a2' := (((((a1'.setNe (g' := w.heap.size + 1 + 1 + 1) (j := 0) (y := .int .i64 (2)) (by omega)).setNe (g' := w.heap.size + 1 + 1 + 1) (j := 1) (y := .int .i64 (0)) (by omega)).setNe (g' := w.heap.size + 1 + 1 + 1) (j := 2) (y := .int .i64 (0)) (by omega)).setNe (g' := w.heap.size + 1 + 1 + 1) (j := 3) (y := .int .i64 (0)) (by omega)).setNe (g' := w.heap.size + 1 + 1 + 1) (j := 4) (y := .slice r1 p1 t1) (by omega)).setNe (g' := w.heap.size + 1 + 1 + 1) (j := 5) (y := .slice r2 p2 t2) (by omega)
    have c1' := (((Q4.setNe (g' := w.heap.size + 1 + 1) (j := 0) (y := .slice x1 l1 d1) (by omega)).setNe (g' := w.heap.size + 1 + 1) (j := 1) (y := .slice x2 l2 d2) (by omega)).setNe (g' := w.heap.size + 1 + 1) (j := 2) (y := .slice x3 l3 d3) (by omega)).setNe (g' := w.heap.size + 1 + 1) (j := 3) (y := .slice x4 l4 d4) (by omega)
    have c2' := (((((c1'.set 0 (.int .i64 (2))).set 1 (.int .i64 (0))).set 2 (.int .i64 (0))).set 3 (.int .i64 (0))).set 4 (.slice r1 p1 t1)).set 5 (.slice r2 p2 t2)
    rw [hW5]
    exact ⟨a2', c2'⟩
  clear hW5 S9
  go_region
  rw [← HW5.out]
  obtain ⟨u0, u1, u2, u3⟩ := HPQ.out.1.four
  obtain ⟨v0, v1, v2, v3, v4, v5⟩ := HPQ.out.2.six
  clear p0' p1' p2' p3' q0' q1' q2' q3' q4' q5' fp0 fp1 fp2 fp3 fq0 fq1 fq2 fq3 fq4 fq5 n0 n1 n2 n3 t0' t1' t2' t3' t4' t5'
  go_wp2
  refine bodyPost_ret (v := .tuple #[dv x1 x2 x3 x4 l1 l2 l3 l4 d1 d2 d3 d4, rp (2) (0) (0) (0) r1 r2 p1 p2 t1 t2]) (by simp [results, Try.results42, go_sem, u0, u1, u2, u3, v0, v1, v2, v3, v4, v5]) rfl ?_
  obtain ⟨o1, o2, o3, o4⟩ := HF.out
  exact ⟨_, _, _, _, _, _, _, _, _, _, _, _, _, _, _, _, _, _, rfl, o1.drew, o2.below (Below.refl _ _).drew, o3.below (Below.refl _ _).drew, HAp.out, o4.drew⟩
end Go.Proofs.Ytfdddkjonjpgpaa
namespace Go.Proofs.Ytfdddkjonjpgpaa
open Go.RowKit
set_option linter.unusedVariables false
set_option linter.unusedSimpArgs false
set_option maxRecDepth 20000 in
set_option maxHeartbeats 4000000 in
theorem specServe_3 (a1 a2 a3 a4 : Option Addr) (l1 l2 l3 l4 c1 c2 c3 c4 : Nat) (cs is : List Bool) (hs rs : List Int) (wa : Int) (q1 q2 : Option Addr) (m1 m2 k1 k2 : Nat) (ws : List Int) (bs : List Bool) (w : World) (hn : LnD l1 l2 l3 l4 cs is hs rs) (hs0 : SlD w a1 a2 a3 a4 cs is hs rs) (hsm : SmD 2000000 cs is hs rs) (hq : SlI w q1 ws) (hq2 : SlB w q2 bs) (h1 : m1 = ws.length) (h2 : m2 = bs.length) (hl : ws.length ≤ 2000000) (hl2 : bs.length ≤ 2000000) (k N : Nat) (hN : 1 ≤ N) (hpk : k + N ≤ l3) (hcap : l3 ≤ c3) (xs : List Int) (hxs : (hs.drop k).take N = xs) (hok : okR 3 (k : Int) (N : Int) wa ws m1 m2 = true) (hd : okD l1 l2 l3 l4 hs rs = true) (hal : svAll l1 l2 l3 l4 3 (k : Int) (N : Int) wa m1 m2 = true) :
    Calls Try.prog 42 #[dv a1 a2 a3 a4 l1 l2 l3 l4 c1 c2 c3 c4, .agg #[.int .i64 3, .int .i64 (k : Int), .int .i64 (N : Int), .slice q1 m1 k1, .slice q2 m2 k2, .int .i64 wa]] w fun e w' => SR w w' e cs is hs rs 3 0 0 0 xs [] := by
  obtain ⟨z, hz⟩ : ∃ z, z = (((w.alloc (.cells #[.slice a1 l1 c1, .slice a2 l2 c2, .slice a3 l3 c3, .slice a4 l4 c4] 27)).alloc (.cells #[.int .i64 3, .int .i64 (k : Int), .int .i64 (N : Int), .slice q1 m1 k1, .slice q2 m2 k2, .int .i64 wa] 57)).alloc (.cells #[.slice none 0 0, .slice none 0 0, .slice none 0 0, .slice none 0 0] 27)).alloc (.cells #[.int .i64 0, .int .i64 0, .int .i64 0, .int .i64 0, .slice none 0 0, .slice none 0 0] 37) := ⟨_, rfl⟩
  have HZ : Hid (z = _) := hz
  have b0 : Below w.heap.size w z := by rw [hz]; exact bel_next (bel_next (bel_next (bel_alloc w _) (bel_alloc _ _)) (bel_alloc _ _)) (bel_alloc _ _)
  have X0 : Blk z w.heap.size 27 #[.slice a1 l1 c1, .slice a2 l2 c2, .slice a3 l3 c3, .slice a4 l4 c4] := by rw [hz]; exact (((Blk.new w _ _).below (bel_alloc _ _)).below (bel_alloc _ _)).below (bel_alloc _ _)
  have Y0 : Blk z (w.heap.size + 1) 57 #[.int .i64 3, .int .i64 (k : Int), .int .i64 (N : Int), .slice q1 m1 k1, .slice q2 m2 k2, .int .i64 wa] := by rw [hz]; have := ((Blk.new (w.alloc (.cells #[.slice a1 l1 c1, .slice a2 l2 c2, .slice a3 l3 c3, .slice a4 l4 c4] 27)) #[.int .i64 3, .int .i64 (k : Int), .int .i64 (N : Int), .slice q1 m1 k1, .slice q2 m2 k2, .int .i64 wa] 57).below (bel_alloc _ (.cells #[.slice none 0 0, .slice none 0 0, .slice none 0 0, .slice none 0 0] 27))).below (bel_alloc _ (.cells #[.int .i64 0, .int .i64 0, .int .i64 0, .int .i64 0, .slice none 0 0, .slice none 0 0] 37)); simpa using this
  have P0 : Blk z (w.heap.size + 1 + 1) 27 #[.slice none 0 0, .slice none 0 0, .slice none 0 0, .slice none 0 0] := by rw [hz]; have := (Blk.new ((w.alloc (.cells #[.slice a1 l1 c1, .slice a2 l2 c2, .slice a3 l3 c3, .slice a4 l4 c4] 27)).alloc (.cells #[.int .i64 3, .int .i64 (k : Int), .int .i64 (N : Int), .slice q1 m1 k1, .slice q2 m2 k2, .int .i64 wa] 57)) #[.slice none 0 0, .slice none 0 0, .slice none 0 0, .slice none 0 0] 27).below (bel_alloc _ (.cells #[.int .i64 0, .int .i64 0, .int .i64 0, .int .i64 0, .slice none 0 0, .slice none 0 0] 37)); simpa using this
  have Q0 : Blk z (w.heap.size + 1 + 1 + 1) 37 #[.int .i64 0, .int .i64 0, .int .i64 0, .int .i64 0, .slice none 0 0, .slice none 0 0] := by rw [hz]; have := Blk.new (((w.alloc (.cells #[.slice a1 l1 c1, .slice a2 l2 c2, .slice a3 l3 c3, .slice a4 l4 c4] 27)).alloc (.cells #[.int .i64 3, .int .i64 (k : Int), .int .i64 (N : Int), .slice q1 m1 k1, .slice q2 m2 k2, .int .i64 wa] 57)).alloc (.cells #[.slice none 0 0, .slice none 0 0, .slice none 0 0, .slice none 0 0] 27)) #[.int .i64 0, .int .i64 0, .int .i64 0, .int .i64 0, .slice none 0 0, .slice none 0 0] 37; simpa using this
  have HN : Hid (LnD l1 l2 l3 l4 cs is hs rs ∧ SmD 2000000 cs is hs rs ∧ SlD w a1 a2 a3 a4 cs is hs rs ∧ SlI w q1 ws ∧ SlB w q2 bs) := ⟨hn, hsm, hs0, hq, hq2⟩
  have HQ : Hid (m1 = ws.length ∧ m2 = bs.length ∧ ws.length ≤ 2000000 ∧ bs.length ≤ 2000000) := ⟨h1, h2, hl, hl2⟩
  have HB0 : Hid (Below w.heap.size w z) := b0
  have HZS : Hid (z.heap.size = w.heap.size + 1 + 1 + 1 + 1) := by show _ = _; rw [hz]; simp
  obtain ⟨x0', x1', x2', x3'⟩ := X0.four
  clear hz hn hs0 hsm hq hq2 h1 h2 hl hl2
  go_enter Try.func42, Try.ntmps42
  go_upto_region 1 with fail
  rw [← HZ.out]
  go_wp2_with fail
  refine (l5Copy_any a1 a2 a3 a4 l1 l2 l3 l4 c1 c2 c3 c4 cs is hs rs _ HN.out.1 (HN.out.2.2.1.below b0) HN.out.2.1).mono ?_
  rintro e w1 ⟨x1, x2, x3, x4, d1, d2, d3, d4, rfl, o1, b'⟩
  have b1 := bel_next b0 b'
  have bz1 := b'
  have X1 := X0.below b'
  have Y1 := Y0.below b'
  have P1 := P0.below b'
  have Q1 := Q0.below b'
  have HG6 : Hid (z.heap.size ≤ w1.heap.size) := b'.size
  clear x0' x1' x2' x3' X0 Y0 P0 Q0 b0 b'
  have b' := bel_alloc w1 (.cells #[.slice x1 l1 d1, .slice x2 l2 d2, .slice x3 l3 d3, .slice x4 l4 d4] 27)
  have N' := Blk.new w1 #[.slice x1 l1 d1, .slice x2 l2 d2, .slice x3 l3 d3, .slice x4 l4 d4] 27
  obtain ⟨w2, hw2⟩ : ∃ x, x = w1.alloc (.cells #[.slice x1 l1 d1, .slice x2 l2 d2, .slice x3 l3 d3, .slice x4 l4 d4] 27) := ⟨_, rfl⟩
  rw [← hw2] at b' N'
  have HW2 : Hid (w2 = _) := hw2
  obtain ⟨G6, hBN⟩ : ∃ x, x = w1.heap.size := ⟨_, rfl⟩
  rw [← hBN] at N'
  have HBN : Hid (G6 = w1.heap.size) := hBN
  have S2 : ∀ G7 tc, G6 < G7 → Blk w2 G7 37 tc → True := fun _ _ _ _ => trivial
  have b2 := bel_next b1 b'
  have bz2 := bel_next bz1 b'
  have X2 := X1.below b'
  have Y2 := Y1.below b'
  have P2 := P1.below b'
  have Q2 := Q1.below b'
  have o2 := o1.below b'
  clear hw2 hBN b1 bz1 X1 Y1 P1 Q1 o1 b' S2
  obtain ⟨x0', x1', x2', x3'⟩ := X2.four
  go_upto_region 2 with fail
  rw [← HW2.out]
  simp only [← HBN.out]
  have HD : Hid (okD l1 l2 l3 l4 hs rs = true) := hd
  have HOK : Hid (okR 3 (k : Int) (N : Int) wa ws m1 m2 = true) := hok
  have HAL : Hid (svAll l1 l2 l3 l4 3 (k : Int) (N : Int) wa m1 m2 = true) := hal
  have HLM : Hid (l1 ≤ 2000000 ∧ l2 ≤ 2000000 ∧ l3 ≤ 2000000 ∧ l4 ≤ 2000000) := by have := okD_len hd; show _ ∧ _ ∧ _ ∧ _; omega
  clear hd hok hal
  go_wp2_with fail
  refine (specDeviceOk_any a1 a2 a3 a4 l1 l2 l3 l4 c1 c2 c3 c4 cs is hs rs _ HN.out.1 (HN.out.2.2.1.below b2) HN.out.2.1 true HD.out).mono ?_
  rintro e w3 ⟨rfl, b'⟩
  have b3 := bel_next b2 b'
  have bz3 := bel_next bz2 b'
  have X3 := X2.below b'
  have Y3 := Y2.below b'
  have P3 := P2.below b'
  have Q3 := Q2.below b'
  have N3 := N'.below b'
  have o3 := o2.below b'
  clear x0' x1' x2' x3' X2 Y2 P2 Q2 N' o2 b2 bz2 b'
  obtain ⟨x0', x1', x2', x3'⟩ := X3.four
  obtain ⟨y0', y1', y2', y3', y4', y5'⟩ := Y3.six
  go_wp2_with fail
  refine (specReqOk_q 3 (k : Int) (N : Int) wa q1 q2 m1 m2 k1 k2 ws bs _ HQ.out.1 HQ.out.2.1 (HN.out.2.2.2.1.below b3) (HN.out.2.2.2.2.below b3) HQ.out.2.2.1 HQ.out.2.2.2).mono ?_
  rintro e w4 ⟨he, b'⟩
  rw [HOK.out] at he
  subst he
  have b4 := bel_next b3 b'
  have bz4 := bel_next bz3 b'
  have X4 := X3.below b'
  have Y4 := Y3.below b'
  have P4 := P3.below b'
  have Q4 := Q3.below b'
  have N4 := N3.below b'
  have o4 := o3.below b'
  clear x0' x1' x2' x3' y0' y1' y2' y3' y4' y5' X3 Y3 P3 Q3 N3 o3 b3 bz3 b'
  obtain ⟨x0', x1', x2', x3'⟩ := X4.four
  obtain ⟨y0', y1', y2', y3', y4', y5'⟩ := Y4.six
  go_wp2_with fail
  refine (l5There_any a1 a2 a3 a4 l1 l2 l3 l4 c1 c2 c3 c4 3 (k : Int) (N : Int) wa q1 q2 m1 m2 k1 k2 ws bs _ HQ.out.1 HQ.out.2.1 (HN.out.2.2.2.1.below b4) (HN.out.2.2.2.2.below b4) HQ.out.2.2.1 HQ.out.2.2.2 HOK.out HLM.out.1 HLM.out.2.1 HLM.out.2.2.1 HLM.out.2.2.2 true HAL.out).mono ?_
  rintro e w5 ⟨rfl, b'⟩
  have b5 := bel_next b4 b'
  have bz5 := bel_next bz4 b'
  have X5 := X4.below b'
  have Y5 := Y4.below b'
  have P5 := P4.below b'
  have Q5 := Q4.below b'
  have N5 := N4.below b'
  have o5 := o4.below b'
  clear x0' x1' x2' x3' y0' y1' y2' y3' y4' y5' X4 Y4 P4 Q4 N4 o4 b4 bz4 b'
  obtain ⟨y0', y1', y2', y3', y4', y5'⟩ := Y5.six
  have b' := bel_alloc w5 (.cells #[.int .i64 3, .int .i64 0, .int .i64 0, .int .i64 0, .slice none 0 0, .slice none 0 0] 37)
  have T' := Blk.new w5 #[.int .i64 3, .int .i64 0, .int .i64 0, .int .i64 0, .slice none 0 0, .slice none 0 0] 37
  obtain ⟨w6, hw6⟩ : ∃ x, x = w5.alloc (.cells #[.int .i64 3, .int .i64 0, .int .i64 0, .int .i64 0, .slice none 0 0, .slice none 0 0] 37) := ⟨_, rfl⟩
  rw [← hw6] at b' T'
  have HW6 : Hid (w6 = _) := hw6
  obtain ⟨G7, hG7⟩ : ∃ x, x = w5.heap.size := ⟨_, rfl⟩
  rw [← hG7] at T'
  have HG7 : Hid (G7 = w5.heap.size) := hG7
  have S6 : SS w #[.slice a1 l1 c1, .slice a2 l2 c2, .slice a3 l3 c3, .slice a4 l4 c4] #[.int .i64 3, .int .i64 (k : Int), .int .i64 (N : Int), .slice q1 m1 k1, .slice q2 m2 k2, .int .i64 wa] z G6 G7 x1 x2 x3 x4 l1 l2 l3 l4 d1 d2 d3 d4 is rs cs hs #[.int .i64 3, .int .i64 0, .int .i64 0, .int .i64 0, .slice none 0 0, .slice none 0 0] w6 := ⟨X5.below b', Y5.below b', P5.below b', Q5.below b', N5.below b', T', o5.below b', bel_next b5 b', bel_next bz5 b', HZS.out, by have := HG6.out; have := HBN.out; omega, by rw [hG7]; exact N5.lt⟩
  clear X5 Y5 P5 Q5 N5 o5 b5 bz5 b' T' hw6 hG7
  go_upto_region 7 with fail
  clear y0' y1' y2' y3' y4' y5'
  rw [← HW6.out]
  simp only [← HG7.out]
  clear HW6 HG7 HW2 HBN HZ
  have HK : Hid (l3 = hs.length ∧ l3 ≤ c3 ∧ k + N ≤ l3 ∧ 1 ≤ N) := ⟨HN.out.1.2.2.1, hcap, hpk, hN⟩
  clear hcap hpk hN
  obtain ⟨bA', oA', eA', hbA', _⟩ := cell_atI HN.out.2.2.1.2.2.1 (k := 0) (by have := HK.out; omega)
  have HXS : Hid (SlI w (some ⟨bA', oA' + k, none⟩) ((hs.drop k).take N) ∧ N = ((hs.drop k).take N).length) := by
    refine ⟨slI_subG (by rw [← eA']; exact HN.out.2.2.1.2.2.1) (by have := HK.out; omega), ?_⟩
    have := HK.out; simp; omega
  have HXL : Hid (((hs.drop k).take N).length ≤ 2000000) := hide (by have := HXS.out.2; have := HK.out; have := HLM.out; omega)
  subst eA'
  rw [hxs] at HXS HXL
  clear hxs
  obtain ⟨x0', x1', x2', x3'⟩ := S6.X.four
  obtain ⟨y0', y1', y2', y3', y4', y5'⟩ := S6.Y.six
  obtain ⟨n0', n1', n2', n3'⟩ := S6.N.four
  obtain ⟨t0', t1', t2', t3', t4', t5'⟩ := S6.T.six
  have ft0 := S6.T.fro 0
  have ft1 := S6.T.fro 1
  have ft2 := S6.T.fro 2
  have ft3 := S6.T.fro 3
  have ft4 := S6.T.fro 4
  have ft5 := S6.T.fro 5
  go_upto_region 13 with fail
  clear x0' x1' x2' x3' y0' y1' y2' y3' y4' y5' n0' n1' n2' n3' t0' t1' t2' t3' t4' t5' ft0 ft1 ft2 ft3 ft4 ft5
  have i0 : (k : Int) ≤ (k : Int) + (N : Int) := by have := HK.out; omega
  have i1 : (k : Int) + (N : Int) ≤ (l3 : Int) := by have := HK.out; omega
  have i2 : (k : Int) + (N : Int) ≤ (c3 : Int) := by have := HK.out; omega
  have i3 : (0 : Int) ≤ (k : Int) := by omega
  have i4 : (0 : Int) ≤ (k : Int) + (N : Int) := by omega
  have i5 : IntKind.i64.wrap ((k : Int) + (N : Int)) = (k : Int) + (N : Int) := by have := HK.out; have := HLM.out; rw [IntKind.wrap_i64]; omega
  have i6 : (k : Int) ≤ (c3 : Int) := by have := HK.out; omega
  have i7 : ¬ c3 = k := by have := HK.out; omega
  have i8 : ((k : Int) + (N : Int)).toNat - k = N := by omega
  have oL : OwnI (w6.alloc (.cells #[] 3)) w6.heap.size (.slice (some ⟨w6.heap.size, 0, none⟩) 0 0) [] := ⟨rfl, .inr ⟨w6.heap.size, 0, #[], rfl, Nat.le_refl _, Blk.new w6 #[] 3, by simp, by simp, rfl, rfl⟩⟩
  have SL := S6.below (bel_alloc w6 (.cells #[] 3))
  obtain ⟨x0', x1', x2', x3'⟩ := SL.X.four
  obtain ⟨y0', y1', y2', y3', y4', y5'⟩ := SL.Y.six
  obtain ⟨n0', n1', n2', n3'⟩ := SL.N.four
  obtain ⟨t0', t1', t2', t3', t4', t5'⟩ := SL.T.six
  have ft0 := SL.T.fro 0
  have ft1 := SL.T.fro 1
  have ft2 := SL.T.fro 2
  have ft3 := SL.T.fro 3
  have ft4 := SL.T.fro 4
  have ft5 := SL.T.fro 5
  go_upto_region 41 with (at_builtin; obtain ⟨vA, uA, hr, oA, bA, _, r1, t1, hv⟩ := app0I (w6.alloc (.cells #[] 3)) w6.heap.size w6.heap.size (some ⟨bA', oA' + k, none⟩) N (c3 - k) xs HXS.out.2 (HXS.out.1.below (bel_next S6.bel (bel_alloc _ _))) HXL.out (Nat.le_refl _) oL; refine Lib.wpList_append_run _ rfl (.tmp 56) (.tmp 66) _ _ rfl _ _ rfl rfl _ _ hr ?_; subst hv; have SA := SL.below bA; have HAp : Hid (∀ g, (Of4 (.slice x1 l1 d1) (.slice x2 l2 d2) (.slice x3 l3 d3) (.slice x4 l4 d4)) g → ¬ Of2 (.slice r1 N t1) (.slice none 0 0) g) := S6.apart oA (ownB_nil0 _ _); have HOA : Hid (OwnI (uA.setCell ⟨G7, 4, none⟩ (.slice r1 N t1)) w.heap.size (.slice r1 N t1) xs) := row_setE (oA.mono S6.bel.size) ⟨_, SA.T⟩ (by decide); have SB := SA.setT 4 (.slice r1 N t1); obtain ⟨s0', s1', s2', s3', s4', s5'⟩ := SA.T.six; have fs := SA.T.fro 4; clear hr oA bA oL)
  obtain ⟨w8, hw8⟩ : ∃ x, x = uA.setCell ⟨G7, 4, none⟩ (.slice r1 N t1) := ⟨_, rfl⟩
  rw [← hw8] at SB HOA ⊢
  have S9 : SS w #[.slice a1 l1 c1, .slice a2 l2 c2, .slice (some ⟨bA', oA', none⟩) l3 c3, .slice a4 l4 c4] #[.int .i64 3, .int .i64 (k : Int), .int .i64 (N : Int), .slice q1 m1 k1, .slice q2 m2 k2, .int .i64 wa] z G6 G7 x1 x2 x3 x4 l1 l2 l3 l4 d1 d2 d3 d4 is rs cs hs #[.int .i64 3, .int .i64 0, .int .i64 0, .int .i64 0, .slice r1 N t1, .slice none 0 0] w8 := SB
  clear hw8 SB SA SL S6 s0' s1' s2' s3' s4' s5' fs
  clear x0' x1' x2' x3' y0' y1' y2' y3' y4' y5' n0' n1' n2' n3' t0' t1' t2' t3' t4' t5' ft0 ft1 ft2 ft3 ft4 ft5
  have OI := HOA
  obtain ⟨r2, p2, t2, hr2⟩ : ∃ (r2 : Option Addr) (p2 t2 : Nat), Value.slice r2 p2 t2 = .slice none 0 0 := ⟨none, 0, 0, rfl⟩
  rw [← hr2] at S9 HAp
  have OB : Hid (OwnB w8 w.heap.size (.slice r2 p2 t2) []) := by rw [hr2]; exact ownB_nil0 _ _
  clear hr2
  obtain ⟨p1, hp1⟩ : ∃ p1, p1 = N := ⟨_, rfl⟩
  have S10 : SS w #[.slice a1 l1 c1, .slice a2 l2 c2, .slice (some ⟨bA', oA', none⟩) l3 c3, .slice a4 l4 c4] #[.int .i64 3, .int .i64 (k : Int), .int .i64 (N : Int), .slice q1 m1 k1, .slice q2 m2 k2, .int .i64 wa] z G6 G7 x1 x2 x3 x4 l1 l2 l3 l4 d1 d2 d3 d4 is rs cs hs #[.int .i64 3, .int .i64 0, .int .i64 0, .int .i64 0, .slice r1 p1 t1, .slice r2 p2 t2] w8 := by rw [hp1]; exact S9
  rw [← hp1] at HAp OI
  clear S9 i0 i1 i2 i3 i4 i5 i6 i7 i8 HXS HXL HK HOA hp1
  have N4 := S10.N
  have T' := S10.T
  have P4 := S10.P
  have Q4 := S10.Q
  have HH : Hid (OwnD w8 w.heap.size x1 x2 x3 x4 l1 l2 l3 l4 d1 d2 d3 d4 cs is hs rs ∧ OwnI w8 w.heap.size (.slice r1 p1 t1) xs ∧ OwnB w8 w.heap.size (.slice r2 p2 t2) [] ∧ Below w.heap.size w w8 ∧ ExB w8 (w.heap.size + 1 + 1) 27 ∧ ExB w8 (w.heap.size + 1 + 1 + 1) 37) := ⟨S10.D.mono (by have := S10.zb0; omega), OI.out, OB.out, S10.bel, ⟨_, P4⟩, ⟨_, Q4⟩⟩
  have lN : w.heap.size + 1 + 1 + 1 + 1 ≤ G6 := by have := S10.zb0; have := S10.g6; omega
  have lT : w.heap.size + 1 + 1 + 1 + 1 ≤ G7 := by have := S10.g7; omega
  obtain ⟨n0, n1, n2, n3⟩ := N4.four
  obtain ⟨t0', t1', t2', t3', t4', t5'⟩ := T'.six
  obtain ⟨p0', p1', p2', p3'⟩ := P4.four
  obtain ⟨q0', q1', q2', q3', q4', q5'⟩ := Q4.six
  have fp0 := P4.fro 0
  have fp1 := P4.fro 1
  have fp2 := P4.fro 2
  have fp3 := P4.fro 3
  have fq0 := Q4.fro 0
  have fq1 := Q4.fro 1
  have fq2 := Q4.fro 2
  have fq3 := Q4.fro 3
  have fq4 := Q4.fro 4
  have fq5 := Q4.fro 5
  have e1 : ¬ (G6 = w.heap.size + 1 + 1) := by omega
  have e2 : ¬ (G6 = w.heap.size + 1 + 1 + 1) := by omega
  have e3 : ¬ (G7 = w.heap.size + 1 + 1) := by omega
  have e4 : ¬ (G7 = w.heap.size + 1 + 1 + 1) := by omega
  have e1' : ¬ (w.heap.size + 1 + 1 = G6) := by omega
  have e2' : ¬ (w.heap.size + 1 + 1 + 1 = G6) := by omega
  have e3' : ¬ (w.heap.size + 1 + 1 = G7) := by omega
  have e4' : ¬ (w.heap.size + 1 + 1 + 1 = G7) := by omega
  clear lN lT
  obtain ⟨W5, hW5⟩ : ∃ x, x = ((((((((((w8.setCell ⟨w.heap.size + 1 + 1, 0, none⟩ (.slice x1 l1 d1)).setCell ⟨w.heap.size + 1 + 1, 1, none⟩ (.slice x2 l2 d2)).setCell ⟨w.heap.size + 1 + 1, 2, none⟩ (.slice x3 l3 d3)).setCell ⟨w.heap.size + 1 + 1, 3, none⟩ (.slice x4 l4 d4)).setCell ⟨w.heap.size + 1 + 1 + 1, 0, none⟩ (.int .i64 (3))).setCell ⟨w.heap.size + 1 + 1 + 1, 1, none⟩ (.int .i64 (0))).setCell ⟨w.heap.size + 1 + 1 + 1, 2, none⟩ (.int .i64 (0))).setCell ⟨w.heap.size + 1 + 1 + 1, 3, none⟩ (.int .i64 (0))).setCell ⟨w.heap.size + 1 + 1 + 1, 4, none⟩ (.slice r1 p1 t1)).setCell ⟨w.heap.size + 1 + 1 + 1, 5, none⟩ (.slice r2 p2 t2)) := ⟨_, rfl⟩
  have HW5 : Hid (W5 = _) := hW5
  have HF : Hid (OwnD W5 w.heap.size x1 x2 x3 x4 l1 l2 l3 l4 d1 d2 d3 d4 cs is hs rs ∧ OwnI W5 w.heap.size (.slice r1 p1 t1) xs ∧ OwnB W5 w.heap.size (.slice r2 p2 t2) [] ∧ Below w.heap.size w W5) := by
    obtain ⟨o1, o2, o3, o4, o5, o6⟩ := HH.out
    have x6 : ∀ v0 v1 v2 v3 : Value, ExB ((((w8.setCell ⟨w.heap.size + 1 + 1, 0, none⟩ v0).setCell ⟨w.heap.size + 1 + 1, 1, none⟩ v1).setCell ⟨w.heap.size + 1 + 1, 2, none⟩ v2).setCell ⟨w.heap.size + 1 + 1, 3, none⟩ v3) (w.heap.size + 1 + 1 + 1) 37 := fun _ _ _ _ => ExB.set (ExB.set (ExB.set (ExB.set o6)))
    rw [hW5]
    exact ⟨(o1.set4 o5 (by decide) (by decide)).set6 (x6 _ _ _ _) (by decide) (by decide), rowp_set6 (row_set4 o2 o5 (by decide)) (x6 _ _ _ _) (by decide), rowp_set6 (row_set4 o3 o5 (by decide)) (x6 _ _ _ _) (by decide), belp_set6 (bel_set4 o4 (by omega)) (by omega)⟩
  have HPQ : Hid (Blk W5 (w.heap.size + 1 + 1) 27 #[.slice x1 l1 d1, .slice x2 l2 d2, .slice x3 l3 d3, .slice x4 l4 d4] ∧ Blk W5 (w.heap.size + 1 + 1 + 1) 37 #[.int .i64 3, .int .i64 0, .int .i64 0, .int .i64 0, .slice r1 p1 t1, .slice r2 p2 t2]) := by
    have a1' := (((P4.set 0 (.slice x1 l1 d1)).set 1 (.slice x2 l2 d2)).set 2 (.slice x3 l3 d3)).set 3 (.slice x4 l4 d4)
    have a2' := (((((a1'.setNe (g' := w.heap.size + 1 + 1 + 1) (j := 0) (y := .int .i64 (3)) (by omega)).setNe (g' := w.heap.size + 1 + 1 + 1) (j := 1) (y := .int .i64 (0)) (by omega)).setNe (g' := w.heap.size + 1 + 1 + 1) (j := 2) (y := .int .i64 (0)) (by omega)).setNe (g' := w.heap.size + 1 + 1 + 1) (j := 3) (y := .int .i64 (0)) (by omega)).setNe (g' := w.heap.size + 1 + 1 + 1) (j := 4) (y := .slice r1 p1 t1) (by omega)).setNe (g' := w.heap.size + 1 + 1 + 1) (j := 5) (y := .slice r2 p2 t2) (by omega)
    have c1' := (((Q4.setNe (g' := w.heap.size + 1 + 1) (j := 0) (y := .slice x1 l1 d1) (by omega)).setNe (g' := w.heap.size + 1 + 1) (j := 1) (y := .slice x2 l2 d2) (by omega)).setNe (g' := w.heap.size + 1 + 1) (j := 2) (y := .slice x3 l3 d3) (by omega)).setNe (g' := w.heap.size + 1 + 1) (j := 3) (y := .slice x4 l4 d4) (by omega)
    have c2' := (((((c1'.set 0 (.int .i64 (3))).set 1 (.int .i64 (0))).set 2 (.int .i64 (0))).set 3 (.int .i64 (0))).set 4 (.slice r1 p1 t1)).set 5 (.slice r2 p2 t2)
    rw [hW5]
    exact ⟨a2', c2'⟩
  clear hW5 S10
  go_region
  rw [← HW5.out]
  obtain ⟨u0, u1, u2, u3⟩ := HPQ.out.1.four
  obtain ⟨v0, v1, v2, v3, v4, v5⟩ := HPQ.out.2.six
  clear p0' p1' p2' p3' q0' q1' q2' q3' q4' q5' fp0 fp1 fp2 fp3 fq0 fq1 fq2 fq3 fq4 fq5 n0 n1 n2 n3 t0' t1' t2' t3' t4' t5'
  go_wp2
  refine bodyPost_ret (v := .tuple #[dv x1 x2 x3 x4 l1 l2 l3 l4 d1 d2 d3 d4, rp (3) (0) (0) (0) r1 r2 p1 p2 t1 t2]) (by simp [results, Try.results42, go_sem, u0, u1, u2, u3, v0, v1, v2, v3, v4, v5]) rfl ?_
  obtain ⟨o1, o2, o3, o4⟩ := HF.out
  exact ⟨_, _, _, _, _, _, _, _, _, _, _, _, _, _, _, _, _, _, rfl, o1.drew, o2.below (Below.refl _ _).drew, o3.below (Below.refl _ _).drew, HAp.out, o4.drew⟩
set_option maxRecDepth 20000 in
set_option maxHeartbeats 4000000 in
theorem specServe_4 (a1 a2 a3 a4 : Option Addr) (l1 l2 l3 l4 c1 c2 c3 c4 : Nat) (cs is : List Bool) (hs rs : List Int) (wa : Int) (q1 q2 : Option Addr) (m1 m2 k1 k2 : Nat) (ws : List Int) (bs : List Bool) (w : World) (hn : LnD l1 l2 l3 l4 cs is hs rs) (hs0 : SlD w a1 a2 a3 a4 cs is hs rs) (hsm : SmD 2000000 cs is hs rs) (hq : SlI w q1 ws) (hq2 : SlB w q2 bs) (h1 : m1 = ws.length) (h2 : m2 = bs.length) (hl : ws.length ≤ 2000000) (hl2 : bs.length ≤ 2000000) (k N : Nat) (hN : 1 ≤ N) (hpk : k + N ≤ l4) (hcap : l4 ≤ c4) (xs : List Int) (hxs : (rs.drop k).take N = xs) (hok : okR 4 (k : Int) (N : Int) wa ws m1 m2 = true) (hd : okD l1 l2 l3 l4 hs rs = true) (hal : svAll l1 l2 l3 l4 4 (k : Int) (N : Int) wa m1 m2 = true) :
    Calls Try.prog 42 #[dv a1 a2 a3 a4 l1 l2 l3 l4 c1 c2 c3 c4, .agg #[.int .i64 4, .int .i64 (k : Int), .int .i64 (N : Int), .slice q1 m1 k1, .slice q2 m2 k2, .int .i64 wa]] w fun e w' => SR w w' e cs is hs rs 4 0 0 0 xs [] := by
  obtain ⟨z, hz⟩ : ∃ z, z = (((w.alloc (.cells #[.slice a1 l1 c1, .slice a2 l2 c2, .slice a3 l3 c3, .slice a4 l4 c4] 27)).alloc (.cells #[.int .i64 4, .int .i64 (k : Int), .int .i64 (N : Int), .slice q1 m1 k1, .slice q2 m2 k2, .int .i64 wa] 57)).alloc (.cells #[.slice none 0 0, .slice none 0 0, .slice none 0 0, .slice none 0 0] 27)).alloc (.cells #[.int .i64 0, .int .i64 0, .int .i64 0, .int .i64 0, .slice none 0 0, .slice none 0 0] 37) := ⟨_, rfl⟩
  have HZ : Hid (z = _) := hz
  have b0 : Below w.heap.size w z := by rw [hz]; exact bel_next (bel_next (bel_next (bel_alloc w _) (bel_alloc _ _)) (bel_alloc _ _)) (bel_alloc _ _)
  have X0 : Blk z w.heap.size 27 #[.slice a1 l1 c1, .slice a2 l2 c2, .slice a3 l3 c3, .slice a4 l4 c4] := by rw [hz]; exact (((Blk.new w _ _).below (bel_alloc _ _)).below (bel_alloc _ _)).below (bel_alloc _ _)
  have Y0 : Blk z (w.heap.size + 1) 57 #[.int .i64 4, .int .i64 (k : Int), .int .i64 (N : Int), .slice q1 m1 k1, .slice q2 m2 k2, .int .i64 wa] := by rw [hz]; have := ((Blk.new (w.alloc (.cells #[.slice a1 l1 c1, .slice a2 l2 c2, .slice a3 l3 c3, .slice a4 l4 c4] 27)) #[.int .i64 4, .int .i64 (k : Int), .int .i64 (N : Int), .slice q1 m1 k1, .slice q2 m2 k2, .int .i64 wa] 57).below (bel_alloc _ (.cells #[.slice none 0 0, .slice none 0 0, .slice none 0 0, .slice none 0 0] 27))).below (bel_alloc _ (.cells #[.int .i64 0, .int .i64 0, .int .i64 0, .int .i64 0, .slice none 0 0, .slice none 0 0] 37)); simpa using this
  have P0 : Blk z (w.heap.size + 1 + 1) 27 #[.slice none 0 0, .slice none 0 0, .slice none 0 0, .slice none 0 0] := by rw [hz]; have := (Blk.new ((w.alloc (.cells #[.slice a1 l1 c1, .slice a2 l2 c2, .slice a3 l3 c3, .slice a4 l4 c4] 27)).alloc (.cells #[.int .i64 4, .int .i64 (k : Int), .int .i64 (N : Int), .slice q1 m1 k1, .slice q2 m2 k2, .int .i64 wa] 57)) #[.slice none 0 0, .slice none 0 0, .slice none 0 0, .slice none 0 0] 27).below (bel_alloc _ (.cells #[.int .i64 0, .int .i64 0, .int .i64 0, .int .i64 0, .slice none 0 0, .slice none 0 0] 37)); simpa using this
  have Q0 : Blk z (w.heap.size + 1 + 1 + 1) 37 #[.int .i64 0, .int .i64 0, .int .i64 0, .int .i64 0, .slice none 0 0, .slice none 0 0] := by rw [hz]; have := Blk.new (((w.alloc (.cells #[.slice a1 l1 c1, .slice a2 l2 c2, .slice a3 l3 c3, .slice a4 l4 c4] 27)).alloc (.cells #[.int .i64 4, .int .i64 (k : Int), .int .i64 (N : Int), .slice q1 m1 k1, .slice q2 m2 k2, .int .i64 wa] 57)).alloc (.cells #[.slice none 0 0, .slice none 0 0, .slice none 0 0, .slice none 0 0] 27)) #[.int .i64 0, .int .i64 0, .int .i64 0, .int .i64 0, .slice none 0 0, .slice none 0 0] 37; simpa using this
  have HN : Hid (LnD l1 l2 l3 l4 cs is hs rs ∧ SmD 2000000 cs is hs rs ∧ SlD w a1 a2 a3 a4 cs is hs rs ∧ SlI w q1 ws ∧ SlB w q2 bs) := ⟨hn, hsm, hs0, hq, hq2⟩
  have HQ : Hid (m1 = ws.length ∧ m2 = bs.length ∧ ws.length ≤ 2000000 ∧ bs.length ≤ 2000000) := ⟨h1, h2, hl, hl2⟩
  have HB0 : Hid (Below w.heap.size w z) := b0
  have HZS : Hid (z.heap.size = w.heap.size + 1 + 1 + 1 + 1) := by show _ = _; rw [hz]; simp
  obtain ⟨x0', x1', x2', x3'⟩ := X0.four
  clear hz hn hs0 hsm hq hq2 h1 h2 hl hl2
  go_enter Try.func42, Try.ntmps42
  go_upto_region 1 with fail
  rw [← HZ.out]
  go_wp2_with fail
  refine (l5Copy_any a1 a2 a3 a4 l1 l2 l3 l4 c1 c2 c3 c4 cs is hs rs _ HN.out.1 (HN.out.2.2.1.below b0) HN.out.2.1).mono ?_
  rintro e w1 ⟨x1, x2, x3, x4, d1, d2, d3, d4, rfl, o1, b'⟩
  have b1 := bel_next b0 b'
  have bz1 := b'
  have X1 := X0.below b'
  have Y1 := Y0.below b'
  have P1 := P0.below b'
  have Q1 := Q0.below b'
  have HG6 : Hid (z.heap.size ≤ w1.heap.size) := b'.size
  clear x0' x1' x2' x3' X0 Y0 P0 Q0 b0 b'
  have b' := bel_alloc w1 (.cells #[.slice x1 l1 d1, .slice x2 l2 d2, .slice x3 l3 d3, .slice x4 l4 d4] 27)
  have N' := Blk.new w1 #[.slice x1 l1 d1, .slice x2 l2 d2, .slice x3 l3 d3, .slice x4 l4 d4] 27
  obtain ⟨w2, hw2⟩ : ∃ x, x = w1.alloc (.cells #[.slice x1 l1 d1, .slice x2 l2 d2, .slice x3 l3 d3, .slice x4 l4 d4] 27) := ⟨_, rfl⟩
  rw [← hw2] at b' N'
  have HW2 : Hid (w2 = _) := hw2
  obtain ⟨G6, hBN⟩ : ∃ x, x = w1.heap.size := ⟨_, rfl⟩
  rw [← hBN] at N'
  have HBN : Hid (G6 = w1.heap.size) := hBN
  have S2 : ∀ G7 tc, G6 < G7 → Blk w2 G7 37 tc → True := fun _ _ _ _ => trivial
  have b2 := bel_next b1 b'
  have bz2 := bel_next bz1 b'
  have X2 := X1.below b'
  have Y2 := Y1.below b'
  have P2 := P1.below b'
  have Q2 := Q1.below b'
  have o2 := o1.below b'
  clear hw2 hBN b1 bz1 X1 Y1 P1 Q1 o1 b' S2
  obtain ⟨x0', x1', x2', x3'⟩ := X2.four
  go_upto_region 2 with fail
  rw [← HW2.out]
  simp only [← HBN.out]
  have HD : Hid (okD l1 l2 l3 l4 hs rs = true) := hd
  have HOK : Hid (okR 4 (k : Int) (N : Int) wa ws m1 m2 = true) := hok
  have HAL : Hid (svAll l1 l2 l3 l4 4 (k : Int) (N : Int) wa m1 m2 = true) := hal
  have HLM : Hid (l1 ≤ 2000000 ∧ l2 ≤ 2000000 ∧ l3 ≤ 2000000 ∧ l4 ≤ 2000000) := by have := okD_len hd; show _ ∧ _ ∧ _ ∧ _; omega
  clear hd hok hal
  go_wp2_with fail
  refine (specDeviceOk_any a1 a2 a3 a4 l1 l2 l3 l4 c1 c2 c3 c4 cs is hs rs _ HN.out.1 (HN.out.2.2.1.below b2) HN.out.2.1 true HD.out).mono ?_
  rintro e w3 ⟨rfl, b'⟩
  have b3 := bel_next b2 b'
  have bz3 := bel_next bz2 b'
  have X3 := X2.below b'
  have Y3 := Y2.below b'
  have P3 := P2.below b'
  have Q3 := Q2.below b'
  have N3 := N'.below b'
  have o3 := o2.below b'
  clear x0' x1' x2' x3' X2 Y2 P2 Q2 N' o2 b2 bz2 b'
  obtain ⟨x0', x1', x2', x3'⟩ := X3.four
  obtain ⟨y0', y1', y2', y3', y4', y5'⟩ := Y3.six
  go_wp2_with fail
  refine (specReqOk_q 4 (k : Int) (N : Int) wa q1 q2 m1 m2 k1 k2 ws bs _ HQ.out.1 HQ.out.2.1 (HN.out.2.2.2.1.below b3) (HN.out.2.2.2.2.below b3) HQ.out.2.2.1 HQ.out.2.2.2).mono ?_
  rintro e w4 ⟨he, b'⟩
  rw [HOK.out] at he
  subst he
  have b4 := bel_next b3 b'
  have bz4 := bel_next bz3 b'
  have X4 := X3.below b'
  have Y4 := Y3.below b'
  have P4 := P3.below b'
  have Q4 := Q3.below b'
  have N4 := N3.below b'
  have o4 := o3.below b'
  clear x0' x1' x2' x3' y0' y1' y2' y3' y4' y5' X3 Y3 P3 Q3 N3 o3 b3 bz3 b'
  obtain ⟨x0', x1', x2', x3'⟩ := X4.four
  obtain ⟨y0', y1', y2', y3', y4', y5'⟩ := Y4.six
  go_wp2_with fail
  refine (l5There_any a1 a2 a3 a4 l1 l2 l3 l4 c1 c2 c3 c4 4 (k : Int) (N : Int) wa q1 q2 m1 m2 k1 k2 ws bs _ HQ.out.1 HQ.out.2.1 (HN.out.2.2.2.1.below b4) (HN.out.2.2.2.2.below b4) HQ.out.2.2.1 HQ.out.2.2.2 HOK.out HLM.out.1 HLM.out.2.1 HLM.out.2.2.1 HLM.out.2.2.2 true HAL.out).mono ?_
  rintro e w5 ⟨rfl, b'⟩
  have b5 := bel_next b4 b'
  have bz5 := bel_next bz4 b'
  have X5 := X4.below b'
  have Y5 := Y4.below b'
  have P5 := P4.below b'
  have Q5 := Q4.below b'
  have N5 := N4.below b'
  have o5 := o4.below b'
  clear x0' x1' x2' x3' y0' y1' y2' y3' y4' y5' X4 Y4 P4 Q4 N4 o4 b4 bz4 b'
  obtain ⟨y0', y1', y2', y3', y4', y5'⟩ := Y5.six
  have b' := bel_alloc w5 (.cells #[.int .i64 4, .int .i64 0, .int .i64 0, .int .i64 0, .slice none 0 0, .slice none 0 0] 37)
  have T' := Blk.new w5 #[.int .i64 4, .int .i64 0, .int .i64 0, .int .i64 0, .slice none 0 0, .slice none 0 0] 37
  obtain ⟨w6, hw6⟩ : ∃ x, x = w5.alloc (.cells #[.int .i64 4, .int .i64 0, .int .i64 0, .int .i64 0, .slice none 0 0, .slice none 0 0] 37) := ⟨_, rfl⟩
  rw [← hw6] at b' T'
  have HW6 : Hid (w6 = _) := hw6
  obtain ⟨G7, hG7⟩ : ∃ x, x = w5.heap.size := ⟨_, rfl⟩
  rw [← hG7] at T'
  have HG7 : Hid (G7 = w5.heap.size) := hG7
  have S6 : SS w #[.slice a1 l1 c1, .slice a2 l2 c2, .slice a3 l3 c3, .slice a4 l4 c4] #[.int .i64 4, .int .i64 (k : Int), .int .i64 (N : Int), .slice q1 m1 k1, .slice q2 m2 k2, .int .i64 wa] z G6 G7 x1 x2 x3 x4 l1 l2 l3 l4 d1 d2 d3 d4 is rs cs hs #[.int .i64 4, .int .i64 0, .int .i64 0, .int .i64 0, .slice none 0 0, .slice none 0 0] w6 := ⟨X5.below b', Y5.below b', P5.below b', Q5.below b', N5.below b', T', o5.below b', bel_next b5 b', bel_next bz5 b', HZS.out, by have := HG6.out; have := HBN.out; omega, by rw [hG7]; exact N5.lt⟩
  clear X5 Y5 P5 Q5 N5 o5 b5 bz5 b' T' hw6 hG7
  go_upto_region 7 with fail
  clear y0' y1' y2' y3' y4' y5'
  rw [← HW6.out]
  simp only [← HG7.out]
  clear HW6 HG7 HW2 HBN HZ
  have HK : Hid (l4 = rs.length ∧ l4 ≤ c4 ∧ k + N ≤ l4 ∧ 1 ≤ N) := ⟨HN.out.1.2.2.2, hcap, hpk, hN⟩
  clear hcap hpk hN
  obtain ⟨bA', oA', eA', hbA', _⟩ := cell_atI HN.out.2.2.1.2.2.2 (k := 0) (by have := HK.out; omega)
  have HXS : Hid (SlI w (some ⟨bA', oA' + k, none⟩) ((rs.drop k).take N) ∧ N = ((rs.drop k).take N).length) := by
    refine ⟨slI_subG (by rw [← eA']; exact HN.out.2.2.1.2.2.2) (by have := HK.out; omega), ?_⟩
    have := HK.out; simp; omega
  have HXL : Hid (((rs.drop k).take N).length ≤ 2000000) := hide (by have := HXS.out.2; have := HK.out; have := HLM.out; omega)
  subst eA'
  rw [hxs] at HXS HXL
  clear hxs
  obtain ⟨x0', x1', x2', x3'⟩ := S6.X.four
  obtain ⟨y0', y1', y2', y3', y4', y5'⟩ := S6.Y.six
  obtain ⟨n0', n1', n2', n3'⟩ := S6.N.four
  obtain ⟨t0', t1', t2', t3', t4', t5'⟩ := S6.T.six
  have ft0 := S6.T.fro 0
  have ft1 := S6.T.fro 1
  have ft2 := S6.T.fro 2
  have ft3 := S6.T.fro 3
  have ft4 := S6.T.fro 4
  have ft5 := S6.T.fro 5
  go_upto_region 15 with fail
  clear x0' x1' x2' x3' y0' y1' y2' y3' y4' y5' n0' n1' n2' n3' t0' t1' t2' t3' t4' t5' ft0 ft1 ft2 ft3 ft4 ft5
  have i0 : (k : Int) ≤ (k : Int) + (N : Int) := by have := HK.out; omega
  have i1 : (k : Int) + (N : Int) ≤ (l4 : Int) := by have := HK.out; omega
  have i2 : (k : Int) + (N : Int) ≤ (c4 : Int) := by have := HK.out; omega
  have i3 : (0 : Int) ≤ (k : Int) := by omega
  have i4 : (0 : Int) ≤ (k : Int) + (N : Int) := by omega
  have i5 : IntKind.i64.wrap ((k : Int) + (N : Int)) = (k : Int) + (N : Int) := by have := HK.out; have := HLM.out; rw [IntKind.wrap_i64]; omega
  have i6 : (k : Int) ≤ (c4 : Int) := by have := HK.out; omega
  have i7 : ¬ c4 = k := by have := HK.out; omega
  have i8 : ((k : Int) + (N : Int)).toNat - k = N := by omega
  have oL : OwnI (w6.alloc (.cells #[] 3)) w6.heap.size (.slice (some ⟨w6.heap.size, 0, none⟩) 0 0) [] := ⟨rfl, .inr ⟨w6.heap.size, 0, #[], rfl, Nat.le_refl _, Blk.new w6 #[] 3, by simp, by simp, rfl, rfl⟩⟩
  have SL := S6.below (bel_alloc w6 (.cells #[] 3))
  obtain ⟨x0', x1', x2', x3'⟩ := SL.X.four
  obtain ⟨y0', y1', y2', y3', y4', y5'⟩ := SL.Y.six
  obtain ⟨n0', n1', n2', n3'⟩ := SL.N.four
  obtain ⟨t0', t1', t2', t3', t4', t5'⟩ := SL.T.six
  have ft0 := SL.T.fro 0
  have ft1 := SL.T.fro 1
  have ft2 := SL.T.fro 2
  have ft3 := SL.T.fro 3
  have ft4 := SL.T.fro 4
  have ft5 := SL.T.fro 5
  go_upto_region 41 with (at_builtin; obtain ⟨vA, uA, hr, oA, bA, _, r1, t1, hv⟩ := app0I (w6.alloc (.cells #[] 3)) w6.heap.size w6.heap.size (some ⟨bA', oA' + k, none⟩) N (c4 - k) xs HXS.out.2 (HXS.out.1.below (bel_next S6.bel (bel_alloc _ _))) HXL.out (Nat.le_refl _) oL; refine Lib.wpList_append_run _ rfl (.tmp 71) (.tmp 81) _ _ rfl _ _ rfl rfl _ _ hr ?_; subst hv; have SA := SL.below bA; have HAp : Hid (∀ g, (Of4 (.slice x1 l1 d1) (.slice x2 l2 d2) (.slice x3 l3 d3) (.slice x4 l4 d4)) g → ¬ Of2 (.slice r1 N t1) (.slice none 0 0) g) := S6.apart oA (ownB_nil0 _ _); have HOA : Hid (OwnI (uA.setCell ⟨G7, 4, none⟩ (.slice r1 N t1)) w.heap.size (.slice r1 N t1) xs) := row_setE (oA.mono S6.bel.size) ⟨_, SA.T⟩ (by decide); have SB := SA.setT 4 (.slice r1 N t1); obtain ⟨s0', s1', s2', s3', s4', s5'⟩ := SA.T.six; have fs := SA.T.fro 4; clear hr oA bA oL)
  obtain ⟨w8, hw8⟩ : ∃ x, x = uA.setCell ⟨G7, 4, none⟩ (.slice r1 N t1) := ⟨_, rfl⟩
  rw [← hw8] at SB HOA ⊢
  have S9 : SS w #[.slice a1 l1 c1, .slice a2 l2 c2, .slice a3 l3 c3, .slice (some ⟨bA', oA', none⟩) l4 c4] #[.int .i64 4, .int .i64 (k : Int), .int .i64 (N : Int), .slice q1 m1 k1, .slice q2 m2 k2, .int .i64 wa] z G6 G7 x1 x2 x3 x4 l1 l2 l3 l4 d1 d2 d3 d4 is rs cs hs #[.int .i64 4, .int .i64 0, .int .i64 0, .int .i64 0, .slice r1 N t1, .slice none 0 0] w8 := SB
  clear hw8 SB SA SL S6 s0' s1' s2' s3' s4' s5' fs
  clear x0' x1' x2' x3' y0' y1' y2' y3' y4' y5' n0' n1' n2' n3' t0' t1' t2' t3' t4' t5' ft0 ft1 ft2 ft3 ft4 ft5
  have OI := HOA
  obtain ⟨r2, p2, t2, hr2⟩ : ∃ (r2 : Option Addr) (p2 t2 : Nat), Value.slice r2 p2 t2 = .slice none 0 0 := ⟨none, 0, 0, rfl⟩
  rw [← hr2] at S9 HAp
  have OB : Hid (OwnB w8 w.heap.size (.slice r2 p2 t2) []) := by rw [hr2]; exact ownB_nil0 _ _
  clear hr2
  obtain ⟨p1, hp1⟩ : ∃ p1, p1 = N := ⟨_, rfl⟩
  have S10 : SS w #[.slice a1 l1 c1, .slice a2 l2 c2, .slice a3 l3 c3, .slice (some ⟨bA', oA', none⟩) l4 c4] #[.int .i64 4, .int .i64 (k : Int), .int .i64 (N : Int), .slice q1 m1 k1, .slice q2 m2 k2, .int .i64 wa] z G6 G7 x1 x2 x3 x4 l1 l2 l3 l4 d1 d2 d3 d4 is rs cs hs #[.int .i64 4, .int .i64 0, .int .i64 0, .int .i64 0, .slice r1 p1 t1, .slice r2 p2 t2] w8 := by rw [hp1]; exact S9
  rw [← hp1] at HAp OI
  clear S9 i0 i1 i2 i3 i4 i5 i6 i7 i8 HXS HXL HK HOA hp1
  have N4 := S10.N
  have T' := S10.T
  have P4 := S10.P
  have Q4 := S10.Q
  have HH : Hid (OwnD w8 w.heap.size x1 x2 x3 x4 l1 l2 l3 l4 d1 d2 d3 d4 cs is hs rs ∧ OwnI w8 w.heap.size (.slice r1 p1 t1) xs ∧ OwnB w8 w.heap.size (.slice r2 p2 t2) [] ∧ Below w.heap.size w w8 ∧ ExB w8 (w.heap.size + 1 + 1) 27 ∧ ExB w8 (w.heap.size + 1 + 1 + 1) 37) := ⟨S10.D.mono (by have := S10.zb0; omega), OI.out, OB.out, S10.bel, ⟨_, P4⟩, ⟨_, Q4⟩⟩
  have lN : w.heap.size + 1 + 1 + 1 + 1 ≤ G6 := by have := S10.zb0; have := S10.g6; omega
  have lT : w.heap.size + 1 + 1 + 1 + 1 ≤ G7 := by have := S10.g7; omega
  obtain ⟨n0, n1, n2, n3⟩ := N4.four
  obtain ⟨t0', t1', t2', t3', t4', t5'⟩ := T'.six
  obtain ⟨p0', p1', p2', p3'⟩ := P4.four
  obtain ⟨q0', q1', q2', q3', q4', q5'⟩ := Q4.six
  have fp0 := P4.fro 0
  have fp1 := P4.fro 1
  have fp2 := P4.fro 2
  have fp3 := P4.fro 3
  have fq0 := Q4.fro 0
  have fq1 := Q4.fro 1
  have fq2 := Q4.fro 2
  have fq3 := Q4.fro 3
  have fq4 := Q4.fro 4
  have fq5 := Q4.fro 5
  have e1 : ¬ (G6 = w.heap.size + 1 + 1) := by omega
  have e2 : ¬ (G6 = w.heap.size + 1 + 1 + 1) := by omega
  have e3 : ¬ (G7 = w.heap.size + 1 + 1) := by omega
  have e4 : ¬ (G7 = w.heap.size + 1 + 1 + 1) := by omega
  have e1' : ¬ (w.heap.size + 1 + 1 = G6) := by omega
  have e2' : ¬ (w.heap.size + 1 + 1 + 1 = G6) := by omega
  have e3' : ¬ (w.heap.size + 1 + 1 = G7) := by omega
  have e4' : ¬ (w.heap.size + 1 + 1 + 1 = G7) := by omega
  clear lN lT
  obtain ⟨W5, hW5⟩ : ∃ x, x = ((((((((((w8.setCell ⟨w.heap.size + 1 + 1, 0, none⟩ (.slice x1 l1 d1)).setCell ⟨w.heap.size + 1 + 1, 1, none⟩ (.slice x2 l2 d2)).setCell ⟨w.heap.size + 1 + 1, 2, none⟩ (.slice x3 l3 d3)).setCell ⟨w.heap.size + 1 + 1, 3, none⟩ (.slice x4 l4 d4)).setCell ⟨w.heap.size + 1 + 1 + 1, 0, none⟩ (.int .i64 (4))).setCell ⟨w.heap.size + 1 + 1 + 1, 1, none⟩ (.int .i64 (0))).setCell ⟨w.heap.size + 1 + 1 + 1, 2, none⟩ (.int .i64 (0))).setCell ⟨w.heap.size + 1 + 1 + 1, 3, none⟩ (.int .i64 (0))).setCell ⟨w.heap.size + 1 + 1 + 1, 4, none⟩ (.slice r1 p1 t1)).setCell ⟨w.heap.size + 1 + 1 + 1, 5, none⟩ (.slice r2 p2 t2)) := ⟨_, rfl⟩
  have HW5 : Hid (W5 = _) := hW5
  have HF : Hid (OwnD W5 w.heap.size x1 x2 x3 x4 l1 l2 l3 l4 d1 d2 d3 d4 cs is hs rs ∧ OwnI W5 w.heap.size (.slice r1 p1 t1) xs ∧ OwnB W5 w.heap.size (.slice r2 p2 t2) [] ∧ Below w.heap.size w W5) := by
    obtain ⟨o1, o2, o3, o4, o5, o6⟩ := HH.out
    have x6 : ∀ v0 v1 v2 v3 : Value, ExB ((((w8.setCell ⟨w.heap.size + 1 + 1, 0, none⟩ v0).setCell ⟨w.heap.size + 1 + 1, 1, none⟩ v1).setCell ⟨w.heap.size + 1 + 1, 2, none⟩ v2).setCell ⟨w.heap.size + 1 + 1, 3, none⟩ v3) (w.heap.size + 1 + 1 + 1) 37 := fun _ _ _ _ => ExB.set (ExB.set (ExB.set (ExB.set o6)))
    rw [hW5]
    exact ⟨(o1.set4 o5 (by decide) (by decide)).set6 (x6 _ _ _ _) (by decide) (by decide), rowp_set6 (row_set4 o2 o5 (by decide)) (x6 _ _ _ _) (by decide), rowp_set6 (row_set4 o3 o5 (by decide)) (x6 _ _ _ _) (by decide), belp_set6 (bel_set4 o4 (by omega)) (by omega)⟩
  have HPQ : Hid (Blk W5 (w.heap.size + 1 + 1) 27 #[.slice x1 l1 d1, .slice x2 l2 d2, .slice x3 l3 d3, .slice x4 l4 d4] ∧ Blk W5 (w.heap.size + 1 + 1 + 1) 37 #[.int .i64 4, .int .i64 0, .int .i64 0, .int .i64 0, .slice r1 p1 t1, .slice r2 p2 t2]) := by
    have a1' := (((P4.set 0 (.slice x1 l1 d1)).set 1 (.slice x2 l2 d2)).set 2 (.slice x3 l3 d3)).set 3 (.slice x4 l4 d4)
    have a2' := (((((a1'.setNe (g' := w.heap.size + 1 + 1 + 1) (j := 0) (y := .int .i64 (4)) (by omega)).setNe (g' := w.heap.size + 1 + 1 + 1) (j := 1) (y := .int .i64 (0)) (by omega)).setNe (g' := w.heap.size + 1 + 1 + 1) (j := 2) (y := .int .i64 (0)) (by omega)).setNe (g' := w.heap.size + 1 + 1 + 1) (j := 3) (y := .int .i64 (0)) (by omega)).setNe (g' := w.heap.size + 1 + 1 + 1) (j := 4) (y := .slice r1 p1 t1) (by omega)).setNe (g' := w.heap.size + 1 + 1 + 1) (j := 5) (y := .slice r2 p2 t2) (by omega)
    have c1' := (((Q4.setNe (g' := w.heap.size + 1 + 1) (j := 0) (y := .slice x1 l1 d1) (by omega)).setNe (g' := w.heap.size + 1 + 1) (j := 1) (y := .slice x2 l2 d2) (by omega)).setNe (g' := w.heap.size + 1 + 1) (j := 2) (y := .slice x3 l3 d3) (by omega)).setNe (g' := w.heap.size + 1 + 1) (j := 3) (y := .slice x4 l4 d4) (by omega)
    have c2' := (((((c1'.set 0 (.int .i64 (4))).set 1 (.int .i64 (0))).set 2 (.int .i64 (0))).set 3 (.int .i64 (0))).set 4 (.slice r1 p1 t1)).set 5 (.slice r2 p2 t2)
    rw [hW5]
    exact ⟨a2', c2'⟩
  clear hW5 S10
  go_region
  rw [← HW5.out]
  obtain ⟨u0, u1, u2, u3⟩ := HPQ.out.1.four
  obtain ⟨v0, v1, v2, v3, v4, v5⟩ := HPQ.out.2.six
  clear p0' p1' p2' p3' q0' q1' q2' q3' q4' q5' fp0 fp1 fp2 fp3 fq0 fq1 fq2 fq3 fq4 fq5 n0 n1 n2 n3 t0' t1' t2' t3' t4' t5'
  go_wp2
  refine bodyPost_ret (v := .tuple #[dv x1 x2 x3 x4 l1 l2 l3 l4 d1 d2 d3 d4, rp (4) (0) (0) (0) r1 r2 p1 p2 t1 t2]) (by simp [results, Try.results42, go_sem, u0, u1, u2, u3, v0, v1, v2, v3, v4, v5]) rfl ?_
  obtain ⟨o1, o2, o3, o4⟩ := HF.out
  exact ⟨_, _, _, _, _, _, _, _, _, _, _, _, _, _, _, _, _, _, rfl, o1.drew, o2.below (Below.refl _ _).drew, o3.below (Below.refl _ _).drew, HAp.out, o4.drew⟩
end Go.Proofs.Ytfdddkjonjpgpaa
