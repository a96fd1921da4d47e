/- Bits told in whole bytes, of the model. -/
import Derived.Test.YtmbkfoemhnhoiaaDev24
import Derived.Lib.AppendZeros
namespace Go.Proofs.Ytmbkfoemhnhoiaa
open Go.RowKit

set_option linter.unusedVariables false

set_option linter.unusedSimpArgs false

theorem slB_subG {w : World} {b off k N : Nat} {hs : List Bool} (h : SlB w (some ⟨b, off, none⟩) hs) (hk : k + N ≤ hs.length) : SlB w (some ⟨b, off + k, none⟩) ((hs.drop k).take N) := by
  rcases h with e | ⟨b', off', ha, hb, hc⟩
  · subst e; exact .inl (by simp)
  · simp only [Option.some.injEq, Addr.mk.injEq, and_true] at ha
    obtain ⟨rfl, rfl⟩ := ha
    refine .inr ⟨b, off + k, rfl, hb, fun i hi => ?_⟩
    have hi' : i < N := by simp at hi; omega
    have := hc (k + i) (by omega)
    rw [show off + k + i = off + (k + i) by omega, this]
    simp [List.getD_eq_getElem?_getD, List.getElem?_take, hi', List.getElem?_drop]

theorem slI_subG {w : World} {b off k N : Nat} {hs : List Int} (h : SlI w (some ⟨b, off, none⟩) hs) (hk : k + N ≤ hs.length) : SlI w (some ⟨b, off + k, none⟩) ((hs.drop k).take N) := by
  rcases h with e | ⟨b', off', ha, hb, hc⟩
  · subst e; exact .inl (by simp)
  · simp only [Option.some.injEq, Addr.mk.injEq, and_true] at ha
    obtain ⟨rfl, rfl⟩ := ha
    refine .inr ⟨b, off + k, rfl, hb, fun i hi => ?_⟩
    have hi' : i < N := by simp at hi; omega
    have := hc (k + i) (by omega)
    rw [show off + k + i = off + (k + i) by omega, this]
    simp [List.getD_eq_getElem?_getD, List.getElem?_take, hi', List.getElem?_drop]

/-- append of one false onto a row of the call's own. -/
theorem wpList_appF {w : World} {ops : Array Oper} {rest : List Oper} {o : Oper} {a : Act} {Q : Exit → Act → World → Prop} (hgd : o.guard = none) (s x : Operand)
    (ho : o.op = .call { callee := .builtin .append, args := #[s, x], argTypes := #[25, 25] }) (base : Nat) (v : Value) (zs : List Bool) (hs : a.eval s = v) (hown : OwnB w base v zs)
    (ad : Addr) (m c : Nat) (ys : List Bool) (hx : a.eval x = .slice (some ad) m c) (hm : m = ys.length) (hsl : SlB w (some ad) ys) (hlen : zs.length + ys.length ≤ 4000000) (hbase : base ≤ w.heap.size)
    (h : ∀ v' w', OwnB w' base v' (zs ++ ys) → w.grownBy w' v.ownBlock → wpList Try.prog ops Q rest (a.put o.dst v') w') : wpList Try.prog ops Q (o :: rest) a w := by
  obtain ⟨i0, hi, hz0, hz1, hz2⟩ := info_parts Try.info4
  subst hm
  have hml : zs.length + ys.length ≤ maxLen := by unfold maxLen; omega
  have hsrc : ∀ j v, (ys.map Value.bool)[j]? = some v → w.cell? (ad.add j) = some v := by
    rcases hsl with e | ⟨b, off, ha, hb, hc⟩
    · subst e; intro j v hj; simp at hj
    · simp only [Option.some.injEq] at ha
      subst ha
      exact slB_at (.inr ⟨b, off, rfl, hb, hc⟩)
  refine wpList_append_own _ hgd s x 25 ho base 4 i0 (.bool false) 1 1 Try.underlying25 hi hz0 hz1 hz2 rfl (by decide) v zs.length (zs.map Value.bool) hs hown ad ys.length c (ys.map Value.bool) hx (by simp) hsrc (onesB ys) hml (by omega) hbase ?_
  intro v' w' o' g' _
  exact h v' w' (by simpa [OwnB] using o') g'

theorem tB8_len (bs : List Bool) (k N : Nat) (h : k + N ≤ bs.length) : (tB8 bs k N).length = 8 * ((N + 7) / 8) := by
  unfold tB8; simp; omega

theorem ownB_form {w : World} {base : Nat} {v : Value} {zs : List Bool} (h : OwnB w base v zs) : ∃ a c n, v = .slice a n c ∧ n = zs.length := by
  obtain ⟨_, h2⟩ := h
  rcases h2 with ⟨hv, h3⟩ | ⟨g, cap, cur, hv, hg, hh, _⟩
  · exact ⟨none, 0, 0, hv, h3.symm⟩
  · exact ⟨_, cap, _, hv, rfl⟩

theorem bel_rowB {B : Nat} {w0 w w' : World} {base : Nat} {v : Value} {zs : List Bool} (hb : Below B w0 w) (h : OwnB w base v zs) (hg : w.grownBy w' v.ownBlock) (h1 : B ≤ base) (h2 : B ≤ w.heap.size) : Below B w0 w' :=
  hb.grown hg h2 (fun k hk => by have := (World.ownsRow.lt h k hk).1; omega)

set_option maxRecDepth 20000 in
set_option maxHeartbeats 2000000 in
theorem l5Bits_any (a : Option Addr) (l c k N : Nat) (bs : List Bool) (w : World) (hl : l = bs.length) (hlc : l ≤ c) (hs : SlB w a bs) (hk : k + N ≤ l) (hN : 1 ≤ N) (h3 : l ≤ 2000000) :
    Calls Try.prog 77 #[.slice a l c, .int .i64 (k : Int), .int .i64 (N : Int)] w fun e w' => ∃ v, e = .returned v ∧ OwnB w' w.heap.size v (tB8 bs k N) ∧ Below w.heap.size w w' := by
  obtain ⟨b, off, rfl, hb, hc⟩ := cell_atB hs (k := 0) (by omega)
  have hs1 := slB_subG (k := k) (N := N) hs (by omega)
  obtain ⟨xs, hxs⟩ : ∃ xs, xs = (bs.drop k).take N := ⟨_, rfl⟩
  rw [← hxs] at hs1
  have HX : Hid (N = xs.length ∧ xs = (bs.drop k).take N) := by refine ⟨?_, hxs⟩; rw [hxs]; simp; omega
  have b1 := bel_alloc w (.cells #[] 4)
  have ol : OwnB (w.alloc (.cells #[] 4)) w.heap.size (.slice (some ⟨w.heap.size, 0, none⟩) 0 0) [] := ⟨rfl, .inr ⟨w.heap.size, 0, #[], rfl, Nat.le_refl _, Blk.new w #[] 4, by simp, by simp, rfl, rfl⟩⟩
  have HS1 : Hid (SlB (w.alloc (.cells #[] 4)) (some ⟨b, off + k, none⟩) xs ∧ xs.length ≤ 2000000) := ⟨hs1.below b1, by have := HX.out.1; omega⟩
  have i0 : (k : Int) ≤ (k : Int) + (N : Int) := by omega
  have i1 : (k : Int) + (N : Int) ≤ (l : Int) := by omega
  have i2 : (k : Int) + (N : Int) ≤ (c : Int) := by omega
  have i3 : (0 : Int) ≤ (k : Int) := by omega
  have i4 : (0 : Int) ≤ (k : Int) + (N : Int) := by omega
  have i5 : IntKind.i64.wrap ((k : Int) + (N : Int)) = (k : Int) + (N : Int) := by rw [IntKind.wrap_i64]; omega
  have i6 : (k : Int) ≤ (c : Int) := by omega
  have i7 : ¬ c = k := by omega
  have i8 : ((k : Int) + (N : Int)).toNat - k = N := by omega
  have HM : Hid (N ≤ 2000000) := by show N ≤ 2000000; omega
  clear hs hs1 hxs hc
  go_enter Try.func77, Try.ntmps77
  go_wp2_with (at_builtin; obtain ⟨v1, w1, hr, o1, b1', _, a1, d1, hv1⟩ := app0B (w.alloc (.cells #[] 4)) w.heap.size w.heap.size (some ⟨b, off + k, none⟩) N (c - k) xs HX.out.1 HS1.out.1 HS1.out.2 (Nat.le_refl _) ol; refine Lib.wpList_append_run _ rfl (.tmp 8) (.tmp 14) _ _ rfl _ _ rfl rfl _ _ hr ?_; subst hv1; have B1 := bel_next b1 b1'; clear hr b1' ol b1)
  clear i0 i1 i2 i3 i4 i5 i6 i7 i8
  go_loopw [7] (fun v wr => ∃ j : Nat, N + j ≤ 8 * ((N + 7) / 8) ∧ OwnB wr w.heap.size v (xs ++ List.replicate j false) ∧ Below w.heap.size w wr) (fun v _ => 8 * ((N + 7) / 8) - (match v with | .slice _ n _ => n | _ => 0))
  case atStart => exact ⟨0, by omega, by simpa using o1, B1⟩
  case round =>
    obtain ⟨j, hj, ho, hB⟩ := hrel
    obtain ⟨a', c', n', rfl, hn'⟩ := ownB_form ho
    have hnj : n' = N + j := by rw [hn']; simp; have := HX.out.1; omega
    have HN' : Hid (n' = N + j) := hnj
    have hM := HM.out
    by_cases he : n' % 8 = 0
    · have e : tB8 bs k N = xs ++ List.replicate j false := by
        unfold tB8; rw [← HX.out.2, show 8 * ((N + 7) / 8) - N = j by omega]
      have hz : ((n' : Int) % 8 != 0) = false := by simp; omega
      have hz2 : Int.tmod (n' : Int) 8 = (n' : Int) % 8 := Int.tmod_eq_emod_of_nonneg (by omega)
      rw [← e] at ho
      clear hn' hnj hj o1 B1
      go_wp2_with fail
      go_ret
      exact ⟨_, rfl, ho, hB⟩
    · have hz : ((n' : Int) % 8 != 0) = true := by simp; omega
      have hz2 : Int.tmod (n' : Int) 8 = (n' : Int) % 8 := Int.tmod_eq_emod_of_nonneg (by omega)
      have hlen : Hid ((xs ++ List.replicate j false).length + [false].length ≤ 4000000) := hide (by rw [← hn']; simp; omega)
      have B2 := bel_next hB (bel_alloc wr (.cells #[.bool false] 4))
      have o2 := ho.below (bel_alloc wr (.cells #[.bool false] 4))
      have hlt : N + (j + 1) ≤ 8 * ((N + 7) / 8) := by omega
      clear hn' hnj o1 B1 ho
      go_wp2_with (at_builtin; refine wpList_appF rfl (.tmp 20) (.tmp 21) rfl w.heap.size (.slice a' n' c') (xs ++ List.replicate j false) rfl o2 ⟨wr.heap.size, 0, none⟩ 1 1 [false] rfl rfl (lit_slB1 _ _ rfl) hlen.out B2.size ?_; intro v3 w3 o3 g3; have B3 : Below w.heap.size w w3 := bel_rowB B2 o2 g3 (Nat.le_refl _) B2.size; obtain ⟨a3, c3, n3, hv3, hn3⟩ := ownB_form o3; subst hv3; have HN3 : Hid (n3 = n' + 1) := hide (by rw [hn3, HN'.out]; simp; have := HX.out.1; omega); rw [List.append_assoc, show List.replicate j false ++ [false] = List.replicate (j + 1) false from (List.replicate_succ' ..).symm] at o3; clear hn3 g3 o2 B2)
      go_roundw
      case rel => exact ⟨j + 1, hlt, o3, B3⟩
      case measure => have := HN3.out; have := HN'.out; simp; omega

end Go.Proofs.Ytmbkfoemhnhoiaa
