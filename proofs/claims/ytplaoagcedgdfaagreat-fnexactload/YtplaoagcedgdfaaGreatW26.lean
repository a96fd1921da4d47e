/- Texts that the proof needs, joined: A64 LoadL. -/
import Derived.Test.YtplaoagcedgdfaaGreatW2
import Derived.Test.YtplaoagcedgdfaaGreatW3
import Derived.Test.YtplaoagcedgdfaaGreatW23
import Derived.Test.YtplaoagcedgdfaaGreatW4
import Derived.Test.YtplaoagcedgdfaaGreatW6
import Derived.Test.YtplaoagcedgdfaaGreatW25
import Derived.Test.YtplaoagcedgdfaaGreatW7
set_option linter.unusedVariables false
set_option linter.unusedSimpArgs false
set_option maxHeartbeats 8000000
set_option maxRecDepth 20000
namespace Go.Proofs.YtplaoagcedgdfaaGreat
open Go.ChangeShapes Go.WideShapes Go.ChangeAt Go.RowKit Go.Deep Go.Joins Go.Proofs.Tryz
theorem wf64 {z : Int} (h : (Lit.int .i64 z).wf = true) : -9223372036854775808 <= z /\ z <= 9223372036854775807 := bounds_i64 h
def OfB (w : World) : Sh -> Value -> Prop
 | .int, v => ∃ z, v = .int .i64 z /\ -9223372036854775808 <= z /\ z <= 9223372036854775807
 | .bool, v => ∃ z, v = .bool z
 | .lst s f, v => ∃ a n c, v = .slice a n c /\ n <= c /\ n <= maxLen /\ (n = 0 \/ ∃ (g off : Nat) (F : Nat -> List Value), a = some ⟨g, off, none⟩ /\ g < w.heap.size /\
  ∀ k, k < n -> (F k).length = s /\ ∀ j v, (F k)[j]? = some v -> w.cell? ⟨g, off + k * s + j, none⟩ = some v /\ OfB w (f j) v)
def OfBL (w : World) (S : List Sh) (vs : List Value) : Prop := vs.length = S.length /\ ∀ j v, vs[j]? = some v -> OfB w (S.getD j .int) v
section
variable {H : Type} {enc : TypeId × Value -> H} {P : Program} {w : World} {base : Nat} {held : Bool}
theorem opened_bF {sh : TypeId -> Option (List Sh)} {cs : List Value}
 (hsh : ∀ t S, sh t = some S -> ∀ (fuel : Nat) cs' (y : DataW H × List MemPlace), DataW.trod enc P w base (fun _ => true) held fuel t cs' = some y -> OfBL w S cs') :
 ∀ (fs : List Field) (o : Nat) (S : List Sh), shF P sh fs o = some S -> (∀ (i : Nat) f, fs[i]? = some f -> ∃ (n : Nat) (y : DataW H × List MemPlace), DataW.trod enc P w base (fun _ => true) held n f.type ((cs.drop f.offset).take (P.cellsOf f.type)) = some y) ->
  ∀ j v, j < S.length -> cs[o + j]? = some v -> OfB w (S.getD j .int) v
 | [], o, S, h, _, j, v, hj, hv => by
  simp only [shF, Option.some.injEq] at h
  subst h
  simp at hj
 | f :: r, o, S, h, hf, j, v, hj, hv => by
  unfold shF at h
  split at h
  ·rename_i l l' h1 h2
   split at h
   ·rename_i hc
    simp only [Option.some.injEq] at h
    subst h
    obtain ⟨n, y, hy⟩ := hf 0 f rfl
    obtain ⟨q1, q2⟩ := hsh _ _ h1 _ _ _ hy
    by_cases e : j < l.length
    ·have := q2 j v (by
      rw [List.getElem?_take, if_pos (by omega), List.getElem?_drop, hc.1]
      exact hv)
     rw [List.getD_eq_getElem?_getD] at this ⊢
     rw [List.getElem?_append_left e]
     exact this
    have := opened_bF hsh r _ l' h2 (fun i f' hf' => hf (i + 1) f' (by simpa using hf')) (j - l.length) v (by simp at hj; omega) (by
     rw [show o + P.cellsOf f.type + (j - l.length) = o + j by omega]
     exact hv)
    rw [List.getD_eq_getElem?_getD] at this ⊢
    rw [List.getElem?_append_right (by omega)]
    exact this
   simp at h
  simp at h
theorem opened_b : ∀ (n : Nat) (t : TypeId) (S : List Sh), shT P n t = some S -> ∀ (fuel : Nat) cs (y : DataW H × List MemPlace), DataW.trod enc P w base (fun _ => true) held fuel t cs = some y -> OfBL w S cs
 | 0, t, S, h, _, _, _, _ => by simp [shT] at h
 | n + 1, t, S, h, fuel, cs, y, hy => by
  unfold shT at h
  split at h
  ·rename_i ht
   simp only [Option.some.injEq] at h
   subst h
   obtain ⟨z, rfl, _, hz⟩ := DataW.trod_int ht hy
   refine ⟨rfl, fun j v hv => ?_⟩
   match j, hv with
   | 0, hv => simp at hv; subst hv; exact ⟨z, rfl, wf64 hz⟩
   | j + 1, hv => simp at hv
  ·rename_i ht
   simp only [Option.some.injEq] at h
   subst h
   obtain ⟨z, rfl, _⟩ := DataW.trod_bool ht hy
   refine ⟨rfl, fun j v hv => ?_⟩
   match j, hv with
   | 0, hv => simp at hv; subst hv; exact ⟨z, rfl⟩
   | j + 1, hv => simp at hv
  ·rename_i e ht
   split at h
   ·rename_i l hl
    split at h
    ·rename_i hc
     simp only [Option.some.injEq] at h
     subst h
     rcases open_slice ht hy with ⟨rfl, _⟩ | ⟨x, len, c, m, n', D, Pl, rfl, _, hlc, hcm, hmm, _, hx⟩
     ·refine ⟨rfl, fun j v hv => ?_⟩
      match j, hv with
      | 0, hv => simp at hv; subst hv; exact ⟨none, 0, 0, rfl, Nat.le_refl _, Nat.zero_le _, .inl rfl⟩
      | j + 1, hv => simp at hv
     simp only [if_true] at hmm
     subst hmm
     rw [hc.1] at hx
     obtain ⟨F, hF⟩ := choose_lt (α := List Value) (p := fun i cs' => w.cells? base (x.add (i * l.length)) l.length = some cs' /\ DataW.trod enc P w base (fun _ => true) held n' e cs' = some (D i, Pl i)) (fun i hi => hx i hi)
     refine ⟨rfl, fun j v hv => ?_⟩
     match j, hv with
     | 0, hv =>
      simp at hv
      subst hv
      refine ⟨some x, len, m, rfl, hlc, by omega, ?_⟩
      by_cases e0 : len = 0
      ·exact .inl e0
      have hc0 := (World.cells?_some (hF 0 (by omega)).1)
      obtain ⟨b, off, spot⟩ := x
      have hc9 := hc0.2.2 0 hc.2
      obtain ⟨v0, hv0⟩ : ∃ v, (F 0)[0]? = some v := ⟨(F 0)[0]'(by rw [hc0.2.1]; exact hc.2), by simp⟩
      rw [hv0] at hc9
      have hspot : spot = none := by simpa [Addr.add] using World.cell?_spot hc9
      subst hspot
      refine .inr ⟨b, off, F, rfl, (by simpa [Addr.add] using World.block_lt_of_cell? _ _ hc9), fun k hk => ?_⟩
      have h1 := World.cells?_some (hF k (by omega)).1
      obtain ⟨q1, q2⟩ := opened_b n e l hl _ _ _ (hF k (by omega)).2
      refine ⟨q1, fun j v hj => ⟨?_, q2 j v hj⟩⟩
      have h2 := h1.2.2 j (by rw [<- q1]; exact (List.getElem?_eq_some_iff.1 hj).1)
      have e1 : ∀ (o n : Nat), (Addr.mk b o none).add n = ⟨b, o + n, none⟩ := fun o n => by
       by_cases e : n = 0
       ·subst e; rfl
       simp [Addr.add, e]
      rw [e1, e1, hj] at h2
      exact h2
     | j + 1, hv => simp at hv
    simp at h
   simp at h
  ·rename_i fs ht
   split at h
   ·rename_i l hl
    split at h
    ·rename_i hc
     simp only [Option.some.injEq] at h
     subst h
     obtain ⟨xs, m, _, hx, hlen, hxl, hg⟩ := DataW.trod_struct ht hy
     refine ⟨by rw [hlen, hc], fun j v hv => ?_⟩
     have hj : j < l.length := by
      have := (List.getElem?_eq_some_iff.1 hv).1
      omega
     exact opened_bF (cs := cs) (fun t' S' hs => opened_b n t' S' hs) fs.toList 0 l hl (fun i f hf => by
      have hf' : fs[i]? = some f := by simpa using hf
      have := hg i f hf'
      have hi : i < xs.length := by rw [hxl]; exact (Array.getElem?_eq_some_iff.1 hf').1
      exact ⟨m, xs[i], by rw [this]; simp⟩) j v hj (by rw [Nat.zero_add]; exact hv)
    simp at h
   simp at h
  simp at h
end
theorem rules64 {w : World} {lo n l c : Nat} {f : Nat -> Sh} {g : Nat -> Ru} {a : Option Addr} (hf : f 6 = .int) (h : OfB w (.lst 7 f) (.slice a l c)) (hr : Rd w lo (.list 7 n (fun i => trs (xrT (g i)))) (.slice a l c)) : ∀ k, k < n -> -9223372036854775808 <= (g k).sh /\ (g k).sh <= 9223372036854775807 := by
 intro k hk
 obtain ⟨a', n', c', h1, _, _, h4⟩ := h
 simp only [Value.slice.injEq] at h1
 obtain ⟨rfl, rfl, rfl⟩ := h1
 have hl : l = n := hr.slu.1
 subst hl
 obtain ⟨b, off, vs, ha, _, _, hlen, hrng, hd⟩ := hr.at hk
 rcases h4 with h4 | ⟨b', off', F, ha', _, hc⟩
 ·omega
 rw [ha] at ha'
 simp only [Option.some.injEq, Addr.mk.injEq, and_true] at ha'
 obtain ⟨rfl, rfl⟩ := ha'
 have e := Ru.cells hd hlen
 subst e
 have q1 := hrng 6 _ rfl
 obtain ⟨q2, q3⟩ := hc k hk
 obtain ⟨v, hv⟩ : ∃ v, (F k)[6]? = some v := ⟨(F k)[6]'(by omega), by simp⟩
 obtain ⟨q4, q5⟩ := q3 6 v hv
 rw [q1] at q4
 obtain rfl := Option.some.inj q4
 rw [hf] at q5
 obtain ⟨z, hz, hb⟩ := q5
 simp only [rul, Value.int.injEq, true_and] at hz
 rw [hz]
 exact hb
theorem opened_64 {H : Type} {enc : TypeId × Value -> H} {P : Program} {w : World} {base : Nat} {held : Bool} {t : TypeId} {d : DataW H} {p : List MemPlace} {N : Nat} {S : List Sh} {l : List Value} {n m c : Nat} {f : Nat -> Sh} {g : Nat -> Ru} {a : Option Addr} (hsh : shT P N t = some S) (h : DataW.Trod enc P w base (fun _ => true) held t (.agg l.toArray) d p)
 (h3 : l[3]? = some (.slice a m c)) (hS : S.getD 3 .int = .lst 7 f) (hf : f 6 = .int) (hr : Rd w 0 (.list 7 n (fun i => trs (xrT (g i)))) (.slice a m c)) : ∀ k, k < n -> -9223372036854775808 <= (g k).sh /\ (g k).sh <= 9223372036854775807 := by
 obtain ⟨fuel, hf'⟩ := h
 have h9 := (opened_b N t _ hsh fuel l _ (by simpa [Value.cells] using hf')).2 3 _ h3
 rw [hS] at h9
 exact rules64 hf h9 hr
end Go.Proofs.YtplaoagcedgdfaaGreat
namespace Go.Proofs.YtplaoagcedgdfaaGreat
open Go.RowKit Go.Joins Go.Proofs.Tryz
theorem load_big (X : VF) (a1 : Option Addr) (c1 : Nat) (a2 : Option Addr) (c2 : Nat) (a3 : Option Addr) (c3 : Nat) (w : World) (h : Rd w 0 (.list 7 X.set.n (fun i => trs (xrT (X.set.f i)))) (.slice a1 X.set.n c1) /\ Rd w 0 (.list 13 X.op.m (fun i => trs (dT (X.op.f i)))) (.slice a2 X.op.m c2) /\ Rd w 0 (.list 17 X.nl (fun i => trs (xnT (X.lf i)))) (.slice a3 X.nl c3)) (hz : ¬ szT 11 (trs (xfT X)) <= 1048576) :
 Calls prog 5 #[.agg (xfL X a1 X.set.n c1 a2 X.op.m c2 a3 X.nl c3).toArray] w fun e w' => e = .returned (.bool true) /\ Below w.heap.size w w' := by
 have HX : Hid (lfT 1048576 (szT 11 (trs (xfT X))) = -1) := by show _ = _; unfold lfT; rw [if_neg hz]
 obtain ⟨B, hB⟩ : ∃ B, B = w.heap.size := ⟨_, rfl⟩
 obtain ⟨W, hW⟩ : ∃ W, W = w.alloc (.cells (xfL X a1 X.set.n c1 a2 X.op.m c2 a3 X.nl c3).toArray 30) := ⟨_, rfl⟩
 have b0 : Below w.heap.size w W := by rw [hW]; exact bel_alloc _ _
 have A0 : Blk W B 30 (xfL X a1 X.set.n c1 a2 X.op.m c2 a3 X.nl c3).toArray := by rw [hW, hB]; exact Blk.new _ _ _
 have H0 : Hid (Below w.heap.size w W /\ Rd W 0 (.list 7 X.set.n (fun i => trs (xrT (X.set.f i)))) (.slice a1 X.set.n c1) /\ Rd W 0 (.list 13 X.op.m (fun i => trs (dT (X.op.f i)))) (.slice a2 X.op.m c2) /\ Rd W 0 (.list 17 X.nl (fun i => trs (xnT (X.lf i)))) (.slice a3 X.nl c3)) := ⟨b0, ⟨h.1.below b0, h.2.1.below b0, h.2.2.below b0⟩⟩
 have y0 : W.cell? ⟨B, 0, none⟩ = some (.int .i64 X.nw) := A0.cell 0 rfl
 have y1 : W.cell? ⟨B, 1, none⟩ = some (.int .i64 X.set.wt) := A0.cell 1 rfl
 have y2 : W.cell? ⟨B, 2, none⟩ = some (.int .i64 X.set.tr) := A0.cell 2 rfl
 have y3 : W.cell? ⟨B, 3, none⟩ = some (.slice a1 X.set.n c1) := A0.cell 3 rfl
 have y4 : W.cell? ⟨B, 4, none⟩ = some (.int .i64 X.op.nx) := A0.cell 4 rfl
 have y5 : W.cell? ⟨B, 5, none⟩ = some (.slice a2 X.op.m c2) := A0.cell 5 rfl
 have y6 : W.cell? ⟨B, 6, none⟩ = some (.slice a3 X.nl c3) := A0.cell 6 rfl
 have y7 : W.cell? ⟨B, 7, none⟩ = some (.int .i64 X.sk) := A0.cell 7 rfl
 have y8 : W.cell? ⟨B, 8, none⟩ = some (.int .i64 X.re) := A0.cell 8 rfl
 have y9 : W.cell? ⟨B, 9, none⟩ = some (.int .i64 X.fa) := A0.cell 9 rfl
 have y10 : W.cell? ⟨B, 10, none⟩ = some (.int .i64 X.se) := A0.cell 10 rfl
 clear A0 b0 h hz
 go_enter func5, ntmps5
 go_upto_region 1 with fail
 rw [<- hW, <- hB]
 clear hW hB
 go_wp2_with fail
 refine (szFabric_t X a1 _ c1 a2 _ c2 a3 _ c3 1048576 _ H0.out.2.1 H0.out.2.2.1 H0.out.2.2.2 (Nat.le_refl _)).mono ?_
 rintro e w1 ⟨rfl, b1⟩
 rw [HX.out]
 have B := bel_nx H0.out.1 b1
 clear b1 y0 y1 y2 y3 y4 y5 y6 y7 y8 y9 y10
 go_wp2
 go_ret
 exact ⟨rfl, B⟩
theorem load_law (X : VF) (a1 : Option Addr) (c1 : Nat) (a2 : Option Addr) (c2 : Nat) (a3 : Option Addr) (c3 : Nat) (w : World) (h : Rd w 0 (.list 7 X.set.n (fun i => trs (xrT (X.set.f i)))) (.slice a1 X.set.n c1) /\ Rd w 0 (.list 13 X.op.m (fun i => trs (dT (X.op.f i)))) (.slice a2 X.op.m c2) /\ Rd w 0 (.list 17 X.nl (fun i => trs (xnT (X.lf i)))) (.slice a3 X.nl c3)) (h64 : ∀ k, k < X.set.n -> -9223372036854775808 <= (X.set.f k).sh /\ (X.set.f k).sh <= 9223372036854775807) (hz : szT 11 (trs (xfT X)) <= 1048576) :
 Calls prog 5 #[.agg (xfL X a1 X.set.n c1 a2 X.op.m c2 a3 X.nl c3).toArray] w fun e w' => e = .returned (.bool true) /\ Below w.heap.size w w' := by
 obtain ⟨lf, hlf⟩ : ∃ lf, lf = lfT 1048576 (szT 11 (trs (xfT X))) := ⟨_, rfl⟩
 have hnn : ¬ (lf < 0) := by rw [hlf]; unfold lfT; rw [if_pos hz]; omega
 obtain ⟨B, hB⟩ : ∃ B, B = w.heap.size := ⟨_, rfl⟩
 obtain ⟨W, hW⟩ : ∃ W, W = w.alloc (.cells (xfL X a1 X.set.n c1 a2 X.op.m c2 a3 X.nl c3).toArray 30) := ⟨_, rfl⟩
 have b0 : Below w.heap.size w W := by rw [hW]; exact bel_alloc _ _
 have A0 : Blk W B 30 (xfL X a1 X.set.n c1 a2 X.op.m c2 a3 X.nl c3).toArray := by rw [hW, hB]; exact Blk.new _ _ _
 have HH : Hid ((Rd W 0 (.list 7 X.set.n (fun i => trs (xrT (X.set.f i)))) (.slice a1 X.set.n c1) /\ Rd W 0 (.list 13 X.op.m (fun i => trs (dT (X.op.f i)))) (.slice a2 X.op.m c2) /\ Rd W 0 (.list 17 X.nl (fun i => trs (xnT (X.lf i)))) (.slice a3 X.nl c3)) /\ szT 11 (trs (xfT X)) <= 1048576 /\ BdF X /\ lf = lfT 1048576 (szT 11 (trs (xfT X))) /\ Below w.heap.size w W) := ⟨⟨h.1.below b0, h.2.1.below b0, h.2.2.below b0⟩, hz, VF.bdF (by omega) h64, hlf, b0⟩
 obtain ⟨ok, hok⟩ : ∃ ok, ok = ldA X := ⟨_, rfl⟩
 have HO : Hid (ok = ldA X) := hok
 have H0 : Hid (Below W.heap.size W W /\ Blk W B 30 (xfL X a1 X.set.n c1 a2 X.op.m c2 a3 X.nl c3).toArray) := ⟨Below.refl _ _, A0⟩
 have y0 : W.cell? ⟨B, 0, none⟩ = some (.int .i64 X.nw) := A0.cell 0 rfl
 have y1 : W.cell? ⟨B, 1, none⟩ = some (.int .i64 X.set.wt) := A0.cell 1 rfl
 have y2 : W.cell? ⟨B, 2, none⟩ = some (.int .i64 X.set.tr) := A0.cell 2 rfl
 have y3 : W.cell? ⟨B, 3, none⟩ = some (.slice a1 X.set.n c1) := A0.cell 3 rfl
 have y4 : W.cell? ⟨B, 4, none⟩ = some (.int .i64 X.op.nx) := A0.cell 4 rfl
 have y5 : W.cell? ⟨B, 5, none⟩ = some (.slice a2 X.op.m c2) := A0.cell 5 rfl
 have y6 : W.cell? ⟨B, 6, none⟩ = some (.slice a3 X.nl c3) := A0.cell 6 rfl
 have y7 : W.cell? ⟨B, 7, none⟩ = some (.int .i64 X.sk) := A0.cell 7 rfl
 have y8 : W.cell? ⟨B, 8, none⟩ = some (.int .i64 X.re) := A0.cell 8 rfl
 have y9 : W.cell? ⟨B, 9, none⟩ = some (.int .i64 X.fa) := A0.cell 9 rfl
 have y10 : W.cell? ⟨B, 10, none⟩ = some (.int .i64 X.se) := A0.cell 10 rfl
 clear A0 b0 h hz hlf hok h64
 go_enter func5, ntmps5
 go_upto_region 1 with fail
 rw [<- hW, <- hB]
 clear hW hB
 go_wp2_with fail
 refine (szFabric_t X a1 _ c1 a2 _ c2 a3 _ c3 1048576 _ HH.out.1.1 HH.out.1.2.1 HH.out.1.2.2 (Nat.le_refl _)).mono ?_
 rintro e w1 ⟨rfl, b'⟩
 rw [<- HH.out.2.2.2.1]
 have H1 : Hid (Below W.heap.size W w1 /\ Blk w1 B 30 (xfL X a1 X.set.n c1 a2 X.op.m c2 a3 X.nl c3).toArray) := ⟨b', H0.out.2.below b'⟩
 clear b' H0 y0 y1 y2 y3 y4 y5 y6 y7 y8 y9 y10
 have y0 : w1.cell? ⟨B, 0, none⟩ = some (.int .i64 X.nw) := H1.out.2.cell 0 rfl
 have y1 : w1.cell? ⟨B, 1, none⟩ = some (.int .i64 X.set.wt) := H1.out.2.cell 1 rfl
 have y2 : w1.cell? ⟨B, 2, none⟩ = some (.int .i64 X.set.tr) := H1.out.2.cell 2 rfl
 have y3 : w1.cell? ⟨B, 3, none⟩ = some (.slice a1 X.set.n c1) := H1.out.2.cell 3 rfl
 have y4 : w1.cell? ⟨B, 4, none⟩ = some (.int .i64 X.op.nx) := H1.out.2.cell 4 rfl
 have y5 : w1.cell? ⟨B, 5, none⟩ = some (.slice a2 X.op.m c2) := H1.out.2.cell 5 rfl
 have y6 : w1.cell? ⟨B, 6, none⟩ = some (.slice a3 X.nl c3) := H1.out.2.cell 6 rfl
 have y7 : w1.cell? ⟨B, 7, none⟩ = some (.int .i64 X.sk) := H1.out.2.cell 7 rfl
 have y8 : w1.cell? ⟨B, 8, none⟩ = some (.int .i64 X.re) := H1.out.2.cell 8 rfl
 have y9 : w1.cell? ⟨B, 9, none⟩ = some (.int .i64 X.fa) := H1.out.2.cell 9 rfl
 have y10 : w1.cell? ⟨B, 10, none⟩ = some (.int .i64 X.se) := H1.out.2.cell 10 rfl
 go_wp2_with fail
 refine (toFabric_t X a1 _ c1 a2 _ c2 a3 _ c3 _ (HH.out.1.1.below H1.out.1) (HH.out.1.2.1.below H1.out.1) (HH.out.1.2.2.below H1.out.1) HH.out.2.1).mono ?_
 rintro e w2 ⟨g1, d1, g2, d2, g3, d3, rfl, R2_1, R2_2, R2_3, b'⟩
 have H2 : Hid (Below W.heap.size W w2 /\ Blk w2 B 30 (xfL X a1 X.set.n c1 a2 X.op.m c2 a3 X.nl c3).toArray /\ Rd w2 0 (.list 7 X.set.n (fun i => trs (xrT (X.set.f i)))) (.slice g1 X.set.n d1) /\ Rd w2 0 (.list 13 X.op.m (fun i => trs (dT (X.op.f i)))) (.slice g2 X.op.m d2) /\ Rd w2 0 (.list 17 X.nl (fun i => trs (xnT (X.lf i)))) (.slice g3 X.nl d3)) := ⟨bel_nx H1.out.1 b', H1.out.2.below b', R2_1.mono (Nat.zero_le _), R2_2.mono (Nat.zero_le _), R2_3.mono (Nat.zero_le _)⟩
 clear b' H1 R2_1 R2_2 R2_3 y0 y1 y2 y3 y4 y5 y6 y7 y8 y9 y10
 go_wp2_with fail
 refine (specLoad_any X g1 d1 g2 d2 g3 d3 _ (VF.back H2.out.2.2.1 H2.out.2.2.2.1 H2.out.2.2.2.2) HH.out.2.2.1).mono ?_
 rintro e w3 ⟨rfl, b'⟩
 rw [<- HO.out]
 have H3 : Hid (Below W.heap.size W w3 /\ Blk w3 B 30 (xfL X a1 X.set.n c1 a2 X.op.m c2 a3 X.nl c3).toArray) := ⟨bel_nx H2.out.1 b', H2.out.2.1.below b'⟩
 clear b' H2
 have y0 : w3.cell? ⟨B, 0, none⟩ = some (.int .i64 X.nw) := H3.out.2.cell 0 rfl
 have y1 : w3.cell? ⟨B, 1, none⟩ = some (.int .i64 X.set.wt) := H3.out.2.cell 1 rfl
 have y2 : w3.cell? ⟨B, 2, none⟩ = some (.int .i64 X.set.tr) := H3.out.2.cell 2 rfl
 have y3 : w3.cell? ⟨B, 3, none⟩ = some (.slice a1 X.set.n c1) := H3.out.2.cell 3 rfl
 have y4 : w3.cell? ⟨B, 4, none⟩ = some (.int .i64 X.op.nx) := H3.out.2.cell 4 rfl
 have y5 : w3.cell? ⟨B, 5, none⟩ = some (.slice a2 X.op.m c2) := H3.out.2.cell 5 rfl
 have y6 : w3.cell? ⟨B, 6, none⟩ = some (.slice a3 X.nl c3) := H3.out.2.cell 6 rfl
 have y7 : w3.cell? ⟨B, 7, none⟩ = some (.int .i64 X.sk) := H3.out.2.cell 7 rfl
 have y8 : w3.cell? ⟨B, 8, none⟩ = some (.int .i64 X.re) := H3.out.2.cell 8 rfl
 have y9 : w3.cell? ⟨B, 9, none⟩ = some (.int .i64 X.fa) := H3.out.2.cell 9 rfl
 have y10 : w3.cell? ⟨B, 10, none⟩ = some (.int .i64 X.se) := H3.out.2.cell 10 rfl
 go_wp2_with fail
 refine (toFabric_t X a1 _ c1 a2 _ c2 a3 _ c3 _ (HH.out.1.1.below H3.out.1) (HH.out.1.2.1.below H3.out.1) (HH.out.1.2.2.below H3.out.1) HH.out.2.1).mono ?_
 rintro e w4 ⟨p1, q1, p2, q2, p3, q3, rfl, R4_1, R4_2, R4_3, b'⟩
 obtain ⟨D, hD⟩ : ∃ D, D = w4.heap.size := ⟨_, rfl⟩
 obtain ⟨W5, hW5⟩ : ∃ W5, W5 = w4.alloc (.cells #[.int .i64 X.nw, .int .i64 X.set.wt, .int .i64 X.set.tr, .slice p1 X.set.n q1, .int .i64 X.op.nx, .slice p2 X.op.m q2, .slice p3 X.nl q3, .int .i64 X.sk, .int .i64 X.re, .int .i64 X.fa, .int .i64 X.se] 41) := ⟨_, rfl⟩
 have H5 : Hid (Below W.heap.size W W5 /\ Blk W5 B 30 (xfL X a1 X.set.n c1 a2 X.op.m c2 a3 X.nl c3).toArray /\ Blk W5 D 41 (xfL X p1 X.set.n q1 p2 X.op.m q2 p3 X.nl q3).toArray /\ Rd W5 0 (.list 7 X.set.n (fun i => trs (xrT (X.set.f i)))) (.slice p1 X.set.n q1) /\ Rd W5 0 (.list 13 X.op.m (fun i => trs (dT (X.op.f i)))) (.slice p2 X.op.m q2) /\ Rd W5 0 (.list 17 X.nl (fun i => trs (xnT (X.lf i)))) (.slice p3 X.nl q3)) := by
  have b5 : Below w4.heap.size w4 W5 := by rw [hW5]; exact bel_alloc w4 _
  have k5 : Blk W5 D 41 (xfL X p1 X.set.n q1 p2 X.op.m q2 p3 X.nl q3).toArray := by
   rw [hW5, hD]
   exact Blk.new w4 _ _
  exact ⟨bel_nx (bel_nx H3.out.1 b') b5, (H3.out.2.below b').below b5, k5, (R4_1.mono (Nat.zero_le _)).below b5, (R4_2.mono (Nat.zero_le _)).below b5, (R4_3.mono (Nat.zero_le _)).below b5⟩
 clear b' H3 R4_1 R4_2 R4_3 y0 y1 y2 y3 y4 y5 y6 y7 y8 y9 y10
 go_upto_region 7 with fail
 rw [<- hW5, <- hD]
 clear hW5 hD
 have y0 : W5.cell? ⟨D, 0, none⟩ = some (.int .i64 X.nw) := H5.out.2.2.1.cell 0 rfl
 have y1 : W5.cell? ⟨D, 1, none⟩ = some (.int .i64 X.set.wt) := H5.out.2.2.1.cell 1 rfl
 have y2 : W5.cell? ⟨D, 2, none⟩ = some (.int .i64 X.set.tr) := H5.out.2.2.1.cell 2 rfl
 have y3 : W5.cell? ⟨D, 3, none⟩ = some (.slice p1 X.set.n q1) := H5.out.2.2.1.cell 3 rfl
 have y4 : W5.cell? ⟨D, 4, none⟩ = some (.int .i64 X.op.nx) := H5.out.2.2.1.cell 4 rfl
 have y5 : W5.cell? ⟨D, 5, none⟩ = some (.slice p2 X.op.m q2) := H5.out.2.2.1.cell 5 rfl
 have y6 : W5.cell? ⟨D, 6, none⟩ = some (.slice p3 X.nl q3) := H5.out.2.2.1.cell 6 rfl
 have y7 : W5.cell? ⟨D, 7, none⟩ = some (.int .i64 X.sk) := H5.out.2.2.1.cell 7 rfl
 have y8 : W5.cell? ⟨D, 8, none⟩ = some (.int .i64 X.re) := H5.out.2.2.1.cell 8 rfl
 have y9 : W5.cell? ⟨D, 9, none⟩ = some (.int .i64 X.fa) := H5.out.2.2.1.cell 9 rfl
 have y10 : W5.cell? ⟨D, 10, none⟩ = some (.int .i64 X.se) := H5.out.2.2.1.cell 10 rfl
 go_wp2_with fail
 refine (implLoad_any X p1 q1 p2 q2 p3 q3 _ (VF.back H5.out.2.2.2.1 H5.out.2.2.2.2.1 H5.out.2.2.2.2.2) HH.out.2.2.1).mono ?_
 rintro e w6 ⟨rfl, b'⟩
 rw [<- HO.out]
 have H6 : Hid (Below W.heap.size W w6 /\ Blk w6 B 30 (xfL X a1 X.set.n c1 a2 X.op.m c2 a3 X.nl c3).toArray /\ Blk w6 D 41 (xfL X p1 X.set.n q1 p2 X.op.m q2 p3 X.nl q3).toArray /\ Rd w6 0 (.list 7 X.set.n (fun i => trs (xrT (X.set.f i)))) (.slice p1 X.set.n q1) /\ Rd w6 0 (.list 13 X.op.m (fun i => trs (dT (X.op.f i)))) (.slice p2 X.op.m q2) /\ Rd w6 0 (.list 17 X.nl (fun i => trs (xnT (X.lf i)))) (.slice p3 X.nl q3)) := ⟨bel_nx H5.out.1 b', H5.out.2.1.below b', H5.out.2.2.1.below b', H5.out.2.2.2.1.below b', H5.out.2.2.2.2.1.below b', H5.out.2.2.2.2.2.below b'⟩
 clear b' H5 y0 y1 y2 y3 y4 y5 y6 y7 y8 y9 y10
 have ebb : (ok == ok) = true := by simp
 have ebn : (ok != ok) = false := by simp
 go_upto_region 10 with fail
 clear ebb ebn
 refine wp_region_any (by kernel_rfl) ?_
 refine wpAny_vals (fun u => Below w6.heap.size w6 u) (fun i v u => match i with
  | 0 => v = .agg (xfL X p1 X.set.n q1 p2 X.op.m q2 p3 X.nl q3).toArray
  | 1 => v = .agg (xfL X a1 X.set.n c1 a2 X.op.m c2 a3 X.nl c3).toArray
  | 2 => ∃ k1 j1 k2 j2 k3 j3, v = .agg (xfL X k1 X.set.n j1 k2 X.op.m j2 k3 X.nl j3).toArray /\ Rd u 0 (.list 7 X.set.n (fun i => trs (xrT (X.set.f i)))) (.slice k1 X.set.n j1) /\ Rd u 0 (.list 13 X.op.m (fun i => trs (dT (X.op.f i)))) (.slice k2 X.op.m j2) /\ Rd u 0 (.list 17 X.nl (fun i => trs (xnT (X.lf i)))) (.slice k3 X.nl j3)
  | 3 => v = .bool true
  | 4 => v = .bool false
  | _ => True) (by kernel_rfl) (by kernel_rfl) ?_ (by first | exact Below.refl _ _ | exact (Below.refl _ _).drew) ?_ ?_ _ _ rfl (by decide) (fun i => by simp [Array.getD]; try (split <;> rfl))
 ·intro i v u u' h hb
  match i with
  | 0 => exact h
  | 1 => exact h
  | 2 =>
   obtain ⟨k1, j1, k2, j2, k3, j3, e, hl⟩ := h
   exact ⟨k1, j1, k2, j2, k3, j3, e, hl.1.below hb, hl.2.1.below hb, hl.2.2.below hb⟩
  | 3 => exact h
  | 4 => exact h
  | _ + 5 => trivial
 ·intro vs u hR hall
  have e4 : vs 4 = .bool false := hall 4 (by simp)
  simp only [putsL]
  rw [e4]
  clear hall e4
  have HB : Hid (Below w.heap.size w u) := bel_nx (bel_nx HH.out.2.2.2.2 H6.out.1) hR
  clear H6 hR
  go_simp
  go_wp2
  go_ret
  exact ⟨rfl, HB.out⟩
 intro u i o ρ hR ho hρ hc hf hd
 have hi : i < 5 := by
  have := (Array.getElem?_eq_some_iff.1 ho).1
  simpa using this
 obtain rfl | rfl | rfl | rfl | rfl : i = 0 \/ i = 1 \/ i = 2 \/ i = 3 \/ i = 4 := by omega
 all_goals (simp only [List.getElem?_toArray, List.getElem?_cons_zero, List.getElem?_cons_succ, Option.some.injEq] at ho; subst ho)
 ·exact yr (run_load_op rfl (hρ 5 (by kernel_rfl)) (run_loadAt_mid u D 0 41 (xfL X p1 X.set.n q1 p2 X.op.m q2 p3 X.nl q3) _ (H6.out.2.2.1.below hR).rng underlying41 rfl (by kernel_rfl))) rfl hR
 ·exact yr (run_load_op rfl (hρ 1 (by kernel_rfl)) (run_loadAt_mid u B 0 30 (xfL X a1 X.set.n c1 a2 X.op.m c2 a3 X.nl c3) _ (H6.out.2.1.below hR).rng underlying30 rfl (by kernel_rfl))) rfl hR
 ·have h1 : ρ (.tmp 23) = .agg (xfL X a1 X.set.n c1 a2 X.op.m c2 a3 X.nl c3).toArray := dq hd 1 23
  refine .inl ⟨rfl, .inr ⟨_, _, run_call_op rfl (hf _) (args := #[.agg (xfL X a1 X.set.n c1 a2 X.op.m c2 a3 X.nl c3).toArray]) (by simp [h1]) (by kernel_rfl), ?_⟩⟩
  refine (toFabric_t X a1 _ c1 a2 _ c2 a3 _ c3 _ (HH.out.1.1.below (bel_nx H6.out.1 hR)) (HH.out.1.2.1.below (bel_nx H6.out.1 hR)) (HH.out.1.2.2.below (bel_nx H6.out.1 hR)) HH.out.2.1).mono ?_
  rintro e u' ⟨k1, j1, k2, j2, k3, j3, he, P7_1, P7_2, P7_3, b'⟩
  exact ⟨_, he, ⟨k1, j1, k2, j2, k3, j3, rfl, P7_1.mono (Nat.zero_le _), P7_2.mono (Nat.zero_le _), P7_3.mono (Nat.zero_le _)⟩, bel_nx hR b', b'⟩
 ·have h0 : ρ (.tmp 22) = .agg (xfL X p1 X.set.n q1 p2 X.op.m q2 p3 X.nl q3).toArray := dq hd 0 22
  obtain ⟨k1, j1, k2, j2, k3, j3, hv, hl⟩ : ∃ k1 j1 k2 j2 k3 j3, ρ (.tmp 24) = .agg (xfL X k1 X.set.n j1 k2 X.op.m j2 k3 X.nl j3).toArray /\ Rd u 0 (.list 7 X.set.n (fun i => trs (xrT (X.set.f i)))) (.slice k1 X.set.n j1) /\ Rd u 0 (.list 13 X.op.m (fun i => trs (dT (X.op.f i)))) (.slice k2 X.op.m j2) /\ Rd u 0 (.list 17 X.nl (fun i => trs (xnT (X.lf i)))) (.slice k3 X.nl j3) := dq hd 2 24
  refine .inl ⟨rfl, .inr ⟨_, _, run_call_op rfl (hf _) (args := #[.agg (xfL X p1 X.set.n q1 p2 X.op.m q2 p3 X.nl q3).toArray, .agg (xfL X k1 X.set.n j1 k2 X.op.m j2 k3 X.nl j3).toArray]) (by simp [h0, hv]) (by kernel_rfl), ?_⟩⟩
  refine (eqFabric_t X p1 _ q1 p2 _ q2 p3 _ q3 k1 j1 k2 j2 k3 j3 _ (H6.out.2.2.2.1.below hR) (H6.out.2.2.2.2.1.below hR) (H6.out.2.2.2.2.2.below hR) hl.1 hl.2.1 hl.2.2 HH.out.2.1).mono ?_
  rintro e u' ⟨he, b'⟩
  exact ⟨_, he, rfl, bel_nx hR b', b'⟩
 have h3 : ρ (.tmp 25) = .bool true := dq hd 3 25
 exact yr (run_un_op rfl h3 (by go_simp)) rfl hR
end Go.Proofs.YtplaoagcedgdfaaGreat
