/- Texts that the proof needs, joined: Jn1 Apd Jn2 Jn3 Jn4 Jn5 JnA Pt4 Pt8 Pt11. -/
import Derived.Test.YtegckbfbmbiogaaV7
import Derived.Test.YtegckbfbmbiogaaV18
import Derived.Test.YtegckbfbmbiogaaV5
import Derived.Deep.Upon
import Derived.Test.YtegckbfbmbiogaaV1
import Derived.Lib.AppendZeros
import Derived.Lib.MinMax
import Derived.Lib.AppendZerosOnto
import Derived.Deep.RegionHeld3
import Derived.Test.YtegckbfbmbiogaaV12
namespace Go.Proofs.Ytegckbfbmbiogaa
open Go.RowKit Go.Joins
set_option linter.unusedVariables false
set_option linter.unusedSimpArgs false
def suP (P : Pa) (x : An) : Bool := suB P.kd P.pl P.n P.wa P.ws.length P.bs.length P.ws P.bs x.kd x.fl x.pl x.nn x.ws.length x.bs.length x.ws x.bs
def AllS (Ps : List Pa) (A : Nat → An) (k : Nat) : Prop := ∀ j, j < k → suP (Ps.getD j default) (A j) = true
set_option maxRecDepth 20000 in
set_option maxHeartbeats 2000000 in
theorem wereTold_any (a : Option Addr) (n cap base : Nat) (Ps : List Pa) (at' : Option Addr) (m cap' : Nat) (A : Nat → An) (w : World) (hn : n = Ps.length) (h : OwnPs w base (.slice a n cap) Ps) (h' : SlA w at' m A) (hn8 : n ≤ 1000) (hm : m ≤ 1000) (hP : ∀ k, k < n → (Ps.getD k default).ws.length ≤ 2000 ∧ (Ps.getD k default).bs.length ≤ 2000) (hA : ∀ k, k < m → (A k).ws.length ≤ 2000000 ∧ (A k).bs.length ≤ 2000000) (b : Bool) (hb : b = true ↔ (0 < n ∧ m = n ∧ AllS Ps A n)) :
    Calls Try.prog 54 #[.slice a n cap, .slice at' m cap'] w fun e w' => e = .returned (.bool b) ∧ Below w.heap.size w w' := by
  have HS : Hid (OwnPs w base (.slice a n cap) Ps ∧ SlA w at' m A ∧ (∀ k, k < n → (Ps.getD k default).ws.length ≤ 2000 ∧ (Ps.getD k default).bs.length ≤ 2000) ∧ (∀ k, k < m → (A k).ws.length ≤ 2000000 ∧ (A k).bs.length ≤ 2000000) ∧ (b = true ↔ (0 < n ∧ m = n ∧ AllS Ps A n)) ∧ n = Ps.length) := ⟨h, h', hP, hA, hb, hn⟩
  clear h h' hP hA hb hn
  by_cases h0 : n = 0
  · have d0 : ((n : Int) == 0) = true := by subst h0; rfl
    have hno : b = false := by cases b with | false => rfl | true => (have := (HS.out.2.2.2.2.1.1 rfl).1; omega)
    subst hno
    clear h0
    go_enter Try.func54, Try.ntmps54
    go_wp2
    go_ret
    exact ⟨rfl, Below.refl _ _⟩
  · have d0 : ((n : Int) == 0) = false := by simp; omega
    by_cases hmn : m = n
    · have dm : ((m : Int) == (n : Int)) = true := by subst hmn; simp
      obtain rfl := hmn
      go_enter Try.func54, Try.ntmps54
      go_wp2
      go_loopw [19] (fun i wr => ∃ z : Nat, z ≤ m ∧ i = .int .i64 z ∧ AllS Ps A z ∧ Below w.heap.size w wr) (fun i _ => m - (intOf i).toNat)
      case atStart => exact ⟨0, Nat.zero_le _, rfl, fun j hj => by omega, Below.refl _ _⟩
      case round =>
        obtain ⟨z, hz, rfl, hall, hbl⟩ := hrel
        have HA : Hid (AllS Ps A z) := hall
        clear hall
        by_cases hlt : z < m
        · have hi : (z : Int) < (m : Int) := by omega
          obtain ⟨g, off, b1, b2, d1, d2, rfl, i0, i1, i2, i3, i4, i5, i6, i7, si1, si2⟩ := (HS.out.1.below hbl).at (k := z) (by have := HS.out.2.2.2.2.2; omega)
          obtain ⟨g', off', a1, a2, c1, c2, rfl, j0, j1, j2, j3, j4, j5, sj1, sj2, sj3, sj4⟩ := (HS.out.2.1.below hbl).at hlt
          obtain ⟨P, hP⟩ : ∃ P, P = Ps.getD z default := ⟨_, rfl⟩
          obtain ⟨x, hx⟩ : ∃ x, x = A z := ⟨_, rfl⟩
          rw [← hP] at i0 i1 i2 i3 i4 i5 i6 i7 si1 si2
          rw [← hx] at j0 j1 j2 j3 j4 j5 sj1 sj2 sj3 sj4
          obtain ⟨t1, ht1⟩ : ∃ t1, t1 = P.ws.length := ⟨_, rfl⟩
          obtain ⟨t2, ht2⟩ : ∃ t2, t2 = P.bs.length := ⟨_, rfl⟩
          obtain ⟨l1, hl1⟩ : ∃ l1, l1 = x.ws.length := ⟨_, rfl⟩
          obtain ⟨l2, hl2⟩ : ∃ l2, l2 = x.bs.length := ⟨_, rfl⟩
          rw [← ht1] at i5
          rw [← ht2] at i6
          rw [← hl1] at j4 sj3
          rw [← hl2] at j5 sj4
          obtain ⟨gB, hgB⟩ : ∃ gB, gB = wr.heap.size := ⟨_, rfl⟩
          obtain ⟨U, hU⟩ : ∃ U, U = wr.alloc (.cells #[.int .i64 P.p, .int .i64 P.t, .int .i64 P.kd, .int .i64 P.pl, .int .i64 P.n, .slice b1 t1 d1, .slice b2 t2 d2, .int .i64 P.wa] 37) := ⟨_, rfl⟩
          have bU : Below wr.heap.size wr U := by rw [hU]; exact bel_alloc _ _
          have hbb : ∀ (bk o : Nat), wr.cell? ⟨bk, o, none⟩ ≠ none → bk < wr.heap.size := fun bk o hc => by
            by_cases e : bk < wr.heap.size
            · exact e
            · exfalso; apply hc; simp [World.cell?, Array.getElem?_eq_none (Nat.le_of_not_lt e)]
          have hg' : g' < wr.heap.size := hbb g' (off' + z * 6) (by rw [j0]; simp)
          have HU : Hid (Below w.heap.size w U ∧ Blk U gB 37 #[.int .i64 P.p, .int .i64 P.t, .int .i64 P.kd, .int .i64 P.pl, .int .i64 P.n, .slice b1 t1 d1, .slice b2 t2 d2, .int .i64 P.wa] ∧ SlI U b1 P.ws ∧ SlB U b2 P.bs ∧ SlI U a1 x.ws ∧ SlB U a2 x.bs ∧ t1 = P.ws.length ∧ t2 = P.bs.length ∧ l1 = x.ws.length ∧ l2 = x.bs.length ∧ l2 ≤ c2 ∧ P.ws.length ≤ 2000 ∧ P.bs.length ≤ 2000 ∧ x.ws.length ≤ 2000000 ∧ x.bs.length ≤ 2000000 ∧ P = Ps.getD z default ∧ x = A z) := ⟨bel_next hbl bU, by rw [hU, hgB]; exact Blk.new wr _ _, si1.below bU, si2.below bU, sj1.below bU, sj2.below bU, ht1, ht2, hl1, hl2, sj4, by rw [hP]; exact (HS.out.2.2.1 z hlt).1, by rw [hP]; exact (HS.out.2.2.1 z hlt).2, by rw [hx]; exact (HS.out.2.2.2.1 z hlt).1, by rw [hx]; exact (HS.out.2.2.2.1 z hlt).2, hP, hx⟩
          have k0 := (bU.cell (p := ⟨g', off' + z * 6, none⟩) hg').trans j0
          have k1 := (bU.cell (p := ⟨g', off' + z * 6 + 1, none⟩) hg').trans j1
          have k2 := (bU.cell (p := ⟨g', off' + z * 6 + 2, none⟩) hg').trans j2
          have k3 := (bU.cell (p := ⟨g', off' + z * 6 + 3, none⟩) hg').trans j3
          have k4 := (bU.cell (p := ⟨g', off' + z * 6 + 4, none⟩) hg').trans j4
          have k5 := (bU.cell (p := ⟨g', off' + z * 6 + 5, none⟩) hg').trans j5
          clear si1 si2 sj1 sj2 sj3 sj4 hP hx ht1 ht2 hl1 hl2 bU hbl hbb
          go_upto_region 6 with fail
          rw [← hU, ← hgB]
          clear hU hgB i0 i1 i2 i3 i4 i5 i6 i7 j0 j1 j2 j3 j4 j5 hg'
          have y2 := HU.out.2.1.cell 2 rfl
          have y3 := HU.out.2.1.cell 3 rfl
          have y4 := HU.out.2.1.cell 4 rfl
          have y5 := HU.out.2.1.cell 5 rfl
          have y6 := HU.out.2.1.cell 6 rfl
          have y7 := HU.out.2.1.cell 7 rfl
          go_region_with (go_at_call 21; refine (implSuits_q P.kd x.kd x.fl P.pl P.n P.wa b1 b2 t1 t2 d1 d2 P.ws P.bs x.pl x.nn a1 a2 l1 l2 c1 c2 x.ws x.bs _ HU.out.2.2.2.2.2.2.1 HU.out.2.2.2.2.2.2.2.1 (HU.out.2.2.1.below (by first | exact Below.refl _ _ | exact (Below.refl _ _).drew | exact (Below.refl _ _).drew.drew)) (HU.out.2.2.2.1.below (by first | exact Below.refl _ _ | exact (Below.refl _ _).drew | exact (Below.refl _ _).drew.drew)) (by have := HU.out; omega) (by have := HU.out; omega) HU.out.2.2.2.2.2.2.2.2.1 HU.out.2.2.2.2.2.2.2.2.2.1 (HU.out.2.2.2.2.1.below (by first | exact Below.refl _ _ | exact (Below.refl _ _).drew | exact (Below.refl _ _).drew.drew)) (HU.out.2.2.2.2.2.1.below (by first | exact Below.refl _ _ | exact (Below.refl _ _).drew | exact (Below.refl _ _).drew.drew)) (by have := HU.out; omega) (by have := HU.out; omega) HU.out.2.2.2.2.2.2.2.2.2.2.1).mono ?_; rintro e w1 ⟨he, b1'⟩; have B1 : Below w.heap.size w w1 := bel_next HU.out.1 (bel_next (by first | exact Below.refl _ _ | exact (Below.refl _ _).drew | exact (Below.refl _ _).drew.drew) b1'); clear b1'; obtain ⟨sb, hsb⟩ : ∃ sb : Bool, sb = suP (Ps.getD z default) (A z) := ⟨_, rfl⟩; have he2 : e = .returned (.bool sb) := (by rw [he, hsb]; unfold suP; rw [← HU.out.2.2.2.2.2.2.2.2.2.2.2.2.2.2.2.1, ← HU.out.2.2.2.2.2.2.2.2.2.2.2.2.2.2.2.2, ← HU.out.2.2.2.2.2.2.1, ← HU.out.2.2.2.2.2.2.2.1, ← HU.out.2.2.2.2.2.2.2.2.1, ← HU.out.2.2.2.2.2.2.2.2.2.1]); subst he2; have HSB : Hid (sb = suP (Ps.getD z default) (A z)) := hsb; clear he hsb)
          all_goals (
            clear y2 y3 y4 y5 y6 y7 k0 k1 k2 k3 k4 k5 HU
            cases sb with
            | true =>
              go_wp2
              go_roundw
              case rel => exact ⟨z + 1, by omega, by go_num, fun j hj => (by by_cases e9 : j = z; (subst e9; exact HSB.out.symm); (exact HA.out j (by omega))), B1⟩
              case measure => simp [intOf]; omega
            | false =>
              have hno : b = false := by cases b with | false => rfl | true => (have h9 := (HS.out.2.2.2.2.1.1 rfl).2.2 z hlt; rw [← HSB.out] at h9; cases h9)
              subst hno
              go_wp2
              go_ret
              exact ⟨rfl, B1⟩)
        · have hi : ¬ (z : Int) < (m : Int) := by omega
          have hyes : b = true := HS.out.2.2.2.2.1.2 ⟨by omega, (by first | rfl | trivial), fun j hj => HA.out j (by omega)⟩
          subst hyes
          go_wp2
          go_ret
          exact ⟨rfl, hbl⟩
    · have dm : ((m : Int) == (n : Int)) = false := by simp; omega
      have hno : b = false := by cases b with | false => rfl | true => (have := (HS.out.2.2.2.2.1.1 rfl).2.1; omega)
      subst hno
      clear hmn
      go_enter Try.func54, Try.ntmps54
      go_wp2
      go_ret
      exact ⟨rfl, Below.refl _ _⟩
end Go.Proofs.Ytegckbfbmbiogaa
namespace Go.Proofs.Ytegckbfbmbiogaa
open Go.RowKit
set_option linter.unusedVariables false
set_option linter.unusedSimpArgs false
theorem ints_none {w : World} {ys : List Int} (h : SlI w none ys) : ys = [] := by
  cases ys with
  | nil => rfl
  | cons y r => obtain ⟨b, off, e, _⟩ := cell_atI (k := 0) h (by simp); simp at e
theorem bools_none {w : World} {ys : List Bool} (h : SlB w none ys) : ys = [] := by
  cases ys with
  | nil => rfl
  | cons y r => obtain ⟨b, off, e, _⟩ := cell_atB (k := 0) h (by simp); simp at e
theorem wpList_appIO {w : World} {ops : Array Oper} {rest : List Oper} {o : Oper} {a : Act} {Q : Exit → Act → World → Prop} (hgd : o.guard = none) (s x : Operand)
    (ho : o.op = .call { callee := .builtin .append, args := #[s, x], argTypes := #[25, 25] }) (base : Nat) (v : Value) (zs : List Int) (hs : a.eval s = v) (hown : OwnI w base v zs)
    (ad : Option Addr) (m c : Nat) (ys : List Int) (hx : a.eval x = .slice ad m c) (hm : m = ys.length) (hsl : SlI w ad ys) (hlen : zs.length + ys.length ≤ 4000000) (hbase : base ≤ w.heap.size)
    (h : ∀ v' w', OwnI w' base v' (zs ++ ys) → w.grownBy w' v.ownBlock → wpList Try.prog ops Q rest (a.put o.dst v') w') : wpList Try.prog ops Q (o :: rest) a w := by
  cases ad with
  | some ad => exact wpList_appI hgd s x ho base v zs hs hown ad m c ys hx hm hsl hlen hbase h
  | none =>
    obtain rfl := ints_none hsl
    obtain rfl : m = 0 := hm
    obtain ⟨i0, hi, hz0, hz1, hz2⟩ := info_parts Try.infoQ3
    have hgo : ∀ (sa : Option Addr) (sn sc : Nat), sn ≤ sc → v = .slice sa sn sc → wpList Try.prog ops Q (o :: rest) a w := by
      rintro sa sn sc hcap rfl
      exact Lib.wpList_append_run _ hgd s x _ _ ho _ _ hs hx _ _ (run_append_nothing w 25 25 o.type 3 i0 Try.underlying25 hi sa sn sc hcap _ (Src.ofNil w Try.underlying25 c)) (h _ w (by simpa using hown) ⟨rfl, rfl, rfl, Nat.le_refl _, fun _ _ _ => rfl⟩)
    rcases hown.2 with ⟨e, _⟩ | ⟨g, cap', cur, hv, _, hh, h3, _⟩
    · exact hgo _ _ _ (Nat.le_refl 0) e
    · exact hgo _ _ _ h3 hv
theorem boolCells {w : World} {ad : Addr} {ys : List Bool} (h : SlB w (some ad) ys) : ∀ j u, (ys.map Value.bool)[j]? = some u → w.cell? (ad.add j) = some u := by
  intro j u hu
  rw [List.getElem?_map] at hu
  by_cases hj : j < ys.length
  · obtain ⟨b, off, e, _, hc⟩ := cell_atB h hj
    simp at e
    subst e
    rw [List.getElem?_eq_getElem hj] at hu
    simp at hu
    subst hu
    have : ys.getD j false = ys[j] := by simp [List.getD_eq_getElem?_getD, hj]
    rw [this] at hc
    by_cases h0 : j = 0
    · subst h0; simpa [Addr.add] using hc
    · simpa [Addr.add, h0] using hc
  · rw [List.getElem?_eq_none (by omega)] at hu; simp at hu
theorem wpList_appBO {w : World} {ops : Array Oper} {rest : List Oper} {o : Oper} {a : Act} {Q : Exit → Act → World → Prop} (hgd : o.guard = none) (s x : Operand)
    (ho : o.op = .call { callee := .builtin .append, args := #[s, x], argTypes := #[26, 26] }) (base : Nat) (v : Value) (zs : List Bool) (hs : a.eval s = v) (hown : OwnB w base v zs)
    (ad : Option Addr) (m c : Nat) (ys : List Bool) (hx : a.eval x = .slice ad m c) (hm : m = ys.length) (hsl : SlB w ad ys) (hlen : zs.length + ys.length ≤ 4000000) (hbase : base ≤ w.heap.size)
    (h : ∀ v' w', OwnB w' base v' (zs ++ ys) → w.grownBy w' v.ownBlock → wpList Try.prog ops Q rest (a.put o.dst v') w') : wpList Try.prog ops Q (o :: rest) a w := by
  obtain ⟨i0, hi, hz0, hz1, hz2⟩ := info_parts Try.info4
  cases ad with
  | some ad =>
    subst hm
    have hml : zs.length + ys.length ≤ maxLen := by unfold maxLen; omega
    refine wpList_append_own _ hgd s x 26 ho base 4 i0 (.bool false) 1 1 Try.underlying26 hi hz0 hz1 hz2 rfl (by decide) v zs.length (zs.map Value.bool) hs hown ad ys.length c (ys.map Value.bool) hx (by simp) (boolCells hsl) (by intro u hu; obtain ⟨y, _, rfl⟩ := List.mem_map.mp hu; rfl) hml (by omega) hbase ?_
    intro v' w' o' g' _
    exact h v' w' (by simpa [OwnB] using o') g'
  | none =>
    obtain rfl := bools_none hsl
    obtain rfl : m = 0 := hm
    have hgo : ∀ (sa : Option Addr) (sn sc : Nat), sn ≤ sc → v = .slice sa sn sc → wpList Try.prog ops Q (o :: rest) a w := by
      rintro sa sn sc hcap rfl
      exact Lib.wpList_append_run _ hgd s x _ _ ho _ _ hs hx _ _ (run_append_nothing w 26 26 o.type 4 i0 Try.underlying26 hi sa sn sc hcap _ (Src.ofNil w Try.underlying26 c)) (h _ w (by simpa using hown) ⟨rfl, rfl, rfl, Nat.le_refl _, fun _ _ _ => rfl⟩)
    rcases hown.2 with ⟨e, _⟩ | ⟨g, cap', cur, hv, _, hh, h3, _⟩
    · exact hgo _ _ _ (Nat.le_refl 0) e
    · exact hgo _ _ _ h3 hv
theorem newI (u : World) (base : Nat) (hb : base ≤ u.heap.size) : OwnI (u.alloc (.cells #[] 3)) base (.slice (some ⟨u.heap.size, 0, none⟩) 0 0) [] := ⟨rfl, .inr ⟨u.heap.size, 0, #[], rfl, hb, Blk.new u #[] 3, by simp, by simp, rfl, rfl⟩⟩
theorem newB (u : World) (base : Nat) (hb : base ≤ u.heap.size) : OwnB (u.alloc (.cells #[] 4)) base (.slice (some ⟨u.heap.size, 0, none⟩) 0 0) [] := ⟨rfl, .inr ⟨u.heap.size, 0, #[], rfl, hb, Blk.new u #[] 4, by simp, by simp, rfl, rfl⟩⟩
theorem ownB_shape {w : World} {base : Nat} {v : Value} {zs : List Bool} (h : OwnB w base v zs) : ∃ a c n, v = .slice a n c ∧ n = zs.length := by
  obtain ⟨_, h2⟩ := h
  rcases h2 with ⟨hv, h3⟩ | ⟨g, cap, cur, hv, hg, hh, _⟩
  · exact ⟨none, 0, 0, hv, h3.symm⟩
  · exact ⟨_, cap, _, hv, rfl⟩
theorem ownI_shape2 {w : World} {base : Nat} {v : Value} {zs : List Int} (h : OwnI w base v zs) : ∃ a c n, v = .slice a n c ∧ n = zs.length := by
  obtain ⟨_, h2⟩ := h
  rcases h2 with ⟨hv, h3⟩ | ⟨g, cap, cur, hv, hg, hh, _⟩
  · exact ⟨none, 0, 0, hv, h3.symm⟩
  · exact ⟨_, cap, _, hv, rfl⟩
end Go.Proofs.Ytegckbfbmbiogaa
namespace Go.Proofs.Ytegckbfbmbiogaa
open Go.RowKit Go.Joins
set_option linter.unusedVariables false
set_option linter.unusedSimpArgs false
def jW (A : Nat → An) (n : Nat) : List Int := (List.range n).flatMap (fun k => (A k).ws)
theorem jW_succ (A : Nat → An) (n : Nat) : jW A (n + 1) = jW A n ++ (A n).ws := by
  unfold jW
  rw [List.range_succ, List.flatMap_append]
  simp
theorem jW_len (A : Nat → An) (m : Nat) (h : ∀ k, k < m → (A k).ws.length ≤ 2000) : ∀ n, n ≤ m → (jW A n).length ≤ n * 2000
  | 0, _ => by simp [jW]
  | n + 1, hn => by
    have := jW_len A m h n (by omega)
    have := h n (by omega)
    rw [jW_succ, List.length_append]
    omega
set_option maxRecDepth 20000 in
set_option maxHeartbeats 2000000 in
theorem joinedWords_any (a : Option Addr) (n cap : Nat) (A : Nat → An) (w : World) (h : SlA w a n A) (hn : n ≤ 1000) (hA : ∀ k, k < n → (A k).ws.length ≤ 2000) :
    Calls Try.prog 105 #[.slice a n cap] w fun e w' => ∃ v, e = .returned v ∧ OwnI w' w.heap.size v (jW A n) ∧ Below w.heap.size w w' := by
  have HS : Hid (SlA w a n A ∧ ∀ k, k < n → (A k).ws.length ≤ 2000) := ⟨h, hA⟩
  clear h hA
  have H0 : Hid (OwnI (w.alloc (.cells #[] 3)) w.heap.size (.slice (some ⟨w.heap.size, 0, none⟩) 0 0) (jW A 0) ∧ Below w.heap.size w (w.alloc (.cells #[] 3))) := ⟨by simpa [jW] using newI w w.heap.size (Nat.le_refl _), bel_alloc _ _⟩
  go_enter Try.func105, Try.ntmps105
  go_wp2
  go_loopw [3, 9] (fun v i wr => ∃ (z : Nat) (va : Option Addr) (vn vc : Nat), z ≤ n ∧ i = .int .i64 z ∧ v = .slice va vn vc ∧ OwnI wr w.heap.size (.slice va vn vc) (jW A z) ∧ Below w.heap.size w wr) (fun _ i _ => n - (intOf i).toNat)
  case atStart => exact ⟨0, _, _, _, Nat.zero_le _, rfl, rfl, H0.out.1, H0.out.2⟩
  case round =>
    clear H0
    obtain ⟨z, va, vn, vc, hz, rfl, rfl, hO, hbl⟩ := hrel
    have HO : Hid (OwnI wr w.heap.size (.slice va vn vc) (jW A z) ∧ Below w.heap.size w wr) := ⟨hO, hbl⟩
    clear hO hbl
    by_cases hlt : z < n
    · have hi : (z : Int) < (n : Int) := by omega
      obtain ⟨b, off, a1, a2, c1, c2, rfl, h0, h1, h2, h3, h4, h5, s1, s2, _, _⟩ := (HS.out.1.below HO.out.2).at hlt
      obtain ⟨x, hx⟩ : ∃ x, x = A z := ⟨_, rfl⟩
      rw [← hx] at h0 h1 h2 h3 h4 h5 s1 s2
      obtain ⟨l1, hl1⟩ : ∃ l1, l1 = x.ws.length := ⟨_, rfl⟩
      obtain ⟨l2, hl2⟩ : ∃ l2, l2 = x.bs.length := ⟨_, rfl⟩
      rw [← hl1] at h4
      rw [← hl2] at h5
      obtain ⟨gB, hgB⟩ : ∃ gB, gB = wr.heap.size := ⟨_, rfl⟩
      obtain ⟨U, hU⟩ : ∃ U, U = wr.alloc (.cells #[.int .i64 x.kd, .int .i64 x.fl, .int .i64 x.pl, .int .i64 x.nn, .slice a1 l1 c1, .slice a2 l2 c2] 49) := ⟨_, rfl⟩
      have bU : Below wr.heap.size wr U := by rw [hU]; exact bel_alloc _ _
      have hle := jW_len A n HS.out.2 z hz
      have HU : Hid (Below w.heap.size w U ∧ Blk U gB 49 #[.int .i64 x.kd, .int .i64 x.fl, .int .i64 x.pl, .int .i64 x.nn, .slice a1 l1 c1, .slice a2 l2 c2] ∧ OwnI U w.heap.size (.slice va vn vc) (jW A z) ∧ SlI U a1 x.ws ∧ l1 = x.ws.length ∧ x = A z ∧ x.ws.length ≤ 2000 ∧ (jW A z).length ≤ 2000000) := ⟨bel_next HO.out.2 bU, by rw [hU, hgB]; exact Blk.new wr _ _, HO.out.1.below bU, s1.below bU, hl1, hx, by rw [hx]; exact HS.out.2 z hlt, by have : z * 2000 ≤ 1000 * 2000 := Nat.mul_le_mul_right _ (by omega); omega⟩
      clear s1 s2 hx hl1 hl2 bU HO hle
      go_upto_region 5 with fail
      rw [← hU, ← hgB]
      clear hU hgB h0 h1 h2 h3 h4 h5
      have y4 := HU.out.2.1.cell 4 rfl
      go_wp2_with (at_builtin; refine wpList_appIO rfl (.tmp 13) (.tmp 15) rfl w.heap.size (.slice va vn vc) (jW A z) rfl HU.out.2.2.1 a1 l1 c1 x.ws rfl HU.out.2.2.2.2.1 HU.out.2.2.2.1 (by have := HU.out; omega) HU.out.1.size ?_; intro v' w2 O2 g2; have H2 : Hid (OwnI w2 w.heap.size v' (jW A (z + 1)) ∧ Below w.heap.size w w2) := ⟨by rw [jW_succ, ← HU.out.2.2.2.2.2.1]; exact O2, HU.out.1.grown g2 HU.out.1.size (fun k hk => (World.ownsRow.lt HU.out.2.2.1 k hk).1)⟩; clear O2 g2; obtain ⟨va2, vc2, vn2, hv2, hn2⟩ := ownI_shape2 H2.out.1; clear hn2; subst hv2)
      go_roundw
      case rel => exact ⟨z + 1, va2, vn2, vc2, by omega, by go_num, rfl, H2.out.1, H2.out.2⟩
      case measure => simp [intOf]; omega
    · have hi : ¬ (z : Int) < (n : Int) := by omega
      have ez : z = n := by omega
      subst ez
      go_wp2
      refine bodyPost_ret (v := .slice va vn vc) (by simp [results, Try.results105, go_sem]) rfl ⟨_, rfl, HO.out.1, HO.out.2⟩
end Go.Proofs.Ytegckbfbmbiogaa
namespace Go.Proofs.Ytegckbfbmbiogaa
open Go.RowKit Go.Joins
set_option linter.unusedVariables false
set_option linter.unusedSimpArgs false
theorem step_appBO {ops : Array Oper} {o : Oper} {a : Act} {w : World} {K : Act → World → Prop} {Q : Exit → Act → World → Prop} {E : Prop} (hgd : o.guard = none) (s x : Operand)
    (ho : o.op = .call { callee := .builtin .append, args := #[s, x], argTypes := #[26, 26] }) (base : Nat) (v : Value) (zs : List Bool) (hs : a.eval s = v) (hown : OwnB w base v zs)
    (ad : Option Addr) (m c : Nat) (ys : List Bool) (hx : a.eval x = .slice ad m c) (hm : m = ys.length) (hsl : SlB w ad ys) (hlen : zs.length + ys.length ≤ 4000000) (hbase : base ≤ w.heap.size)
    (h : ∀ v' w', OwnB w' base v' (zs ++ ys) → w.grownBy w' v.ownBlock → K (a.put o.dst v') w') : if Region.wanted o (yielded ops a.tmps) = true then Oper.wp Try.prog o a w K Q else E := by
  obtain ⟨i0, hi, hz0, hz1, hz2⟩ := info_parts Try.info4
  cases ad with
  | some ad =>
    subst hm
    have hml : zs.length + ys.length ≤ maxLen := by unfold maxLen; omega
    refine step_append_own hgd s x 26 ho base 4 i0 (.bool false) 1 1 Try.underlying26 hi hz0 hz1 hz2 rfl (by decide) v zs.length (zs.map Value.bool) hs hown ad ys.length c (ys.map Value.bool) hx (by simp) (boolCells hsl) (by intro u hu; obtain ⟨y, _, rfl⟩ := List.mem_map.mp hu; rfl) hml (by omega) hbase ?_
    intro v' w' o' g'
    exact h v' w' (by simpa [OwnB] using o') g'
  | none =>
    obtain rfl := bools_none hsl
    obtain rfl : m = 0 := hm
    have hw : Region.wanted o (yielded ops a.tmps) = true := by simp [Region.wanted, hgd]
    rw [if_pos hw]
    have hgo : ∀ (sa : Option Addr) (sn sc : Nat), sn ≤ sc → v = .slice sa sn sc → Oper.wp Try.prog o a w K Q := by
      rintro sa sn sc hcap rfl
      have hr := run_append_nothing w 26 26 o.type 4 i0 Try.underlying26 hi sa sn sc hcap _ (Src.ofNil w Try.underlying26 c)
      have h9 := h _ w (by simpa using hown) ⟨rfl, rfl, rfl, Nat.le_refl _, fun _ _ _ => rfl⟩
      unfold Oper.wp
      simp [execOp, ho, resolve, invoke, builtin, hs, hx, hr, Result.andThen]
      exact h9
    rcases hown.2 with ⟨e, _⟩ | ⟨g, cap', cur, hv, _, hh, h3, _⟩
    · exact hgo _ _ _ (Nat.le_refl 0) e
    · exact hgo _ _ _ h3 hv
end Go.Proofs.Ytegckbfbmbiogaa
namespace Go.Proofs.Ytegckbfbmbiogaa
open Go.RowKit Go.Joins
set_option linter.unusedVariables false
set_option linter.unusedSimpArgs false
theorem zeroCellsB (k : Nat) : Builtin.zeroCells #[Value.bool false] k = (List.replicate k (Value.bool false)).toArray := by
  apply Array.ext
  · simp [Builtin.zeroCells]
  · intro i h1 h2
    simp [Builtin.zeroCells, Nat.mod_one]
theorem run_zeros_own (w : World) (base : Nat) (ty : TypeId) (v : Value) (zs : List Bool) (k : Nat) (hown : OwnB w base v zs) (hlen : zs.length + k ≤ 4000000) (hbase : base ≤ w.heap.size) :
    ∃ v' w', (Builtin.append_ #[26, 3] ty #[v, .int .i64 (k : Int)]).run Try.prog w = .ok v' w' ∧ OwnB w' base v' (zs ++ List.replicate k false) ∧ w.grownBy w' v.ownBlock := by
  obtain ⟨i, hi, hz, hsize, hby⟩ := info_parts Try.info4
  have ht := Try.underlying26
  have htn := Try.underlying3
  have hw : IntKind.i64.wrap (k : Int) = k := by rw [IntKind.wrap_i64]; omega
  have hneg : ¬ ((k : Int) < 0) := by omega
  have hw0 : IntKind.i64.wrap 0 = 0 := by rw [IntKind.wrap_i64]; omega
  have h48i : ¬ (281474976710656 < (k : Int) * (i.bytes : Int)) := by rw [hby]; omega
  have hmap : (zs ++ List.replicate k false).map Value.bool = zs.map Value.bool ++ List.replicate k (Value.bool false) := by simp
  have hlen2 : ((zs ++ List.replicate k false).map Value.bool).length = (zs ++ List.replicate k false).length * 1 := by simp
  rcases hown.2 with ⟨rfl, h0⟩ | ⟨g, cap, cur, rfl, hbg, hg, hnc, hcm, hcs, htake⟩
  · have hzs : zs = [] := List.eq_nil_of_length_eq_zero h0
    subst hzs
    by_cases hk : k = 0
    · subst hk
      refine ⟨.slice none 0 0, w, ?_, by simpa using hown, ⟨rfl, rfl, rfl, Nat.le_refl _, fun _ _ _ => rfl⟩⟩
      simp [Builtin.append_, run_underlying ht, run_underlying htn, sizeOf, typeInfo, hi, asInt, asIntOf, hw0]
    · have hr := Lib.run_append_nil_zeros (P := Try.prog) w 26 3 ty 4 i (.bool false) .i64 .i64 ht htn hi hz k (by omega) (by rw [hsize]; decide) (by omega) (by rw [hby]; omega)
      refine ⟨_, _, hr, ⟨hlen2, .inr ⟨w.heap.size, _, _, by simp; rfl, hbase, heap_alloc_new w.drew _, ?_, grownCap_le_maxLen w k 0 _ (by unfold maxLen; omega), ?_, ?_⟩⟩, ⟨rfl, rfl, rfl, by simp, fun j hj _ => heap_alloc_old w.drew _ hj⟩⟩
      · simpa using grownCap_ge w k 0 4
      · have := grownCap_ge w k 0 4
        simp [Builtin.zeroCells, Value.cells]
        omega
      · show List.take _ _ = _
        rw [hmap]
        simp [zeroCellsB, Value.cells]
        try rw [List.take_left' (by simp)]
  · by_cases hroom : zs.length + k ≤ cap
    · by_cases hk : k = 0
      · subst hk
        refine ⟨.slice (some ⟨g, 0, none⟩) zs.length cap, w, ?_, by simpa using hown, ⟨rfl, rfl, rfl, Nat.le_refl _, fun _ _ _ => rfl⟩⟩
        simp [Builtin.append_, run_underlying ht, run_underlying htn, sizeOf, typeInfo, hi, asInt, asIntOf, hw0, hnc, storeCells]
      · have hst := run_storeCells_at Try.prog g (zs.length * 1) 4 (List.replicate k (Value.bool false)) 0 cur w hg (by simp; omega) (fun u hu => by rw [List.eq_of_mem_replicate hu]; rfl)
        simp only [Nat.add_zero] at hst
        have hns : ¬ (k * i.size = 0) := by rw [hsize]; omega
        have hr : (Builtin.append_ #[26, 3] ty #[.slice (some ⟨g, 0, none⟩) zs.length cap, .int .i64 (k : Int)]).run Try.prog w = .ok (.slice (some ⟨g, 0, none⟩) (zs.length + k) cap) (w.setRow g (cur.toList.take (zs.length * 1) ++ List.replicate k (Value.bool false) ++ cur.toList.drop (zs.length * 1 + (List.replicate k (Value.bool false)).length)).toArray) := by
          simp [Builtin.append_, run_underlying ht, run_underlying htn, sizeOf, typeInfo, zeroValue, hi, hz, asInt, asIntOf, hw, hneg, hns, h48i, hroom, Addr.add_lit, hsize, zeroCellsB, Value.cells] at hst ⊢
          first | exact hst | (simp [hst]; intro e; exact absurd e hk) | simp [hst] | (rw [if_neg hk]; simp [hst])
        refine ⟨_, _, hr, ⟨hlen2, .inr ⟨g, cap, _, by simp, hbg, setRow_heap w g cur _ _ _ hg, by simp; omega, hcm, ?_, ?_⟩⟩, ⟨rfl, rfl, rfl, by simp, fun j _ hj => setRow_other w g j _ (fun e => hj (by simp [Value.ownBlock, e]))⟩⟩
        · simp only [List.size_toArray, List.length_append, List.length_take, List.length_drop, Array.length_toList, List.length_replicate]
          omega
        · rw [htake, hmap]
          show List.take _ _ = _
          rw [← hmap, ← hlen2, hmap]
          exact List.take_left
    · have hold : (Builtin.firstCells i.size zs.length (.slice (some ⟨g, 0, none⟩) zs.length cap)).run Try.prog w.drew = .ok (zs.map Value.bool).toArray w.drew := by
        have h9 := run_firstCells_some (P := Try.prog) w.drew i.size zs.length ⟨g, 0, none⟩ zs.length cap (zs.map Value.bool) (by rw [hsize]; simp) (fun j u hj => World.ownsRow.cells hown (g := g) rfl j u hj)
        exact h9
      have hr := Lib.run_append_grow_zeros (P := Try.prog) w 26 3 ty 4 i (.bool false) .i64 .i64 ht htn hi hz (some ⟨g, 0, none⟩) zs.length cap (zs.map Value.bool) hold k (by omega) (by rw [hsize]; decide) (by omega) (by omega) (by rw [hby]; omega) (growslice_fits (by omega) (by rw [hby]; omega))
      refine ⟨_, _, hr, ⟨hlen2, .inr ⟨w.heap.size, _, _, by simp; rfl, hbase, heap_alloc_new w.drew _, ?_, grownCap_le_maxLen w _ _ _ (by unfold maxLen; omega), ?_, ?_⟩⟩, ⟨rfl, rfl, rfl, by simp, fun j hj _ => heap_alloc_old w.drew _ hj⟩⟩
      · simpa using grownCap_ge w (zs.length + k) cap 4
      · have := grownCap_ge w (zs.length + k) cap 4
        simp [Builtin.zeroCells, Value.cells]
        omega
      · show List.take _ _ = _
        rw [hmap]
        simp [zeroCellsB, Value.cells]
        rw [List.take_append]
        simp
        exact List.take_of_length_le (by simp)
end Go.Proofs.Ytegckbfbmbiogaa
namespace Go.Proofs.Ytegckbfbmbiogaa
open Go.RowKit Go.Joins
set_option linter.unusedVariables false
set_option linter.unusedSimpArgs false
def jB (Ps : List Pa) (A : Nat → An) (n : Nat) : List Bool := (List.range n).flatMap (fun k => (A k).bs.take (Ps.getD k default).n.toNat)
theorem jB_succ (Ps : List Pa) (A : Nat → An) (n : Nat) : jB Ps A (n + 1) = jB Ps A n ++ (A n).bs.take (Ps.getD n default).n.toNat := by
  unfold jB
  rw [List.range_succ, List.flatMap_append]
  simp
theorem jB_len (Ps : List Pa) (A : Nat → An) (m : Nat) (h : ∀ k, k < m → (A k).bs.length ≤ 2000) : ∀ n, n ≤ m → (jB Ps A n).length ≤ n * 2000
  | 0, _ => by simp [jB]
  | n + 1, hn => by
    have := jB_len Ps A m h n (by omega)
    have := h n (by omega)
    rw [jB_succ, List.length_append, List.length_take]
    omega
theorem slB_take {w : World} {a : Option Addr} {zs : List Bool} (h : SlB w a zs) (k : Nat) : SlB w a (zs.take k) := by
  rcases h with h | ⟨b, off, e, hb, hc⟩
  · rw [h]; exact .inl (by simp)
  · refine .inr ⟨b, off, e, hb, fun i hi => ?_⟩
    simp at hi
    rw [hc i (by omega), List.getD_eq_getElem?_getD, List.getD_eq_getElem?_getD, List.getElem?_take, if_pos (by omega)]
set_option maxRecDepth 20000 in
set_option maxHeartbeats 2000000 in
theorem joinedBits_any (a : Option Addr) (n cap base : Nat) (Ps : List Pa) (at' : Option Addr) (cap' : Nat) (A : Nat → An) (w : World) (hn : n = Ps.length) (h : OwnPs w base (.slice a n cap) Ps) (h' : SlA w at' n A) (hn8 : n ≤ 1000) (hP : ∀ k, k < n → 0 ≤ (Ps.getD k default).n ∧ (Ps.getD k default).n ≤ 2000) (hA : ∀ k, k < n → (A k).bs.length ≤ 2000) :
    Calls Try.prog 104 #[.slice a n cap, .slice at' n cap'] w fun e w' => ∃ v, e = .returned v ∧ OwnB w' w.heap.size v (jB Ps A n ++ List.replicate (8 * (((jB Ps A n).length + 7) / 8) - (jB Ps A n).length) false) ∧ Below w.heap.size w w' := by
  have HS : Hid (OwnPs w base (.slice a n cap) Ps ∧ SlA w at' n A ∧ (∀ k, k < n → 0 ≤ (Ps.getD k default).n ∧ (Ps.getD k default).n ≤ 2000) ∧ (∀ k, k < n → (A k).bs.length ≤ 2000) ∧ n = Ps.length) := ⟨h, h', hP, hA, hn⟩
  have H0 : Hid (OwnB (w.alloc (.cells #[] 4)) w.heap.size (.slice (some ⟨w.heap.size, 0, none⟩) 0 0) (jB Ps A 0) ∧ Below w.heap.size w (w.alloc (.cells #[] 4))) := ⟨by simpa [jB] using newB w w.heap.size (Nat.le_refl _), bel_alloc _ _⟩
  clear h h' hP hA hn
  go_enter Try.func104, Try.ntmps104
  go_wp2
  go_loopw [5, 11] (fun v i wr => ∃ (z : Nat) (va : Option Addr) (vn vc : Nat), z ≤ n ∧ i = .int .i64 z ∧ v = .slice va vn vc ∧ OwnB wr w.heap.size (.slice va vn vc) (jB Ps A z) ∧ Below w.heap.size w wr) (fun _ i _ => n - (intOf i).toNat)
  case atStart => exact ⟨0, _, _, _, Nat.zero_le _, rfl, rfl, H0.out.1, H0.out.2⟩
  case round =>
    clear H0
    obtain ⟨z, va, vn, vc, hz, rfl, rfl, hO, hbl⟩ := hrel
    have HO : Hid (OwnB wr w.heap.size (.slice va vn vc) (jB Ps A z) ∧ Below w.heap.size w wr) := ⟨hO, hbl⟩
    have hle := jB_len Ps A n HS.out.2.2.2.1 z hz
    have hle2 : (jB Ps A z).length ≤ 2000000 := by have : z * 2000 ≤ 1000 * 2000 := Nat.mul_le_mul_right _ (by omega); omega
    clear hO hbl hle
    by_cases hlt : z < n
    · have hi : (z : Int) < (n : Int) := by omega
      obtain ⟨b, off, a1, a2, c1, c2, rfl, h0, h1, h2, h3, h4, h5, s1, s2, _, s4⟩ := (HS.out.2.1.below HO.out.2).at hlt
      obtain ⟨g, off', _, _, _, _, rfl, _, _, _, _, i4, _⟩ := HS.out.1.at (k := z) (by have := HS.out.2.2.2.2; omega)
      obtain ⟨x, hx⟩ : ∃ x, x = A z := ⟨_, rfl⟩
      obtain ⟨pn, hpn⟩ : ∃ pn, pn = (Ps.getD z default).n := ⟨_, rfl⟩
      rw [← hx] at h0 h1 h2 h3 h4 h5 s1 s2 s4
      rw [← hpn] at i4
      obtain ⟨l1, hl1⟩ : ∃ l1, l1 = x.ws.length := ⟨_, rfl⟩
      obtain ⟨l2, hl2⟩ : ∃ l2, l2 = x.bs.length := ⟨_, rfl⟩
      rw [← hl1] at h4
      rw [← hl2] at h5 s4
      obtain ⟨kk, hkk⟩ : ∃ kk : Nat, min pn (l2 : Int) = (kk : Int) := ⟨(min pn (l2 : Int)).toNat, by have := HS.out.2.2.1 z hlt; rw [← hpn] at this; omega⟩
      have hP9 := HS.out.2.2.1 z hlt
      have hA9 := HS.out.2.2.2.1 z hlt
      rw [← hpn] at hP9
      rw [← hx, ← hl2] at hA9
      obtain ⟨gB, hgB⟩ : ∃ gB, gB = wr.heap.size := ⟨_, rfl⟩
      obtain ⟨U, hU⟩ : ∃ U, U = wr.alloc (.cells #[.int .i64 x.kd, .int .i64 x.fl, .int .i64 x.pl, .int .i64 x.nn, .slice a1 l1 c1, .slice a2 l2 c2] 49) := ⟨_, rfl⟩
      have bU : Below wr.heap.size wr U := by rw [hU]; exact bel_alloc _ _
      have hg : g < w.heap.size := by
        by_cases e : g < w.heap.size
        · exact e
        · exfalso; simp [World.cell?, Array.getElem?_eq_none (Nat.le_of_not_lt e)] at i4
      have HK4 : Hid (∀ u, Below w.heap.size w u → u.cell? ⟨g, off' + z * 8 + 4, none⟩ = some (.int .i64 pn)) := fun u hu => (hu.cell (p := ⟨g, off' + z * 8 + 4, none⟩) hg).trans i4
      have HU : Hid (Below w.heap.size w U ∧ Blk U gB 49 #[.int .i64 x.kd, .int .i64 x.fl, .int .i64 x.pl, .int .i64 x.nn, .slice a1 l1 c1, .slice a2 l2 c2] ∧ OwnB U w.heap.size (.slice va vn vc) (jB Ps A z) ∧ SlB U a2 (x.bs.take kk) ∧ kk = (x.bs.take kk).length ∧ jB Ps A (z + 1) = jB Ps A z ++ x.bs.take kk ∧ kk ≤ 2000 ∧ (jB Ps A z).length ≤ 2000000) := ⟨bel_next HO.out.2 bU, by rw [hU, hgB]; exact Blk.new wr _ _, HO.out.1.below bU, slB_take (s2.below bU) kk, by rw [List.length_take]; omega, by
        rw [jB_succ, ← hx, ← hpn]
        congr 1
        by_cases e : pn ≤ (l2 : Int)
        · rw [show pn.toNat = kk by omega]
        · rw [List.take_of_length_le (by omega), List.take_of_length_le (by omega)], by omega, hle2⟩
      have i1 : (kk : Int) ≤ (c2 : Int) := by omega
      have i2 : (0 : Int) ≤ (kk : Int) := by omega
      have i3 : kk ≤ c2 := by omega
      have hmn : min pn (l2 : Int) = (kk : Int) := hkk
      clear s1 s2 s4 hx hpn hl1 hl2 bU HO hP9 hA9 hle2 i4
      go_upto_region 5 with fail
      rw [← hU, ← hgB]
      clear hU hgB h0 h1 h2 h3 h4 h5 hkk hg
      have y5 := HU.out.2.1.cell 5 rfl
      have k4 := HK4.out U HU.out.1
      have dz : Below U.heap.size U U.drew := (Below.refl _ _).drew
      go_region_held3 (fun w' => w'.cell? ⟨gB, 5, none⟩ = some (.slice a2 l2 c2) ∧ w'.cell? ⟨g, off' + z * 8 + 4, none⟩ = some (.int .i64 pn)) (go_keep)
        (first | (refine step_appBO rfl (.tmp 16) (.tmp 29) rfl w.heap.size (.slice va vn vc) (jB Ps A z) rfl (by first | exact HU.out.2.2.1 | exact HU.out.2.2.1.below dz) a2 kk c2 (x.bs.take kk) rfl HU.out.2.2.2.2.1 (by first | exact HU.out.2.2.2.1 | exact HU.out.2.2.2.1.below dz) (by have := HU.out.2.2.2.2.1; have := HU.out.2.2.2.2.2.2; omega) (by first | exact HU.out.1.size | exact Nat.le_trans HU.out.1.size dz.size) ?_; intro v2 w2 O2 g2; have H2 : Hid (OwnB w2 w.heap.size v2 (jB Ps A (z + 1)) ∧ Below w.heap.size w w2 ∧ Blk w2 gB 49 #[.int .i64 x.kd, .int .i64 x.fl, .int .i64 x.pl, .int .i64 x.nn, .slice a1 l1 c1, .slice a2 l2 c2]) := ⟨(by rw [HU.out.2.2.2.2.2.1]; exact O2), (by first | exact HU.out.1.grown g2 HU.out.1.size (fun k hk => (World.ownsRow.lt HU.out.2.2.1 k hk).1) | exact (bel_next HU.out.1 dz).grown g2 (bel_next HU.out.1 dz).size (fun k hk => (World.ownsRow.lt HU.out.2.2.1 k hk).1)), (by first | exact HU.out.2.1.grown g2 (row_noBlk HU.out.2.2.1 HU.out.2.1 (by decide)) | exact (HU.out.2.1.below dz).grown g2 (row_noBlk HU.out.2.2.1 HU.out.2.1 (by decide)))⟩; clear O2 g2; obtain ⟨va2, vc2, vn2, hv2, hn2⟩ := ownB_shape H2.out.1; clear hn2; subst hv2; have z5 := H2.out.2.2.cell 5 rfl; have z4 := HK4.out w2 H2.out.2.1))
      all_goals (
        go_wp2
        go_roundw
        case rel => exact ⟨z + 1, va2, vn2, vc2, by omega, by go_num, rfl, H2.out.1, H2.out.2.1⟩
        case measure => simp [intOf]; omega)
    · have hi : ¬ (z : Int) < (n : Int) := by omega
      have ez : z = n := by omega
      subst ez
      obtain ⟨L, hL⟩ : ∃ L, L = (jB Ps A z).length := ⟨_, rfl⟩
      obtain ⟨vnn, hvn⟩ : ∃ x, x = vn := ⟨_, rfl⟩
      have hvL : vn = L := by rw [hL]; exact HO.out.1.sl.1
      subst hvL
      obtain ⟨q, hq⟩ : ∃ q : Nat, q = 8 * ((vn + 7) / 8) - vn := ⟨_, rfl⟩
      have HQ : Hid (vn = (jB Ps A z).length ∧ q = 8 * ((vn + 7) / 8) - vn ∧ vn ≤ 2000000) := ⟨hL, hq, by omega⟩
      have m1 : IntKind.i64.wrap (8 * (((vn : Int) + 7) / 8)) = 8 * (((vn : Int) + 7) / 8) := by have := HQ.out; rw [IntKind.wrap_i64]; omega
      have m2 : IntKind.i64.wrap (8 * (((vn : Int) + 7) / 8) - (vn : Int)) = (q : Int) := by have := HQ.out; rw [IntKind.wrap_i64]; omega
      clear hL hvn hq
      go_wp2_with fail
      refine (bytesFor_any (vn : Int) _ (by omega) (by have := HQ.out; omega)).mono ?_
      rintro e w3 ⟨rfl, hw3⟩
      have hw3' := hw3.symm
      clear hw3
      subst hw3'
      obtain ⟨v4, w4, hr, O4, g4⟩ := run_zeros_own wr w.heap.size 26 (.slice va vn vc) (jB Ps A z) q HO.out.1 (by have := HQ.out; omega) HO.out.2.size
      have H4 : Hid (OwnB w4 w.heap.size v4 (jB Ps A z ++ List.replicate (8 * (((jB Ps A z).length + 7) / 8) - (jB Ps A z).length) false) ∧ Below w.heap.size w w4) := ⟨by rw [← HQ.out.1, ← HQ.out.2.1]; exact O4, HO.out.2.grown g4 HO.out.2.size (fun k hk => (World.ownsRow.lt HO.out.1 k hk).1)⟩
      have HR := hide hr
      clear O4 g4 hr
      go_wp2_with (at_builtin; refine Lib.wpList_append_run _ rfl (.tmp 32) (.tmp 39) _ _ rfl _ _ rfl rfl _ _ HR.out ?_)
      refine bodyPost_ret (v := v4) (by simp [results, Try.results104, go_sem]) rfl ⟨_, rfl, H4.out.1, H4.out.2⟩
end Go.Proofs.Ytegckbfbmbiogaa
namespace Go.Proofs.Ytegckbfbmbiogaa
open Go.RowKit Go.Joins
set_option linter.unusedVariables false
set_option linter.unusedSimpArgs false
theorem ffF_snocK (A : Nat → An) (n : Nat) : ∀ d k, n - k = d → k ≤ n → ffF A (n + 1) k = if ffF A n k = 0 then (A n).fl else ffF A n k
  | 0, k, hd, hk => by
    obtain rfl : k = n := by omega
    rw [ffF_end (Nat.lt_irrefl _), if_pos rfl]
    by_cases h : (A k).fl = 0
    · rw [ffF_miss (by omega) h, ffF_end (by omega), h]
    · rw [ffF_hit (by omega) h]
  | d + 1, k, hd, hk => by
    have hlt : k < n := by omega
    by_cases h : (A k).fl = 0
    · rw [ffF_miss (by omega) h, ffF_miss hlt h]
      exact ffF_snocK A n d (k + 1) (by omega) (by omega)
    · rw [ffF_hit (by omega) h, ffF_hit hlt h, if_neg h]
theorem ffF_snoc (A : Nat → An) (n : Nat) : ffF A (n + 1) 0 = if ffF A n 0 = 0 then (A n).fl else ffF A n 0 := ffF_snocK A n n 0 (by omega) (by omega)
theorem suP_ok {P : Pa} {x : An} (h : suP P x = true) : okR P.kd P.pl P.n P.wa P.ws P.ws.length P.bs.length = true ∧ okA x.kd x.fl x.pl x.nn x.ws x.ws.length x.bs.length = true ∧ P.kd = x.kd ∧ (x.fl = 0 → anB P.kd P.pl P.n P.ws.length P.bs.length P.ws P.bs x.pl x.nn x.ws.length x.bs.length x.ws x.bs = true) := by
  unfold suP suB at h
  simp only [Bool.and_eq_true, Bool.or_eq_true, decide_eq_true_eq, Bool.not_eq_true', decide_eq_false_iff_not] at h
  exact ⟨h.1, h.2.1, h.2.2.1, fun e => by rcases h.2.2.2 with h9 | h9; (exact absurd e h9); (exact h9)⟩
theorem zr4_ffff {pl nn : Int} {l1 l2 : Nat} (h : zr4 false false false false pl nn l1 l2 = true) : l1 = 0 ∧ l2 = 0 := by
  unfold zr4 at h
  simp only [Bool.and_eq_true, Bool.or_eq_true, decide_eq_true_eq, Bool.false_or, Bool.false_eq_true, false_or] at h
  omega
theorem suP_fault {P : Pa} {x : An} (h : suP P x = true) : 0 ≤ x.fl ∧ x.fl ≤ 255 ∧ (0 < x.fl → x.ws = [] ∧ x.bs = []) := by
  have h2 := (suP_ok h).2.1
  unfold okA at h2
  simp only [Bool.and_eq_true] at h2
  have h3 := inB_yes h2.2.1
  refine ⟨h3.1, h3.2, fun hp => ?_⟩
  have h4 := h2.2.2.2.2
  rw [if_pos hp] at h4
  have h5 := zr4_ffff h4
  exact ⟨List.eq_nil_of_length_eq_zero h5.1, List.eq_nil_of_length_eq_zero h5.2⟩
theorem suP_words {P : Pa} {x : An} (h : suP P x = true) (hk : P.kd = 1 ∨ P.kd = 2) : x.ws = [] := by
  have h2 := (suP_ok h).2.1
  have h3 := (suP_ok h).2.2.1
  by_cases hp : 0 < x.fl
  · exact ((suP_fault h).2.2 hp).1
  · unfold okA at h2
    simp only [Bool.and_eq_true] at h2
    have h4 := h2.2.2.2.2
    rw [if_neg hp] at h4
    unfold okAK at h4
    rw [if_pos (by omega)] at h4
    unfold zr4 at h4
    simp only [Bool.and_eq_true, Bool.or_eq_true, decide_eq_true_eq, Bool.false_or, Bool.false_eq_true, false_or] at h4
    apply List.eq_nil_of_length_eq_zero
    omega
theorem suP_bits {P : Pa} {x : An} (h : suP P x = true) (hc : ¬ P.n ≤ (x.bs.length : Int)) : x.bs = [] := by
  obtain ⟨h1, h2, h3, h4⟩ := suP_ok h
  by_cases hp : 0 < x.fl
  · exact ((suP_fault h).2.2 hp).2
  · have hf : x.fl = 0 := by have := suP_fault h; omega
    have h5 := h4 hf
    unfold okA at h2
    simp only [Bool.and_eq_true] at h2
    have h6 := h2.2.2.2.2
    rw [if_neg hp] at h6
    unfold okR at h1
    simp only [Bool.and_eq_true] at h1
    have h7 := h1.2.2
    apply List.eq_nil_of_length_eq_zero
    by_cases k1 : P.kd = 1 ∨ P.kd = 2
    · unfold anB at h5
      rw [if_pos k1] at h5
      simp only [Bool.and_eq_true, decide_eq_true_eq] at h5
      omega
    · by_cases k3 : P.kd = 3 ∨ P.kd = 4 ∨ P.kd = 23
      · unfold okAK at h6
        rw [if_neg (by omega), if_pos (by omega)] at h6
        unfold zr4 at h6
        simp only [Bool.and_eq_true, Bool.or_eq_true, decide_eq_true_eq, Bool.false_or, Bool.false_eq_true, false_or] at h6
        omega
      · exfalso
        have hz : P.n = 0 := by
          unfold okK at h7
          rw [if_neg k1, if_neg (by omega)] at h7
          split at h7
          · unfold zrB at h7; simp at h7; omega
          · split at h7
            · unfold zrB at h7; simp at h7; omega
            · split at h7
              · unfold zrB at h7; simp at h7; omega
              · split at h7
                · unfold zrB at h7; simp at h7; omega
                · split at h7
                  · unfold zrB at h7; simp at h7; omega
                  · rw [if_neg (by omega)] at h7; cases h7
        omega
theorem jW_none {Ps : List Pa} {A : Nat → An} {n : Nat} (h : AllS Ps A n) (hk : ∀ k, k < n → (Ps.getD k default).kd = 1 ∨ (Ps.getD k default).kd = 2) : jW A n = [] := by
  unfold jW
  rw [List.flatMap_eq_nil_iff]
  intro k hm
  have := List.mem_range.mp hm
  exact suP_words (h k this) (hk k this)
def mB (kd : Int) (Ps : List Pa) (A : Nat → An) (n : Nat) : List Bool := if kd < 3 then jB Ps A n else []
theorem mB_same {kd : Int} {Ps : List Pa} {A : Nat → An} {n : Nat} (h : ¬ kd < 3 ∨ (A n).bs = []) : mB kd Ps A (n + 1) = mB kd Ps A n := by
  unfold mB
  by_cases e : kd < 3
  · rw [if_pos e, if_pos e, jB_succ]
    rcases h with h | h
    · exact absurd e h
    · rw [h]; simp
  · rw [if_neg e, if_neg e]
theorem mB_more {kd : Int} {Ps : List Pa} {A : Nat → An} {n : Nat} (h : kd < 3) : mB kd Ps A (n + 1) = mB kd Ps A n ++ (A n).bs.take (Ps.getD n default).n.toNat := by
  unfold mB
  rw [if_pos h, if_pos h, jB_succ]
theorem mB_len (kd : Int) (Ps : List Pa) (A : Nat → An) (m : Nat) (h : ∀ k, k < m → (A k).bs.length ≤ 2000) (n : Nat) (hn : n ≤ m) : (mB kd Ps A n).length ≤ n * 2000 := by
  unfold mB
  split
  · exact jB_len Ps A m h n hn
  · simp
theorem jW_same {A : Nat → An} {n : Nat} (h : (A n).ws = []) : jW A (n + 1) = jW A n := by rw [jW_succ, h]; simp
end Go.Proofs.Ytegckbfbmbiogaa
namespace Go.Proofs.Ytegckbfbmbiogaa
open Go.RowKit
set_option linter.unusedVariables false
set_option linter.unusedSimpArgs false
instance : Inhabited Rn := ⟨⟨⟨0, 0, 0, 0, 0, 0, 0⟩, 0, 0⟩⟩
abbrev prl (kd : Int) (x : Rn) : List Value := [.int .i64 x.r.p, .int .i64 x.r.t, .int .i64 kd, .int .i64 (x.at' + x.r.sh), .int .i64 x.n, .slice none 0 0, .slice none 0 0, .int .i64 0]
def PartsPost (w w' : World) (e : Ending) (f : Nat → Ru) (n : Nat) (un sp E c0 kd : Int) : Prop :=
  ∃ g l b, e = .returned (.tuple #[.slice (some ⟨g, 0, none⟩) l.length l.length, .bool b]) ∧ w.heap.size ≤ g ∧ RowS w' g 37 8 l.length (fun k => prl kd (l.getD k default)) ∧ l.length ≤ n ∧ RunsR f n un sp E c0 b l ∧ Below w.heap.size w w'
abbrev zpl : List Value := [.int .i64 0, .int .i64 0, .int .i64 0, .int .i64 0, .int .i64 0, .slice none 0 0, .slice none 0 0, .int .i64 0]
theorem Try.infoP37 : (Try.prog.info? 37).map (fun i => (i.zero, i.size, i.bytes)) = some (some (.agg zpl.toArray), 8, 96) := by kernel_rfl
end Go.Proofs.Ytegckbfbmbiogaa
namespace Go.Proofs.Ytegckbfbmbiogaa
open Go.RowKit
set_option linter.unusedVariables false
set_option linter.unusedSimpArgs false
def pcN (kd n : Int) : Int := if kd ≤ 4 then n else 0
def pcW (kd : Int) (fr N : Nat) (ws : List Int) : List Int := if kd = 6 ∨ kd = 16 then (ws.drop fr).take N else if kd = 22 then ws else []
def pcB (kd : Int) (fr N : Nat) (bs : List Bool) : List Bool := if kd = 5 ∨ kd = 15 then (bs.drop fr).take N else []
def pcOf (kd pl : Int) (ws : List Int) (bs : List Bool) (x : Rn) : Pa := ⟨x.r.p, x.r.t, kd, x.at' + x.r.sh, pcN kd x.n, 0, pcW kd (x.at' - pl).toNat x.n.toNat ws, pcB kd (x.at' - pl).toNat x.n.toNat bs⟩
def KdM (kd pl : Int) (ws : List Int) (bs : List Bool) (E : Int) : Prop :=
  (kd = 1 ∨ kd = 2 ∨ kd = 3 ∨ kd = 4) ∨ ((kd = 5 ∨ kd = 15) ∧ E ≤ pl + bs.length) ∨ ((kd = 6 ∨ kd = 16 ∨ kd = 22) ∧ E ≤ pl + ws.length)
def PartsPo (w w' : World) (e : Ending) (f : Nat → Ru) (n : Nat) (un sp E c0 kd : Int) (ws : List Int) (bs : List Bool) : Prop :=
  ∃ v l b, e = .returned (.tuple #[v, .bool b]) ∧ OwnPs w' w.heap.size v (l.map (pcOf kd c0 ws bs)) ∧ RunsR f n un sp E c0 b l ∧ Below w.heap.size w w'
theorem pt_getD {l : List Rn} {g : Rn → Pa} {k : Nat} (h : k < l.length) : (l.map g).getD k default = g (l.getD k default) := by
  rw [List.getD_eq_getElem?_getD, List.getElem?_map, List.getD_eq_getElem?_getD, List.getElem?_eq_getElem h]; rfl
end Go.Proofs.Ytegckbfbmbiogaa
namespace Go.Proofs.Ytegckbfbmbiogaa
open Go.RowKit Go.Joins
set_option linter.unusedVariables false
set_option linter.unusedSimpArgs false
def ReqPost (w w' : World) (e : Ending) (kd pl nn wa : Int) (ws : List Int) (bs : List Bool) : Prop :=
  ∃ r1 r2 l1 l2 c1 c2, e = .returned (.agg (rqc kd pl nn wa r1 r2 l1 l2 c1 c2)) ∧ l1 = ws.length ∧ l2 = bs.length ∧ OwnI w' w.heap.size (.slice r1 l1 c1) ws ∧ OwnB w' w.heap.size (.slice r2 l2 c2) bs ∧ Below w.heap.size w w'
theorem Blk.six2 {w : World} {g : Nat} {t : TypeId} {v0 v1 v2 v3 v4 v5 : Value} (h : Blk w g t #[v0, v1, v2, v3, v4, v5]) : (w.cell? ⟨g, 0, none⟩ = some v0 ∧ w.cell? ⟨g, 1, none⟩ = some v1 ∧ w.cell? ⟨g, 2, none⟩ = some v2 ∧ w.cell? ⟨g, 3, none⟩ = some v3 ∧ w.cell? ⟨g, 4, none⟩ = some v4 ∧ w.cell? ⟨g, 5, none⟩ = some v5) ∧ (w.frozen? ⟨g, 0, none⟩ = false ∧ w.frozen? ⟨g, 1, none⟩ = false ∧ w.frozen? ⟨g, 2, none⟩ = false ∧ w.frozen? ⟨g, 3, none⟩ = false ∧ w.frozen? ⟨g, 4, none⟩ = false ∧ w.frozen? ⟨g, 5, none⟩ = false) :=
  ⟨⟨h.cell 0 rfl, h.cell 1 rfl, h.cell 2 rfl, h.cell 3 rfl, h.cell 4 rfl, h.cell 5 rfl⟩, ⟨h.fro 0, h.fro 1, h.fro 2, h.fro 3, h.fro 4, h.fro 5⟩⟩
theorem grown_below2 {B : Nat} {w0 w w' : World} {g : Nat} (hb : Below B w0 w) (hg : w.grownBy w' (some g)) (h1 : B ≤ g) (h2 : B ≤ w.heap.size) : Below B w0 w' :=
  hb.grown hg h2 (fun k hk => by have := Option.some.inj hk; omega)
set_option maxRecDepth 20000 in
set_option maxHeartbeats 1000000 in
theorem copyReq_any (kd pl nn wa : Int) (q1 q2 : Option Addr) (m1 m2 k1 k2 : Nat) (ws : List Int) (bs : List Bool) (w : World) (h1 : m1 = ws.length) (h2 : m2 = bs.length) (s1 : SlI w q1 ws) (s2 : SlB w q2 bs) (hl1 : ws.length ≤ 2000000) (hl2 : bs.length ≤ 2000000) :
    Calls Try.prog 90 #[.agg (rqc kd pl nn wa q1 q2 m1 m2 k1 k2)] w fun e w' => ReqPost w w' e kd pl nn wa ws bs := by
  obtain ⟨B, hB⟩ : ∃ B, B = w.heap.size := ⟨_, rfl⟩
  obtain ⟨W, hW⟩ : ∃ W, W = (w.alloc (.cells (rqc kd pl nn wa q1 q2 m1 m2 k1 k2) 28)).alloc (.cells #[.int .i64 0, .int .i64 0, .int .i64 0, .slice none 0 0, .slice none 0 0, .int .i64 0] 28) := ⟨_, rfl⟩
  have bW : Below w.heap.size w W := by rw [hW]; exact bel_next (bel_alloc _ _) (bel_alloc _ _)
  have HW : Hid (Below w.heap.size w W ∧ Blk W B 28 (rqc kd pl nn wa q1 q2 m1 m2 k1 k2) ∧ Blk W (B + 1) 28 #[.int .i64 0, .int .i64 0, .int .i64 0, .slice none 0 0, .slice none 0 0, .int .i64 0] ∧ w.heap.size ≤ W.heap.size) := ⟨bW, by rw [hW, hB]; exact (Blk.new w _ _).below (bel_alloc _ _), by rw [hW, hB]; have := Blk.new (w.alloc (.cells (rqc kd pl nn wa q1 q2 m1 m2 k1 k2) 28)) #[.int .i64 0, .int .i64 0, .int .i64 0, .slice none 0 0, .slice none 0 0, .int .i64 0] 28; simpa using this, bW.size⟩
  have HS : Hid (m1 = ws.length ∧ m2 = bs.length ∧ SlI w q1 ws ∧ SlB w q2 bs ∧ w.heap.size = B) := ⟨h1, h2, s1, s2, hB.symm⟩
  clear bW h1 h2 s1 s2
  go_enter Try.func90, Try.ntmps90
  go_upto_region 1 with fail
  rw [← hW, ← hB]
  clear hW hB
  obtain ⟨⟨y0, y1, y2, y3, y4, y5⟩, _⟩ := (HW.out.2.1.below (bel_alloc W (.cells #[] 3))).six2
  go_upto_region 2 with (at_builtin; refine wpList_appIO rfl (.tmp 3) (.tmp 5) rfl w.heap.size (.slice (some ⟨W.heap.size, 0, none⟩) 0 0) [] rfl (newI W w.heap.size HW.out.2.2.2) q1 m1 k1 ws rfl HS.out.1 (HS.out.2.2.1.below (bel_next HW.out.1 (bel_alloc _ _))) (by simp; omega) (by have := HW.out.2.2.2; simp; omega) ?_; intro v1 w1 O1 g1'; have g1 : (W.alloc (.cells #[] 3)).grownBy w1 (some W.heap.size) := g1'; clear g1'; have HU : Hid (OwnI w1 w.heap.size v1 ws ∧ Below w.heap.size w w1 ∧ Blk w1 B 28 (rqc kd pl nn wa q1 q2 m1 m2 k1 k2) ∧ Blk w1 (B + 1) 28 #[.int .i64 0, .int .i64 0, .int .i64 0, .slice none 0 0, .slice none 0 0, .int .i64 0]) := ⟨by simpa using O1, grown_below2 (bel_next HW.out.1 (bel_alloc _ _)) g1 HW.out.2.2.2 (by have := HW.out.2.2.2; simp; omega), (HW.out.2.1.below (bel_alloc _ _)).grown g1 (by have := HW.out.2.1.lt; intro e9; have := Option.some.inj e9; omega), (HW.out.2.2.1.below (bel_alloc _ _)).grown g1 (by have := HW.out.2.2.1.lt; intro e9; have := Option.some.inj e9; omega)⟩; clear O1 g1; obtain ⟨a1, c1, n1, hv1, hn1⟩ := ownI_shape2 HU.out.1; subst hv1; have HN1 : Hid (n1 = ws.length) := hn1; clear hn1; obtain ⟨⟨x0, x1, x2, x3, x4, x5⟩, ⟨f0, f1, f2, f3, f4, f5⟩⟩ := HU.out.2.2.1.six2)
  obtain ⟨W2, hW2⟩ : ∃ W2, W2 = w1.setCell ⟨B, 3, none⟩ (.slice a1 n1 c1) := ⟨_, rfl⟩
  have HV : Hid (OwnI W2 w.heap.size (.slice a1 n1 c1) ws ∧ Below w.heap.size w W2 ∧ Blk W2 B 28 (rqc kd pl nn wa a1 q2 n1 m2 c1 k2) ∧ Blk W2 (B + 1) 28 #[.int .i64 0, .int .i64 0, .int .i64 0, .slice none 0 0, .slice none 0 0, .int .i64 0] ∧ w.heap.size ≤ W2.heap.size) := by
    have hb : Below w.heap.size w W2 := by rw [hW2]; exact HU.out.2.1.setCell (p := ⟨B, 3, none⟩) (by show w.heap.size ≤ B; rw [HS.out.2.2.2.2]; exact Nat.le_refl _) _
    exact ⟨by rw [hW2]; exact row_setE HU.out.1 ⟨_, HU.out.2.2.1⟩ (by decide), hb, by rw [hW2]; have h9 := HU.out.2.2.1.set 3 (.slice a1 n1 c1); simpa using h9, by rw [hW2]; exact HU.out.2.2.2.setNe (by omega), hb.size⟩
  rw [← hW2]
  clear hW2 HU x0 x1 x2 x3 x4 x5 f0 f1 f2 f3 f4 f5 y0 y1 y2 y3 y4 y5 HW
  obtain ⟨⟨y0, y1, y2, y3, y4, y5⟩, _⟩ := (HV.out.2.2.1.below (bel_alloc W2 (.cells #[] 4))).six2
  go_upto_region 3 with (at_builtin; refine wpList_appBO rfl (.tmp 8) (.tmp 10) rfl w.heap.size (.slice (some ⟨W2.heap.size, 0, none⟩) 0 0) [] rfl (newB W2 w.heap.size HV.out.2.2.2.2) q2 m2 k2 bs rfl HS.out.2.1 (HS.out.2.2.2.1.below (bel_next HV.out.2.1 (bel_alloc _ _))) (by simp; omega) (by have := HV.out.2.2.2.2; simp; omega) ?_; intro v2 w2 O2 g2'; have g2 : (W2.alloc (.cells #[] 4)).grownBy w2 (some W2.heap.size) := g2'; clear g2'; have HU : Hid (OwnB w2 w.heap.size v2 bs ∧ Below w.heap.size w w2 ∧ Blk w2 B 28 (rqc kd pl nn wa a1 q2 n1 m2 c1 k2) ∧ Blk w2 (B + 1) 28 #[.int .i64 0, .int .i64 0, .int .i64 0, .slice none 0 0, .slice none 0 0, .int .i64 0] ∧ OwnI w2 w.heap.size (.slice a1 n1 c1) ws) := ⟨by simpa using O2, grown_below2 (bel_next HV.out.2.1 (bel_alloc _ _)) g2 HV.out.2.2.2.2 (by have := HV.out.2.2.2.2; simp; omega), (HV.out.2.2.1.below (bel_alloc _ _)).grown g2 (by have := HV.out.2.2.1.lt; intro e9; have := Option.some.inj e9; omega), (HV.out.2.2.2.1.below (bel_alloc _ _)).grown g2 (by have := HV.out.2.2.2.1.lt; intro e9; have := Option.some.inj e9; omega), (OwnI.below HV.out.1 (bel_alloc _ _)).kept g2 (.inr (by intro e9; have := (World.ownsRow.lt HV.out.1 _ e9).2; simp at this))⟩; clear O2 g2; obtain ⟨a2, c2, n2, hv2, hn2⟩ := ownB_shape HU.out.1; subst hv2; have HN2 : Hid (n2 = bs.length) := hn2; clear hn2; obtain ⟨⟨x0, x1, x2, x3, x4, x5⟩, ⟨f0, f1, f2, f3, f4, f5⟩⟩ := HU.out.2.2.1.six2)
  obtain ⟨W3, hW3⟩ : ∃ W3, W3 = w2.setCell ⟨B, 4, none⟩ (.slice a2 n2 c2) := ⟨_, rfl⟩
  have HX : Hid (OwnI W3 w.heap.size (.slice a1 n1 c1) ws ∧ OwnB W3 w.heap.size (.slice a2 n2 c2) bs ∧ Below w.heap.size w W3 ∧ Blk W3 B 28 (rqc kd pl nn wa a1 a2 n1 n2 c1 c2) ∧ Blk W3 (B + 1) 28 #[.int .i64 0, .int .i64 0, .int .i64 0, .slice none 0 0, .slice none 0 0, .int .i64 0]) := by
    have hb : Below w.heap.size w W3 := by rw [hW3]; exact HU.out.2.1.setCell (p := ⟨B, 4, none⟩) (by show w.heap.size ≤ B; rw [HS.out.2.2.2.2]; exact Nat.le_refl _) _
    exact ⟨by rw [hW3]; exact row_setE HU.out.2.2.2.2 ⟨_, HU.out.2.2.1⟩ (by decide), by rw [hW3]; exact row_setE HU.out.1 ⟨_, HU.out.2.2.1⟩ (by decide), hb, by rw [hW3]; have h9 := HU.out.2.2.1.set 4 (.slice a2 n2 c2); simpa using h9, by rw [hW3]; exact HU.out.2.2.2.1.setNe (by omega)⟩
  rw [← hW3]
  clear hW3 HU HV x0 x1 x2 x3 x4 x5 f0 f1 f2 f3 f4 f5 y0 y1 y2 y3 y4 y5
  obtain ⟨⟨y0, y1, y2, y3, y4, y5⟩, _⟩ := HX.out.2.2.2.1.six2
  obtain ⟨⟨x0, x1, x2, x3, x4, x5⟩, ⟨f0, f1, f2, f3, f4, f5⟩⟩ := HX.out.2.2.2.2.six2
  have HY : Hid (OwnI (setL W3 (B + 1) 0 (rqc kd pl nn wa a1 a2 n1 n2 c1 c2).toList) w.heap.size (.slice a1 n1 c1) ws ∧ OwnB (setL W3 (B + 1) 0 (rqc kd pl nn wa a1 a2 n1 n2 c1 c2).toList) w.heap.size (.slice a2 n2 c2) bs ∧ Below w.heap.size w (setL W3 (B + 1) 0 (rqc kd pl nn wa a1 a2 n1 n2 c1 c2).toList)) := ⟨row_setL HX.out.1 ⟨_, HX.out.2.2.2.2⟩ (by decide), row_setL HX.out.2.1 ⟨_, HX.out.2.2.2.2⟩ (by decide), setL_below (by have := HS.out.2.2.2.2; omega) _ _ _ HX.out.2.2.1⟩
  clear HX
  go_wp2
  refine bodyPost_ret (v := .agg (rqc kd pl nn wa a1 a2 n1 n2 c1 c2)) (by simp [results, Try.results90, go_sem, x0, x1, x2, x3, x4, x5]) rfl ⟨a1, a2, n1, n2, c1, c2, rfl, HN1.out, HN2.out, HY.out.1, HY.out.2.1, HY.out.2.2⟩
end Go.Proofs.Ytegckbfbmbiogaa
