/- Texts that the proof needs, joined: S0 Tb0 Tr2 RgI RgV RgW RgX RgY RgZ. -/
import Derived.Test.YtfagbjffhjnmaaaY2
import Derived.Test.YtfagbjffhjnmaaaY6
import Derived.Test.YtfagbjffhjnmaaaY5
import Derived.Test.YtfagbjffhjnmaaaY1
import Derived.RegionTactic
import Derived.Below
import Derived.Deep.MidRow
namespace Go.Proofs.Ytfagbjffhjnmaaa
open Go.RowKit
def anB (kd pl nn : Int) (m1 m2 : Nat) (qs : List Int) (qb : List Bool) (ap an : Int) (l1 l2 : Nat) (ws : List Int) (bs : List Bool) : Bool :=
  if kd = 1 ∨ kd = 2 then nfB bs nn.toNat && decide (l2 = (nn.toNat + 7) / 8 * 8)
  else if kd = 3 ∨ kd = 4 ∨ kd = 23 then decide ((l1 : Int) = nn)
  else if kd = 5 then decide (ap = pl) && decide (bs = qb)
  else if kd = 6 ∨ kd = 22 then decide (ap = pl) && decide (ws = qs)
  else if kd = 15 then decide (ap = pl) && decide (an = (m2 : Int))
  else decide (ap = pl) && decide (an = (m1 : Int))
def suB (kd pl nn wa : Int) (m1 m2 : Nat) (qs : List Int) (qb : List Bool) (kd' fl ap an : Int) (l1 l2 : Nat) (ws : List Int) (bs : List Bool) : Bool :=
  okR kd pl nn wa qs m1 m2 && (okA kd' fl ap an ws l1 l2 && (decide (kd = kd') && (!decide (fl = 0) || anB kd pl nn m1 m2 qs qb ap an l1 l2 ws bs)))
end Go.Proofs.Ytfagbjffhjnmaaa
namespace Go.Proofs.Ytfagbjffhjnmaaa
open Go.RowKit Go.Joins
set_option linter.unusedVariables false
set_option linter.unusedSimpArgs false
def okQ (Q : VQ) : Bool := okR Q.kd Q.pl Q.n Q.wa Q.ws Q.ws.length Q.bs.length
def suQ (Q : VQ) (A : VA) : Bool := suB Q.kd Q.pl Q.n Q.wa Q.ws.length Q.bs.length Q.ws Q.bs A.kd A.fl A.pl A.n A.ws.length A.bs.length A.ws A.bs
def okPt (P : VP) : Bool := inB P.p 0 5 && (inB P.t 1 247 && okQ P.q)
def noA (A : VA) : Bool := (A.kd == 0) && ((A.fl == 0) && ((A.pl == 0) && ((A.n == 0) && (((A.ws.length : Int) == 0) && ((A.bs.length : Int) == 0)))))
def allN (g : Nat → Bool) : Nat → Bool
  | 0 => true
  | n + 1 => allN g n && g n
theorem allN_iff {g : Nat → Bool} : ∀ {n : Nat}, allN g n = true ↔ ∀ k, k < n → g k = true
  | 0 => by simp [allN]
  | n + 1 => by
    simp only [allN, Bool.and_eq_true, allN_iff (n := n)]
    constructor
    · rintro ⟨h1, h2⟩ k hk
      by_cases e : k = n
      · subst e; exact h2
      · exact h1 k (by omega)
    · intro h
      exact ⟨fun k hk => h k (by omega), h n (by omega)⟩
theorem allN_no {g : Nat → Bool} {n k : Nat} (hk : k < n) (h : g k = false) : allN g n = false := by
  cases e : allN g n with
  | false => rfl
  | true => rw [allN_iff.1 e k hk] at h; cases h
theorem allN_succ {g : Nat → Bool} {n : Nat} (h : allN g n = true) (hk : g n = true) : allN g (n + 1) = true := by
  simp [allN, h, hk]
def cntF (bs : List Bool) : Nat → Nat
  | 0 => 0
  | n + 1 => cntF bs n + (if bs.getD n false then 0 else 1)
theorem cntF_le (bs : List Bool) : ∀ n, cntF bs n ≤ n
  | 0 => Nat.le_refl _
  | n + 1 => by
    have := cntF_le bs n
    simp only [cntF]
    split <;> omega
theorem cntF_all {bs : List Bool} : ∀ {n : Nat}, cntF bs n = 0 ↔ allN (fun i => bs.getD i false) n = true
  | 0 => by simp [cntF, allN]
  | n + 1 => by
    simp only [cntF, allN, Bool.and_eq_true, ← cntF_all (n := n)]
    split <;> simp_all
def tdB (D : VD) (i : Nat) : Bool := if D.hs.getD i false then suQ (D.pt i).q (D.tl i) else noA (D.tl i)
def okPd (D : VD) : Bool :=
  inB D.so 0 1000000000 && (inB D.ta 0 1000000000 && (okQ D.q && (decide (1 ≤ D.np ∧ D.np ≤ 8) && (allN (fun i => okPt (D.pt i)) D.np && (decide (D.hs.length = D.np) && (decide (D.nt = D.np) && (allN (tdB D) D.np && decide (0 < cntF D.hs D.hs.length))))))))
def rowB (X : VT) (i : Nat) : Bool := okPd (X.f i) && (inB (X.f i).id 0 (X.nx - 1) && (decide (i = 0) || decide ((X.f (i - 1)).id < (X.f i).id)))
def okTb (X : VT) : Bool := inB X.nx 0 1000000000 && (decide (X.m ≤ 16) && allN (rowB X) X.m)
def wtT (X : VT) : Nat → Nat := fun n => sumN n (fun i => cntF (X.f i).hs (X.f i).hs.length)
def BdQ (Q : VQ) : Prop := Q.ws.length ≤ 2000000 ∧ Q.bs.length ≤ 2000000
def BdA (A : VA) : Prop := A.ws.length ≤ 2000000 ∧ A.bs.length ≤ 2000000
def BdD (D : VD) : Prop := BdQ D.q ∧ D.np ≤ 2000000 ∧ D.hs.length ≤ 2000000 ∧ D.nt ≤ 2000000 ∧ (∀ i, i < D.np → BdQ (D.pt i).q) ∧ (∀ i, i < D.nt → BdA (D.tl i))
def BdT (X : VT) : Prop := X.m ≤ 2000000 ∧ ∀ i, i < X.m → BdD (X.f i)
theorem list_bd {s n N : Nat} {f : Nat → Nat → Tr} (h : (Tr.list s n f).sz ≤ N) : n ≤ N ∧ ∀ k, k < n → szT s (f k) ≤ N := by
  rw [Tr.sz_list] at h
  refine ⟨by omega, fun k hk => ?_⟩
  have := sumN_at (fun k => szT s (f k)) hk
  omega
theorem VD.bd {D : VD} (h : szT 13 (trs (dT D)) ≤ 2000000) : BdD D := by
  rw [szT_d] at h
  have h1 := list_bd (s := 8) (n := D.np) (f := fun i => trs (pT (D.pt i))) (N := 2000000) (by omega)
  have h2 := list_bd (s := 6) (n := D.nt) (f := fun i => trs (aT (D.tl i))) (N := 2000000) (by omega)
  refine ⟨⟨by omega, by omega⟩, h1.1, by omega, h2.1, fun i hi => ?_, fun i hi => ?_⟩
  · have := h1.2 i hi
    rw [szT_p] at this
    exact ⟨by omega, by omega⟩
  · have := h2.2 i hi
    rw [szT_a] at this
    exact ⟨by omega, by omega⟩
theorem VT.bd {X : VT} (h : szT 2 (trs (tT X)) ≤ 2000000) : BdT X := by
  rw [szT_t] at h
  have h1 := list_bd (s := 13) (n := X.m) (f := fun i => trs (dT (X.f i))) (N := 2000000) (by omega)
  exact ⟨h1.1, fun i hi => VD.bd (h1.2 i hi)⟩
def PdAt (w : World) (g o : Nat) (D : VD) : Prop := g < w.heap.size ∧ ∃ vs, vs.length = 13 ∧ w.rangeAt g o vs ∧ RdL w 0 (trs (dT D)) vs
theorem PdAt.below {w w' : World} {g o : Nat} {D : VD} (h : PdAt w g o D) (hb : Below w.heap.size w w') : PdAt w' g o D := by
  obtain ⟨h1, vs, h2, h3, h4⟩ := h
  exact ⟨Nat.lt_of_lt_of_le h1 hb.size, vs, h2, fun j v hv => (hb.cell (p := ⟨g, o + j, none⟩) h1).trans (h3 j v hv), h4.below hb⟩
theorem PdAt.cells {w : World} {g o : Nat} {D : VD} (h : PdAt w g o D) : g < w.heap.size ∧ ∃ a1 c1 a2 c2 a3 c3 a4 c4 a5 c5, w.rangeAt g o (dL D a1 D.q.ws.length c1 a2 D.q.bs.length c2 a3 D.np c3 a4 D.hs.length c4 a5 D.nt c5) ∧ Rd w 0 (intsT D.q.ws) (.slice a1 D.q.ws.length c1) ∧ Rd w 0 (boolsT D.q.bs) (.slice a2 D.q.bs.length c2) ∧ Rd w 0 (.list 8 D.np (fun i => trs (pT (D.pt i)))) (.slice a3 D.np c3) ∧ Rd w 0 (boolsT D.hs) (.slice a4 D.hs.length c4) ∧ Rd w 0 (.list 6 D.nt (fun i => trs (aT (D.tl i)))) (.slice a5 D.nt c5) := by
  obtain ⟨h1, vs, h2, h3, h4⟩ := h
  obtain ⟨a1, c1, a2, c2, a3, c3, a4, c4, a5, c5, rfl, r1, r2, r3, r4, r5⟩ := VD.cells h4 h2
  exact ⟨h1, a1, c1, a2, c2, a3, c3, a4, c4, a5, c5, h3, r1, r2, r3, r4, r5⟩
end Go.Proofs.Ytfagbjffhjnmaaa
namespace Go.Proofs.Ytfagbjffhjnmaaa
open Go.RowKit Go.Joins
set_option linter.unusedVariables false
set_option linter.unusedSimpArgs false
set_option maxHeartbeats 2000000 in
theorem szIntS_t (ws : List Int) (a : Option Addr) (l c : Nat) (left : Nat) (w : World) (r : Rd w 0 (intsT ws) (.slice a l c)) (hl : left ≤ 1048576) :
    Calls Try.prog 54 #[.slice a l c, .int .i64 (left : Int)] w fun e w' => e = .returned (.int .i64 (lfT left ws.length)) ∧ Below w.heap.size w w' := by
  obtain ⟨a9, c9, h9, -, hm, -⟩ := r.ints
  simp only [Value.slice.injEq] at h9
  obtain ⟨-, rfl, -⟩ := h9
  obtain ⟨m, e⟩ : ∃ m, m = ws.length := ⟨_, rfl⟩
  clear r
  rw [← e] at hm ⊢
  clear a9 c9 e
  unfold maxLen at hm
  have w1 : IntKind.i64.wrap ((left : Int) - (m : Int)) = (left : Int) - (m : Int) := by rw [IntKind.wrap_i64]; omega
  by_cases h : m ≤ left
  · have h1 : ¬ ((left : Int) - (m : Int) < 0) := by omega
    have HE : Hid (lfT left m = (left : Int) - (m : Int)) := by show _ = _; unfold lfT; rw [if_pos h]
    go_enter Try.func54, Try.ntmps54
    go_wp2
    go_ret
    exact ⟨by rw [HE.out]; rfl, Below.refl _ _⟩
  · have h1 : ((left : Int) - (m : Int) < 0) := by omega
    have HE : Hid (lfT left m = -1) := by show _ = _; unfold lfT; rw [if_neg h]
    go_enter Try.func54, Try.ntmps54
    go_wp2
    go_ret
    exact ⟨by rw [HE.out]; rfl, Below.refl _ _⟩
set_option maxHeartbeats 2000000 in
theorem szBoolS_t (ws : List Bool) (a : Option Addr) (l c : Nat) (left : Nat) (w : World) (r : Rd w 0 (boolsT ws) (.slice a l c)) (hl : left ≤ 1048576) :
    Calls Try.prog 32 #[.slice a l c, .int .i64 (left : Int)] w fun e w' => e = .returned (.int .i64 (lfT left ws.length)) ∧ Below w.heap.size w w' := by
  obtain ⟨a9, c9, h9, -, hm, -⟩ := r.bools
  simp only [Value.slice.injEq] at h9
  obtain ⟨-, rfl, -⟩ := h9
  obtain ⟨m, e⟩ : ∃ m, m = ws.length := ⟨_, rfl⟩
  clear r
  rw [← e] at hm ⊢
  clear a9 c9 e
  unfold maxLen at hm
  have w1 : IntKind.i64.wrap ((left : Int) - (m : Int)) = (left : Int) - (m : Int) := by rw [IntKind.wrap_i64]; omega
  by_cases h : m ≤ left
  · have h1 : ¬ ((left : Int) - (m : Int) < 0) := by omega
    have HE : Hid (lfT left m = (left : Int) - (m : Int)) := by show _ = _; unfold lfT; rw [if_pos h]
    go_enter Try.func32, Try.ntmps32
    go_wp2
    go_ret
    exact ⟨by rw [HE.out]; rfl, Below.refl _ _⟩
  · have h1 : ((left : Int) - (m : Int) < 0) := by omega
    have HE : Hid (lfT left m = -1) := by show _ = _; unfold lfT; rw [if_neg h]
    go_enter Try.func32, Try.ntmps32
    go_wp2
    go_ret
    exact ⟨by rw [HE.out]; rfl, Below.refl _ _⟩
theorem Blk.tc2 {w : World} {g : Nat} {t : TypeId} {v0 v1 : Value} (h : Blk w g t #[v0, v1]) : (w.cell? ⟨g, 0, none⟩ = some v0 ∧ w.cell? ⟨g, 1, none⟩ = some v1) ∧ ∀ j, w.frozen? ⟨g, j, none⟩ = false :=
  ⟨⟨h.cell 0 rfl, h.cell 1 rfl⟩, h.fro⟩
theorem Blk.tc6 {w : World} {g : Nat} {t : TypeId} {v0 v1 v2 v3 v4 v5 : Value} (h : Blk w g t #[v0, v1, v2, v3, v4, v5]) : (w.cell? ⟨g, 0, none⟩ = some v0 ∧ w.cell? ⟨g, 1, none⟩ = some v1 ∧ w.cell? ⟨g, 2, none⟩ = some v2 ∧ w.cell? ⟨g, 3, none⟩ = some v3 ∧ w.cell? ⟨g, 4, none⟩ = some v4 ∧ w.cell? ⟨g, 5, none⟩ = some v5) ∧ ∀ j, w.frozen? ⟨g, j, none⟩ = false :=
  ⟨⟨h.cell 0 rfl, h.cell 1 rfl, h.cell 2 rfl, h.cell 3 rfl, h.cell 4 rfl, h.cell 5 rfl⟩, h.fro⟩
theorem Blk.tc8 {w : World} {g : Nat} {t : TypeId} {v0 v1 v2 v3 v4 v5 v6 v7 : Value} (h : Blk w g t #[v0, v1, v2, v3, v4, v5, v6, v7]) : (w.cell? ⟨g, 0, none⟩ = some v0 ∧ w.cell? ⟨g, 1, none⟩ = some v1 ∧ w.cell? ⟨g, 2, none⟩ = some v2 ∧ w.cell? ⟨g, 3, none⟩ = some v3 ∧ w.cell? ⟨g, 4, none⟩ = some v4 ∧ w.cell? ⟨g, 5, none⟩ = some v5 ∧ w.cell? ⟨g, 6, none⟩ = some v6 ∧ w.cell? ⟨g, 7, none⟩ = some v7) ∧ ∀ j, w.frozen? ⟨g, j, none⟩ = false :=
  ⟨⟨h.cell 0 rfl, h.cell 1 rfl, h.cell 2 rfl, h.cell 3 rfl, h.cell 4 rfl, h.cell 5 rfl, h.cell 6 rfl, h.cell 7 rfl⟩, h.fro⟩
theorem Blk.tc13 {w : World} {g : Nat} {t : TypeId} {v0 v1 v2 v3 v4 v5 v6 v7 v8 v9 v10 v11 v12 : Value} (h : Blk w g t #[v0, v1, v2, v3, v4, v5, v6, v7, v8, v9, v10, v11, v12]) : (w.cell? ⟨g, 0, none⟩ = some v0 ∧ w.cell? ⟨g, 1, none⟩ = some v1 ∧ w.cell? ⟨g, 2, none⟩ = some v2 ∧ w.cell? ⟨g, 3, none⟩ = some v3 ∧ w.cell? ⟨g, 4, none⟩ = some v4 ∧ w.cell? ⟨g, 5, none⟩ = some v5 ∧ w.cell? ⟨g, 6, none⟩ = some v6 ∧ w.cell? ⟨g, 7, none⟩ = some v7 ∧ w.cell? ⟨g, 8, none⟩ = some v8 ∧ w.cell? ⟨g, 9, none⟩ = some v9 ∧ w.cell? ⟨g, 10, none⟩ = some v10 ∧ w.cell? ⟨g, 11, none⟩ = some v11 ∧ w.cell? ⟨g, 12, none⟩ = some v12) ∧ ∀ j, w.frozen? ⟨g, j, none⟩ = false :=
  ⟨⟨h.cell 0 rfl, h.cell 1 rfl, h.cell 2 rfl, h.cell 3 rfl, h.cell 4 rfl, h.cell 5 rfl, h.cell 6 rfl, h.cell 7 rfl, h.cell 8 rfl, h.cell 9 rfl, h.cell 10 rfl, h.cell 11 rfl, h.cell 12 rfl⟩, h.fro⟩
set_option maxRecDepth 20000 in
set_option maxHeartbeats 2000000 in
theorem szReq_t (X : VQ) (a1 : Option Addr) (l1 c1 : Nat) (a2 : Option Addr) (l2 c2 : Nat) (left : Nat) (w : World) (r1 : Rd w 0 (intsT X.ws) (.slice a1 l1 c1)) (r2 : Rd w 0 (boolsT X.bs) (.slice a2 l2 c2)) (hl : left ≤ 1048576) :
    Calls Try.prog 30 #[.agg (qL X a1 l1 c1 a2 l2 c2).toArray, .int .i64 (left : Int)] w fun e w' => e = .returned (.int .i64 (lfT left (szT 6 (trs (qT X))))) ∧ Below w.heap.size w w' := by
  have HT : Hid (szT 6 (trs (qT X)) = X.ws.length + X.bs.length) := by
    show _ = _
    simp only [szT_q]
    try omega
  obtain ⟨t1, ht1⟩ : ∃ t : Nat, t = X.ws.length := ⟨_, rfl⟩
  obtain ⟨t2, ht2⟩ : ∃ t : Nat, t = X.bs.length := ⟨_, rfl⟩
  obtain ⟨W, hW⟩ : ∃ W, W = w.alloc (.cells (qL X a1 l1 c1 a2 l2 c2).toArray 52) := ⟨_, rfl⟩
  have H0 : Hid (Below w.heap.size w W ∧ Blk W w.heap.size 52 (qL X a1 l1 c1 a2 l2 c2).toArray ∧ szT 6 (trs (qT X)) = t1 + t2 ∧ Rd w 0 (intsT X.ws) (.slice a1 l1 c1) ∧ Rd w 0 (boolsT X.bs) (.slice a2 l2 c2)) := ⟨by rw [hW]; exact bel_alloc _ _, by rw [hW]; exact Blk.new _ _ _, by rw [HT.out]; omega, r1, r2⟩
  have K1 : Hid (t1 = X.ws.length) := ht1
  have K2 : Hid (t2 = X.bs.length) := ht2
  clear HT r1 r2 ht1 ht2
  go_enter Try.func30, Try.ntmps30
  go_upto_region 1 with fail
  rw [← hW]
  clear hW
  have G0 : Hid (Below w.heap.size w W ∧ Blk W w.heap.size 52 (qL X a1 l1 c1 a2 l2 c2).toArray) := ⟨H0.out.1, H0.out.2.1⟩
  have Q0 : Hid (left ≤ 1048576 ∧ left = left) := ⟨hl, rfl⟩
  obtain ⟨⟨y0, y1, y2, y3, y4, y5⟩, yf⟩ := G0.out.2.tc6
  clear yf
  by_cases g1 : t1 ≤ left
  rotate_left
  · have E : Hid (lfT left (X.ws.length) = -1 ∧ lfT left (szT 6 (trs (qT X))) = -1) := by
      have h9 := Q0.out.2
      have h8 := H0.out.2.2.1
      refine ⟨?_, ?_⟩
      · rw [← K1.out]; unfold lfT; rw [if_neg g1]
      · rw [h8]; unfold lfT; rw [if_neg (by omega)]
    go_wp2_with fail
    refine (szIntS_t X.ws a1 l1 c1 left _ (H0.out.2.2.2.1.below G0.out.1) Q0.out.1).mono ?_
    rintro e w9 ⟨rfl, b9⟩
    rw [E.out.1]
    have B9 := bel_nx G0.out.1 b9
    clear b9 y0 y1 y2 y3 y4 y5
    go_wp2
    go_ret
    exact ⟨by rw [E.out.2]; rfl, B9⟩
  · obtain ⟨L1, hL1⟩ : ∃ m : Nat, m + t1 = left := ⟨left - t1, by omega⟩
    have E1 : Hid (lfT left (X.ws.length) = (L1 : Int)) := by
      show _ = _
      rw [← K1.out]; unfold lfT; rw [if_pos g1]; omega
    have n1 : ¬ ((L1 : Int) < 0) := by omega
    have Q1 : Hid (L1 ≤ 1048576 ∧ L1 + t1 = left) := by
      have h9 := Q0.out
      exact ⟨by omega, by omega⟩
    clear hL1 g1
    go_wp2_with fail
    refine (szIntS_t X.ws a1 l1 c1 left _ (H0.out.2.2.2.1.below G0.out.1) Q0.out.1).mono ?_
    rintro e w1 ⟨rfl, b1⟩
    rw [E1.out]
    have G1 : Hid (Below w.heap.size w w1 ∧ Blk w1 w.heap.size 52 (qL X a1 l1 c1 a2 l2 c2).toArray) := ⟨bel_nx G0.out.1 b1, G0.out.2.below b1⟩
    clear b1 y0 y1 y2 y3 y4 y5
    obtain ⟨⟨y0, y1, y2, y3, y4, y5⟩, yf⟩ := G1.out.2.tc6
    clear yf
    by_cases g2 : t2 ≤ L1
    rotate_left
    · have E : Hid (lfT L1 (X.bs.length) = -1 ∧ lfT left (szT 6 (trs (qT X))) = -1) := by
        have h9 := Q1.out.2
        have h8 := H0.out.2.2.1
        refine ⟨?_, ?_⟩
        · rw [← K2.out]; unfold lfT; rw [if_neg g2]
        · rw [h8]; unfold lfT; rw [if_neg (by omega)]
      go_wp2_with fail
      refine (szBoolS_t X.bs a2 l2 c2 L1 _ (H0.out.2.2.2.2.below G1.out.1) Q1.out.1).mono ?_
      rintro e w9 ⟨rfl, b9⟩
      rw [E.out.1]
      have B9 := bel_nx G1.out.1 b9
      clear b9 y0 y1 y2 y3 y4 y5
      go_wp2
      go_ret
      exact ⟨by rw [E.out.2]; rfl, B9⟩
    · obtain ⟨L2, hL2⟩ : ∃ m : Nat, m + t2 = L1 := ⟨L1 - t2, by omega⟩
      have E2 : Hid (lfT L1 (X.bs.length) = (L2 : Int)) := by
        show _ = _
        rw [← K2.out]; unfold lfT; rw [if_pos g2]; omega
      have n2 : ¬ ((L2 : Int) < 0) := by omega
      have Q2 : Hid (L2 ≤ 1048576 ∧ L2 + t1 + t2 = left) := by
        have h9 := Q1.out
        exact ⟨by omega, by omega⟩
      clear hL2 g2
      go_wp2_with fail
      refine (szBoolS_t X.bs a2 l2 c2 L1 _ (H0.out.2.2.2.2.below G1.out.1) Q1.out.1).mono ?_
      rintro e w2 ⟨rfl, b2⟩
      rw [E2.out]
      have G2 : Hid (Below w.heap.size w w2 ∧ Blk w2 w.heap.size 52 (qL X a1 l1 c1 a2 l2 c2).toArray) := ⟨bel_nx G1.out.1 b2, G1.out.2.below b2⟩
      clear b2 y0 y1 y2 y3 y4 y5
      have E : Hid (lfT left (szT 6 (trs (qT X))) = (L2 : Int)) := by
        have h9 := Q2.out.2
        have h8 := H0.out.2.2.1
        show _ = _
        rw [h8]; unfold lfT; rw [if_pos (by omega)]; omega
      go_wp2
      go_ret
      exact ⟨by rw [E.out]; rfl, G2.out.1⟩
set_option maxRecDepth 20000 in
set_option maxHeartbeats 2000000 in
theorem szResp_t (X : VA) (a1 : Option Addr) (l1 c1 : Nat) (a2 : Option Addr) (l2 c2 : Nat) (left : Nat) (w : World) (r1 : Rd w 0 (intsT X.ws) (.slice a1 l1 c1)) (r2 : Rd w 0 (boolsT X.bs) (.slice a2 l2 c2)) (hl : left ≤ 1048576) :
    Calls Try.prog 56 #[.agg (aL X a1 l1 c1 a2 l2 c2).toArray, .int .i64 (left : Int)] w fun e w' => e = .returned (.int .i64 (lfT left (szT 6 (trs (aT X))))) ∧ Below w.heap.size w w' := by
  have HT : Hid (szT 6 (trs (aT X)) = X.ws.length + X.bs.length) := by
    show _ = _
    simp only [szT_a]
    try omega
  obtain ⟨t1, ht1⟩ : ∃ t : Nat, t = X.ws.length := ⟨_, rfl⟩
  obtain ⟨t2, ht2⟩ : ∃ t : Nat, t = X.bs.length := ⟨_, rfl⟩
  obtain ⟨W, hW⟩ : ∃ W, W = w.alloc (.cells (aL X a1 l1 c1 a2 l2 c2).toArray 93) := ⟨_, rfl⟩
  have H0 : Hid (Below w.heap.size w W ∧ Blk W w.heap.size 93 (aL X a1 l1 c1 a2 l2 c2).toArray ∧ szT 6 (trs (aT X)) = t1 + t2 ∧ Rd w 0 (intsT X.ws) (.slice a1 l1 c1) ∧ Rd w 0 (boolsT X.bs) (.slice a2 l2 c2)) := ⟨by rw [hW]; exact bel_alloc _ _, by rw [hW]; exact Blk.new _ _ _, by rw [HT.out]; omega, r1, r2⟩
  have K1 : Hid (t1 = X.ws.length) := ht1
  have K2 : Hid (t2 = X.bs.length) := ht2
  clear HT r1 r2 ht1 ht2
  go_enter Try.func56, Try.ntmps56
  go_upto_region 1 with fail
  rw [← hW]
  clear hW
  have G0 : Hid (Below w.heap.size w W ∧ Blk W w.heap.size 93 (aL X a1 l1 c1 a2 l2 c2).toArray) := ⟨H0.out.1, H0.out.2.1⟩
  have Q0 : Hid (left ≤ 1048576 ∧ left = left) := ⟨hl, rfl⟩
  obtain ⟨⟨y0, y1, y2, y3, y4, y5⟩, yf⟩ := G0.out.2.tc6
  clear yf
  by_cases g1 : t1 ≤ left
  rotate_left
  · have E : Hid (lfT left (X.ws.length) = -1 ∧ lfT left (szT 6 (trs (aT X))) = -1) := by
      have h9 := Q0.out.2
      have h8 := H0.out.2.2.1
      refine ⟨?_, ?_⟩
      · rw [← K1.out]; unfold lfT; rw [if_neg g1]
      · rw [h8]; unfold lfT; rw [if_neg (by omega)]
    go_wp2_with fail
    refine (szIntS_t X.ws a1 l1 c1 left _ (H0.out.2.2.2.1.below G0.out.1) Q0.out.1).mono ?_
    rintro e w9 ⟨rfl, b9⟩
    rw [E.out.1]
    have B9 := bel_nx G0.out.1 b9
    clear b9 y0 y1 y2 y3 y4 y5
    go_wp2
    go_ret
    exact ⟨by rw [E.out.2]; rfl, B9⟩
  · obtain ⟨L1, hL1⟩ : ∃ m : Nat, m + t1 = left := ⟨left - t1, by omega⟩
    have E1 : Hid (lfT left (X.ws.length) = (L1 : Int)) := by
      show _ = _
      rw [← K1.out]; unfold lfT; rw [if_pos g1]; omega
    have n1 : ¬ ((L1 : Int) < 0) := by omega
    have Q1 : Hid (L1 ≤ 1048576 ∧ L1 + t1 = left) := by
      have h9 := Q0.out
      exact ⟨by omega, by omega⟩
    clear hL1 g1
    go_wp2_with fail
    refine (szIntS_t X.ws a1 l1 c1 left _ (H0.out.2.2.2.1.below G0.out.1) Q0.out.1).mono ?_
    rintro e w1 ⟨rfl, b1⟩
    rw [E1.out]
    have G1 : Hid (Below w.heap.size w w1 ∧ Blk w1 w.heap.size 93 (aL X a1 l1 c1 a2 l2 c2).toArray) := ⟨bel_nx G0.out.1 b1, G0.out.2.below b1⟩
    clear b1 y0 y1 y2 y3 y4 y5
    obtain ⟨⟨y0, y1, y2, y3, y4, y5⟩, yf⟩ := G1.out.2.tc6
    clear yf
    by_cases g2 : t2 ≤ L1
    rotate_left
    · have E : Hid (lfT L1 (X.bs.length) = -1 ∧ lfT left (szT 6 (trs (aT X))) = -1) := by
        have h9 := Q1.out.2
        have h8 := H0.out.2.2.1
        refine ⟨?_, ?_⟩
        · rw [← K2.out]; unfold lfT; rw [if_neg g2]
        · rw [h8]; unfold lfT; rw [if_neg (by omega)]
      go_wp2_with fail
      refine (szBoolS_t X.bs a2 l2 c2 L1 _ (H0.out.2.2.2.2.below G1.out.1) Q1.out.1).mono ?_
      rintro e w9 ⟨rfl, b9⟩
      rw [E.out.1]
      have B9 := bel_nx G1.out.1 b9
      clear b9 y0 y1 y2 y3 y4 y5
      go_wp2
      go_ret
      exact ⟨by rw [E.out.2]; rfl, B9⟩
    · obtain ⟨L2, hL2⟩ : ∃ m : Nat, m + t2 = L1 := ⟨L1 - t2, by omega⟩
      have E2 : Hid (lfT L1 (X.bs.length) = (L2 : Int)) := by
        show _ = _
        rw [← K2.out]; unfold lfT; rw [if_pos g2]; omega
      have n2 : ¬ ((L2 : Int) < 0) := by omega
      have Q2 : Hid (L2 ≤ 1048576 ∧ L2 + t1 + t2 = left) := by
        have h9 := Q1.out
        exact ⟨by omega, by omega⟩
      clear hL2 g2
      go_wp2_with fail
      refine (szBoolS_t X.bs a2 l2 c2 L1 _ (H0.out.2.2.2.2.below G1.out.1) Q1.out.1).mono ?_
      rintro e w2 ⟨rfl, b2⟩
      rw [E2.out]
      have G2 : Hid (Below w.heap.size w w2 ∧ Blk w2 w.heap.size 93 (aL X a1 l1 c1 a2 l2 c2).toArray) := ⟨bel_nx G1.out.1 b2, G1.out.2.below b2⟩
      clear b2 y0 y1 y2 y3 y4 y5
      have E : Hid (lfT left (szT 6 (trs (aT X))) = (L2 : Int)) := by
        have h9 := Q2.out.2
        have h8 := H0.out.2.2.1
        show _ = _
        rw [h8]; unfold lfT; rw [if_pos (by omega)]; omega
      go_wp2
      go_ret
      exact ⟨by rw [E.out]; rfl, G2.out.1⟩
set_option maxRecDepth 20000 in
set_option maxHeartbeats 2000000 in
theorem szRespS_t (n : Nat) (f : Nat → VA) (a : Option Addr) (n' cap : Nat) (left : Nat) (w : World) (hs : Rd w 0 (.list 6 n (fun k => trs (aT (f k)))) (.slice a n' cap)) (hl : left ≤ 1048576) :
    Calls Try.prog 33 #[.slice a n' cap, .int .i64 (left : Int)] w fun e w' => e = .returned (.int .i64 (lfT left (Tr.list 6 n (fun k => trs (aT (f k)))).sz)) ∧ Below w.heap.size w w' := by
  obtain ⟨a9, c9, h9, -, hn⟩ := hs.shape
  simp only [Value.slice.injEq] at h9
  obtain ⟨-, rfl, -⟩ := h9
  clear a9 c9
  unfold maxLen at hn
  have w1 : IntKind.i64.wrap ((left : Int) - (n' : Int)) = (left : Int) - (n' : Int) := by rw [IntKind.wrap_i64]; omega
  obtain ⟨g, hg⟩ : ∃ g : Nat → Nat, g = fun k => szT 6 (trs (aT (f k))) := ⟨_, rfl⟩
  have HT : Hid ((Tr.list 6 n' (fun k => trs (aT (f k)))).sz = n' + sumN n' g) := by show _ = _; rw [hg]; exact Tr.sz_list _ _ _
  have HG : Hid (∀ k, g k = szT 6 (trs (aT (f k)))) := by show ∀ k, g k = _; intro k; rw [hg]
  clear hg
  by_cases h0 : n' ≤ left
  · have h1 : ¬ ((left : Int) - (n' : Int) < 0) := by omega
    have HS : Hid (Rd w 0 (.list 6 n' (fun k => trs (aT (f k)))) (.slice a n' cap)) := hs
    have HL : Hid (left ≤ 1048576) := hl
    clear hs hn
    go_enter Try.func33, Try.ntmps33
    go_wp2
    go_loopw [1, 5] (fun lv i wr => ∃ k : Nat, k ≤ n' ∧ i = .int .i64 k ∧ n' + sumN k g ≤ left ∧ lv = .int .i64 ((left : Int) - (n' : Int) - (sumN k g : Int)) ∧ Below w.heap.size w wr) (fun _ i _ => n' - (intOf i).toNat)
    case atStart => exact ⟨0, Nat.zero_le _, rfl, by simp [sumN]; omega, by simp [sumN], Below.refl _ _⟩
    case round =>
      obtain ⟨k, hk, rfl, ht, rfl, hb⟩ := hrel
      by_cases hlt : k < n'
      · have hi : (k : Int) < (n' : Int) := by omega
        obtain ⟨b, off, vs, rfl, _, hb0, hlen, hr, hrd⟩ := (HS.out.below hb).at hlt
        obtain ⟨a1, c1, a2, c2, rfl, r1, r2⟩ := VA.cells hrd hlen
        clear hlen hrd
        have d0 : wr.cell? ⟨b, off + k * 6, none⟩ = _ := hr 0 _ rfl
        have d1 : wr.cell? ⟨b, off + k * 6 + 1, none⟩ = _ := hr 1 _ rfl
        have d2 : wr.cell? ⟨b, off + k * 6 + 2, none⟩ = _ := hr 2 _ rfl
        have d3 : wr.cell? ⟨b, off + k * 6 + 3, none⟩ = _ := hr 3 _ rfl
        have d4 : wr.cell? ⟨b, off + k * 6 + 4, none⟩ = _ := hr 4 _ rfl
        have d5 : wr.cell? ⟨b, off + k * 6 + 5, none⟩ = _ := hr 5 _ rfl
        obtain ⟨lf, hlf⟩ : ∃ lf : Nat, (lf : Int) = (left : Int) - (n' : Int) - (sumN k g : Int) := ⟨left - n' - sumN k g, by omega⟩
        rw [← hlf]
        obtain ⟨x, hx⟩ : ∃ x, x = g k := ⟨_, rfl⟩
        have HK : Hid ((lf : Int) = (left : Int) - (n' : Int) - (sumN k g : Int) ∧ lf ≤ 1048576 ∧ sumN (k + 1) g = sumN k g + x ∧ Below w.heap.size w wr ∧ x = szT 6 (trs (aT (f k))) ∧ Rd wr 0 (intsT (f k).ws) (.slice a1 ((f k).ws.length) c1) ∧ Rd wr 0 (boolsT (f k).bs) (.slice a2 ((f k).bs.length) c2)) := ⟨hlf, by have := HL.out; omega, by rw [hx]; rfl, hb, by rw [hx]; exact HG.out k, r1, r2⟩
        clear hlf hb HS hx hr hb0 r1 r2
        by_cases hf : x ≤ lf
        · obtain ⟨lg, hlg⟩ : ∃ m : Nat, m + x = lf := ⟨lf - x, by omega⟩
          have hx0 : ¬ ((lg : Int) < 0) := by omega
          have HF : Hid (lfT lf (szT 6 (trs (aT (f k)))) = (lg : Int) ∧ (lg : Int) = (left : Int) - (n' : Int) - (sumN (k + 1) g : Int) ∧ n' + sumN (k + 1) g ≤ left) := by
            have h9 := HK.out
            refine ⟨?_, ?_, ?_⟩
            · rw [← h9.2.2.2.2.1]; unfold lfT; rw [if_pos hf]; omega
            · omega
            · omega
          clear ht hf hlg
          go_wp2_with fail
          refine (szResp_t (f k) a1 ((f k).ws.length) c1 a2 ((f k).bs.length) c2 lf _ HK.out.2.2.2.2.2.1 HK.out.2.2.2.2.2.2 HK.out.2.1).mono ?_
          rintro e w2 ⟨rfl, b2⟩
          rw [HF.out.1]
          have HB : Hid (Below w.heap.size w w2) := bel_nx HK.out.2.2.2.1 b2
          clear b2 d0 d1 d2 d3 d4 d5
          go_wp2
          go_roundw
          case rel => exact ⟨k + 1, by omega, by go_num, HF.out.2.2, by rw [HF.out.2.1], HB.out⟩
          case measure => simp [intOf]; omega
        · have HF : Hid (lfT lf (szT 6 (trs (aT (f k)))) = -1 ∧ lfT left (Tr.list 6 n' (fun k => trs (aT (f k)))).sz = -1) := by
            have h9 := HK.out
            have h8 := sumN_mono g (show k + 1 ≤ n' by omega)
            have h7 := HT.out
            refine ⟨?_, ?_⟩
            · rw [← h9.2.2.2.2.1]; unfold lfT; rw [if_neg hf]
            · rw [h7]; unfold lfT; rw [if_neg (by omega)]
          clear ht hf
          go_wp2_with fail
          refine (szResp_t (f k) a1 ((f k).ws.length) c1 a2 ((f k).bs.length) c2 lf _ HK.out.2.2.2.2.2.1 HK.out.2.2.2.2.2.2 HK.out.2.1).mono ?_
          rintro e w2 ⟨rfl, b2⟩
          rw [HF.out.1]
          have HB : Hid (Below w.heap.size w w2) := bel_nx HK.out.2.2.2.1 b2
          clear b2 d0 d1 d2 d3 d4 d5
          go_wp2
          go_ret
          exact ⟨(by rw [HF.out.2]; rfl), HB.out⟩
      · have hi : ¬ (k : Int) < (n' : Int) := by omega
        have e9 : k = n' := by omega
        subst e9
        have HE : Hid (lfT left (Tr.list 6 k (fun k => trs (aT (f k)))).sz = (left : Int) - (k : Int) - (sumN k g : Int)) := by
          show _ = _
          rw [HT.out]; unfold lfT; rw [if_pos ht]; omega
        clear ht
        go_wp2
        go_ret
        exact ⟨(by rw [HE.out]; rfl), hb⟩
  · have h1 : (left : Int) - (n' : Int) < 0 := by omega
    have HE : Hid (lfT left (Tr.list 6 n' (fun k => trs (aT (f k)))).sz = -1) := by
      show _ = _
      rw [HT.out]; unfold lfT; rw [if_neg (by omega)]
    clear hs hn hl
    go_enter Try.func33, Try.ntmps33
    go_wp2
    go_ret
    exact ⟨(by rw [HE.out]; rfl), Below.refl _ _⟩
set_option maxRecDepth 20000 in
set_option maxHeartbeats 2000000 in
theorem szPart_t (X : VP) (a1 : Option Addr) (l1 c1 : Nat) (a2 : Option Addr) (l2 c2 : Nat) (left : Nat) (w : World) (r1 : Rd w 0 (intsT X.q.ws) (.slice a1 l1 c1)) (r2 : Rd w 0 (boolsT X.q.bs) (.slice a2 l2 c2)) (hl : left ≤ 1048576) :
    Calls Try.prog 55 #[.agg (pL X a1 l1 c1 a2 l2 c2).toArray, .int .i64 (left : Int)] w fun e w' => e = .returned (.int .i64 (lfT left (szT 8 (trs (pT X))))) ∧ Below w.heap.size w w' := by
  have HT : Hid (szT 8 (trs (pT X)) = szT 6 (trs (qT X.q))) := by
    show _ = _
    simp only [szT_p, szT_q]
    try omega
  obtain ⟨t1, ht1⟩ : ∃ t : Nat, t = szT 6 (trs (qT X.q)) := ⟨_, rfl⟩
  obtain ⟨W, hW⟩ : ∃ W, W = w.alloc (.cells (pL X a1 l1 c1 a2 l2 c2).toArray 91) := ⟨_, rfl⟩
  have H0 : Hid (Below w.heap.size w W ∧ Blk W w.heap.size 91 (pL X a1 l1 c1 a2 l2 c2).toArray ∧ szT 8 (trs (pT X)) = t1 ∧ Rd w 0 (intsT X.q.ws) (.slice a1 l1 c1) ∧ Rd w 0 (boolsT X.q.bs) (.slice a2 l2 c2)) := ⟨by rw [hW]; exact bel_alloc _ _, by rw [hW]; exact Blk.new _ _ _, by rw [HT.out]; omega, r1, r2⟩
  have K1 : Hid (t1 = szT 6 (trs (qT X.q))) := ht1
  clear HT r1 r2 ht1
  go_enter Try.func55, Try.ntmps55
  go_upto_region 1 with fail
  rw [← hW]
  clear hW
  have G0 : Hid (Below w.heap.size w W ∧ Blk W w.heap.size 91 (pL X a1 l1 c1 a2 l2 c2).toArray) := ⟨H0.out.1, H0.out.2.1⟩
  have Q0 : Hid (left ≤ 1048576 ∧ left = left) := ⟨hl, rfl⟩
  obtain ⟨⟨y0, y1, y2, y3, y4, y5, y6, y7⟩, yf⟩ := G0.out.2.tc8
  clear yf
  by_cases g1 : t1 ≤ left
  rotate_left
  · have E : Hid (lfT left (szT 6 (trs (qT X.q))) = -1 ∧ lfT left (szT 8 (trs (pT X))) = -1) := by
      have h9 := Q0.out.2
      have h8 := H0.out.2.2.1
      refine ⟨?_, ?_⟩
      · rw [← K1.out]; unfold lfT; rw [if_neg g1]
      · rw [h8]; unfold lfT; rw [if_neg (by omega)]
    go_wp2_with fail
    refine (szReq_t X.q a1 l1 c1 a2 l2 c2 left _ (H0.out.2.2.2.1.below G0.out.1) (H0.out.2.2.2.2.below G0.out.1) Q0.out.1).mono ?_
    rintro e w9 ⟨rfl, b9⟩
    rw [E.out.1]
    have B9 := bel_nx G0.out.1 b9
    clear b9 y0 y1 y2 y3 y4 y5 y6 y7
    go_wp2
    go_ret
    exact ⟨by rw [E.out.2]; rfl, B9⟩
  · obtain ⟨L1, hL1⟩ : ∃ m : Nat, m + t1 = left := ⟨left - t1, by omega⟩
    have E1 : Hid (lfT left (szT 6 (trs (qT X.q))) = (L1 : Int)) := by
      show _ = _
      rw [← K1.out]; unfold lfT; rw [if_pos g1]; omega
    have n1 : ¬ ((L1 : Int) < 0) := by omega
    have Q1 : Hid (L1 ≤ 1048576 ∧ L1 + t1 = left) := by
      have h9 := Q0.out
      exact ⟨by omega, by omega⟩
    clear hL1 g1
    go_wp2_with fail
    refine (szReq_t X.q a1 l1 c1 a2 l2 c2 left _ (H0.out.2.2.2.1.below G0.out.1) (H0.out.2.2.2.2.below G0.out.1) Q0.out.1).mono ?_
    rintro e w1 ⟨rfl, b1⟩
    rw [E1.out]
    have G1 : Hid (Below w.heap.size w w1 ∧ Blk w1 w.heap.size 91 (pL X a1 l1 c1 a2 l2 c2).toArray) := ⟨bel_nx G0.out.1 b1, G0.out.2.below b1⟩
    clear b1 y0 y1 y2 y3 y4 y5 y6 y7
    have E : Hid (lfT left (szT 8 (trs (pT X))) = (L1 : Int)) := by
      have h9 := Q1.out.2
      have h8 := H0.out.2.2.1
      show _ = _
      rw [h8]; unfold lfT; rw [if_pos (by omega)]; omega
    go_wp2
    go_ret
    exact ⟨by rw [E.out]; rfl, G1.out.1⟩
set_option maxRecDepth 20000 in
set_option maxHeartbeats 2000000 in
theorem szPartS_t (n : Nat) (f : Nat → VP) (a : Option Addr) (n' cap : Nat) (left : Nat) (w : World) (hs : Rd w 0 (.list 8 n (fun k => trs (pT (f k)))) (.slice a n' cap)) (hl : left ≤ 1048576) :
    Calls Try.prog 31 #[.slice a n' cap, .int .i64 (left : Int)] w fun e w' => e = .returned (.int .i64 (lfT left (Tr.list 8 n (fun k => trs (pT (f k)))).sz)) ∧ Below w.heap.size w w' := by
  obtain ⟨a9, c9, h9, -, hn⟩ := hs.shape
  simp only [Value.slice.injEq] at h9
  obtain ⟨-, rfl, -⟩ := h9
  clear a9 c9
  unfold maxLen at hn
  have w1 : IntKind.i64.wrap ((left : Int) - (n' : Int)) = (left : Int) - (n' : Int) := by rw [IntKind.wrap_i64]; omega
  obtain ⟨g, hg⟩ : ∃ g : Nat → Nat, g = fun k => szT 8 (trs (pT (f k))) := ⟨_, rfl⟩
  have HT : Hid ((Tr.list 8 n' (fun k => trs (pT (f k)))).sz = n' + sumN n' g) := by show _ = _; rw [hg]; exact Tr.sz_list _ _ _
  have HG : Hid (∀ k, g k = szT 8 (trs (pT (f k)))) := by show ∀ k, g k = _; intro k; rw [hg]
  clear hg
  by_cases h0 : n' ≤ left
  · have h1 : ¬ ((left : Int) - (n' : Int) < 0) := by omega
    have HS : Hid (Rd w 0 (.list 8 n' (fun k => trs (pT (f k)))) (.slice a n' cap)) := hs
    have HL : Hid (left ≤ 1048576) := hl
    clear hs hn
    go_enter Try.func31, Try.ntmps31
    go_wp2
    go_loopw [1, 5] (fun lv i wr => ∃ k : Nat, k ≤ n' ∧ i = .int .i64 k ∧ n' + sumN k g ≤ left ∧ lv = .int .i64 ((left : Int) - (n' : Int) - (sumN k g : Int)) ∧ Below w.heap.size w wr) (fun _ i _ => n' - (intOf i).toNat)
    case atStart => exact ⟨0, Nat.zero_le _, rfl, by simp [sumN]; omega, by simp [sumN], Below.refl _ _⟩
    case round =>
      obtain ⟨k, hk, rfl, ht, rfl, hb⟩ := hrel
      by_cases hlt : k < n'
      · have hi : (k : Int) < (n' : Int) := by omega
        obtain ⟨b, off, vs, rfl, _, hb0, hlen, hr, hrd⟩ := (HS.out.below hb).at hlt
        obtain ⟨a1, c1, a2, c2, rfl, r1, r2⟩ := VP.cells hrd hlen
        clear hlen hrd
        have d0 : wr.cell? ⟨b, off + k * 8, none⟩ = _ := hr 0 _ rfl
        have d1 : wr.cell? ⟨b, off + k * 8 + 1, none⟩ = _ := hr 1 _ rfl
        have d2 : wr.cell? ⟨b, off + k * 8 + 2, none⟩ = _ := hr 2 _ rfl
        have d3 : wr.cell? ⟨b, off + k * 8 + 3, none⟩ = _ := hr 3 _ rfl
        have d4 : wr.cell? ⟨b, off + k * 8 + 4, none⟩ = _ := hr 4 _ rfl
        have d5 : wr.cell? ⟨b, off + k * 8 + 5, none⟩ = _ := hr 5 _ rfl
        have d6 : wr.cell? ⟨b, off + k * 8 + 6, none⟩ = _ := hr 6 _ rfl
        have d7 : wr.cell? ⟨b, off + k * 8 + 7, none⟩ = _ := hr 7 _ rfl
        obtain ⟨lf, hlf⟩ : ∃ lf : Nat, (lf : Int) = (left : Int) - (n' : Int) - (sumN k g : Int) := ⟨left - n' - sumN k g, by omega⟩
        rw [← hlf]
        obtain ⟨x, hx⟩ : ∃ x, x = g k := ⟨_, rfl⟩
        have HK : Hid ((lf : Int) = (left : Int) - (n' : Int) - (sumN k g : Int) ∧ lf ≤ 1048576 ∧ sumN (k + 1) g = sumN k g + x ∧ Below w.heap.size w wr ∧ x = szT 8 (trs (pT (f k))) ∧ Rd wr 0 (intsT (f k).q.ws) (.slice a1 ((f k).q.ws.length) c1) ∧ Rd wr 0 (boolsT (f k).q.bs) (.slice a2 ((f k).q.bs.length) c2)) := ⟨hlf, by have := HL.out; omega, by rw [hx]; rfl, hb, by rw [hx]; exact HG.out k, r1, r2⟩
        clear hlf hb HS hx hr hb0 r1 r2
        by_cases hf : x ≤ lf
        · obtain ⟨lg, hlg⟩ : ∃ m : Nat, m + x = lf := ⟨lf - x, by omega⟩
          have hx0 : ¬ ((lg : Int) < 0) := by omega
          have HF : Hid (lfT lf (szT 8 (trs (pT (f k)))) = (lg : Int) ∧ (lg : Int) = (left : Int) - (n' : Int) - (sumN (k + 1) g : Int) ∧ n' + sumN (k + 1) g ≤ left) := by
            have h9 := HK.out
            refine ⟨?_, ?_, ?_⟩
            · rw [← h9.2.2.2.2.1]; unfold lfT; rw [if_pos hf]; omega
            · omega
            · omega
          clear ht hf hlg
          go_wp2_with fail
          refine (szPart_t (f k) a1 ((f k).q.ws.length) c1 a2 ((f k).q.bs.length) c2 lf _ HK.out.2.2.2.2.2.1 HK.out.2.2.2.2.2.2 HK.out.2.1).mono ?_
          rintro e w2 ⟨rfl, b2⟩
          rw [HF.out.1]
          have HB : Hid (Below w.heap.size w w2) := bel_nx HK.out.2.2.2.1 b2
          clear b2 d0 d1 d2 d3 d4 d5 d6 d7
          go_wp2
          go_roundw
          case rel => exact ⟨k + 1, by omega, by go_num, HF.out.2.2, by rw [HF.out.2.1], HB.out⟩
          case measure => simp [intOf]; omega
        · have HF : Hid (lfT lf (szT 8 (trs (pT (f k)))) = -1 ∧ lfT left (Tr.list 8 n' (fun k => trs (pT (f k)))).sz = -1) := by
            have h9 := HK.out
            have h8 := sumN_mono g (show k + 1 ≤ n' by omega)
            have h7 := HT.out
            refine ⟨?_, ?_⟩
            · rw [← h9.2.2.2.2.1]; unfold lfT; rw [if_neg hf]
            · rw [h7]; unfold lfT; rw [if_neg (by omega)]
          clear ht hf
          go_wp2_with fail
          refine (szPart_t (f k) a1 ((f k).q.ws.length) c1 a2 ((f k).q.bs.length) c2 lf _ HK.out.2.2.2.2.2.1 HK.out.2.2.2.2.2.2 HK.out.2.1).mono ?_
          rintro e w2 ⟨rfl, b2⟩
          rw [HF.out.1]
          have HB : Hid (Below w.heap.size w w2) := bel_nx HK.out.2.2.2.1 b2
          clear b2 d0 d1 d2 d3 d4 d5 d6 d7
          go_wp2
          go_ret
          exact ⟨(by rw [HF.out.2]; rfl), HB.out⟩
      · have hi : ¬ (k : Int) < (n' : Int) := by omega
        have e9 : k = n' := by omega
        subst e9
        have HE : Hid (lfT left (Tr.list 8 k (fun k => trs (pT (f k)))).sz = (left : Int) - (k : Int) - (sumN k g : Int)) := by
          show _ = _
          rw [HT.out]; unfold lfT; rw [if_pos ht]; omega
        clear ht
        go_wp2
        go_ret
        exact ⟨(by rw [HE.out]; rfl), hb⟩
  · have h1 : (left : Int) - (n' : Int) < 0 := by omega
    have HE : Hid (lfT left (Tr.list 8 n' (fun k => trs (pT (f k)))).sz = -1) := by
      show _ = _
      rw [HT.out]; unfold lfT; rw [if_neg (by omega)]
    clear hs hn hl
    go_enter Try.func31, Try.ntmps31
    go_wp2
    go_ret
    exact ⟨(by rw [HE.out]; rfl), Below.refl _ _⟩
set_option maxRecDepth 20000 in
set_option maxHeartbeats 2000000 in
theorem szPend_t (X : VD) (a1 : Option Addr) (l1 c1 : Nat) (a2 : Option Addr) (l2 c2 : Nat) (a3 : Option Addr) (l3 c3 : Nat) (a4 : Option Addr) (l4 c4 : Nat) (a5 : Option Addr) (l5 c5 : Nat) (left : Nat) (w : World) (r1 : Rd w 0 (intsT X.q.ws) (.slice a1 l1 c1)) (r2 : Rd w 0 (boolsT X.q.bs) (.slice a2 l2 c2)) (r3 : Rd w 0 (.list 8 X.np (fun i => trs (pT (X.pt i)))) (.slice a3 l3 c3)) (r4 : Rd w 0 (boolsT X.hs) (.slice a4 l4 c4)) (r5 : Rd w 0 (.list 6 X.nt (fun i => trs (aT (X.tl i)))) (.slice a5 l5 c5)) (hl : left ≤ 1048576) :
    Calls Try.prog 20 #[.agg (dL X a1 l1 c1 a2 l2 c2 a3 l3 c3 a4 l4 c4 a5 l5 c5).toArray, .int .i64 (left : Int)] w fun e w' => e = .returned (.int .i64 (lfT left (szT 13 (trs (dT X))))) ∧ Below w.heap.size w w' := by
  have HT : Hid (szT 13 (trs (dT X)) = szT 6 (trs (qT X.q)) + (Tr.list 8 X.np (fun i => trs (pT (X.pt i)))).sz + X.hs.length + (Tr.list 6 X.nt (fun i => trs (aT (X.tl i)))).sz) := by
    show _ = _
    simp only [szT_d, szT_q]
    try omega
  obtain ⟨t1, ht1⟩ : ∃ t : Nat, t = szT 6 (trs (qT X.q)) := ⟨_, rfl⟩
  obtain ⟨t2, ht2⟩ : ∃ t : Nat, t = (Tr.list 8 X.np (fun i => trs (pT (X.pt i)))).sz := ⟨_, rfl⟩
  obtain ⟨t3, ht3⟩ : ∃ t : Nat, t = X.hs.length := ⟨_, rfl⟩
  obtain ⟨t4, ht4⟩ : ∃ t : Nat, t = (Tr.list 6 X.nt (fun i => trs (aT (X.tl i)))).sz := ⟨_, rfl⟩
  obtain ⟨W, hW⟩ : ∃ W, W = w.alloc (.cells (dL X a1 l1 c1 a2 l2 c2 a3 l3 c3 a4 l4 c4 a5 l5 c5).toArray 56) := ⟨_, rfl⟩
  have H0 : Hid (Below w.heap.size w W ∧ Blk W w.heap.size 56 (dL X a1 l1 c1 a2 l2 c2 a3 l3 c3 a4 l4 c4 a5 l5 c5).toArray ∧ szT 13 (trs (dT X)) = t1 + t2 + t3 + t4 ∧ Rd w 0 (intsT X.q.ws) (.slice a1 l1 c1) ∧ Rd w 0 (boolsT X.q.bs) (.slice a2 l2 c2) ∧ Rd w 0 (.list 8 X.np (fun i => trs (pT (X.pt i)))) (.slice a3 l3 c3) ∧ Rd w 0 (boolsT X.hs) (.slice a4 l4 c4) ∧ Rd w 0 (.list 6 X.nt (fun i => trs (aT (X.tl i)))) (.slice a5 l5 c5)) := ⟨by rw [hW]; exact bel_alloc _ _, by rw [hW]; exact Blk.new _ _ _, by rw [HT.out]; omega, r1, r2, r3, r4, r5⟩
  have K1 : Hid (t1 = szT 6 (trs (qT X.q))) := ht1
  have K2 : Hid (t2 = (Tr.list 8 X.np (fun i => trs (pT (X.pt i)))).sz) := ht2
  have K3 : Hid (t3 = X.hs.length) := ht3
  have K4 : Hid (t4 = (Tr.list 6 X.nt (fun i => trs (aT (X.tl i)))).sz) := ht4
  clear HT r1 r2 r3 r4 r5 ht1 ht2 ht3 ht4
  go_enter Try.func20, Try.ntmps20
  go_upto_region 1 with fail
  rw [← hW]
  clear hW
  have G0 : Hid (Below w.heap.size w W ∧ Blk W w.heap.size 56 (dL X a1 l1 c1 a2 l2 c2 a3 l3 c3 a4 l4 c4 a5 l5 c5).toArray) := ⟨H0.out.1, H0.out.2.1⟩
  have Q0 : Hid (left ≤ 1048576 ∧ left = left) := ⟨hl, rfl⟩
  obtain ⟨⟨y0, y1, y2, y3, y4, y5, y6, y7, y8, y9, y10, y11, y12⟩, yf⟩ := G0.out.2.tc13
  clear yf
  by_cases g1 : t1 ≤ left
  rotate_left
  · have E : Hid (lfT left (szT 6 (trs (qT X.q))) = -1 ∧ lfT left (szT 13 (trs (dT X))) = -1) := by
      have h9 := Q0.out.2
      have h8 := H0.out.2.2.1
      refine ⟨?_, ?_⟩
      · rw [← K1.out]; unfold lfT; rw [if_neg g1]
      · rw [h8]; unfold lfT; rw [if_neg (by omega)]
    go_wp2_with fail
    refine (szReq_t X.q a1 l1 c1 a2 l2 c2 left _ (H0.out.2.2.2.1.below G0.out.1) (H0.out.2.2.2.2.1.below G0.out.1) Q0.out.1).mono ?_
    rintro e w9 ⟨rfl, b9⟩
    rw [E.out.1]
    have B9 := bel_nx G0.out.1 b9
    clear b9 y0 y1 y2 y3 y4 y5 y6 y7 y8 y9 y10 y11 y12
    go_wp2
    go_ret
    exact ⟨by rw [E.out.2]; rfl, B9⟩
  · obtain ⟨L1, hL1⟩ : ∃ m : Nat, m + t1 = left := ⟨left - t1, by omega⟩
    have E1 : Hid (lfT left (szT 6 (trs (qT X.q))) = (L1 : Int)) := by
      show _ = _
      rw [← K1.out]; unfold lfT; rw [if_pos g1]; omega
    have n1 : ¬ ((L1 : Int) < 0) := by omega
    have Q1 : Hid (L1 ≤ 1048576 ∧ L1 + t1 = left) := by
      have h9 := Q0.out
      exact ⟨by omega, by omega⟩
    clear hL1 g1
    go_wp2_with fail
    refine (szReq_t X.q a1 l1 c1 a2 l2 c2 left _ (H0.out.2.2.2.1.below G0.out.1) (H0.out.2.2.2.2.1.below G0.out.1) Q0.out.1).mono ?_
    rintro e w1 ⟨rfl, b1⟩
    rw [E1.out]
    have G1 : Hid (Below w.heap.size w w1 ∧ Blk w1 w.heap.size 56 (dL X a1 l1 c1 a2 l2 c2 a3 l3 c3 a4 l4 c4 a5 l5 c5).toArray) := ⟨bel_nx G0.out.1 b1, G0.out.2.below b1⟩
    clear b1 y0 y1 y2 y3 y4 y5 y6 y7 y8 y9 y10 y11 y12
    obtain ⟨⟨y0, y1, y2, y3, y4, y5, y6, y7, y8, y9, y10, y11, y12⟩, yf⟩ := G1.out.2.tc13
    clear yf
    by_cases g2 : t2 ≤ L1
    rotate_left
    · have E : Hid (lfT L1 ((Tr.list 8 X.np (fun i => trs (pT (X.pt i)))).sz) = -1 ∧ lfT left (szT 13 (trs (dT X))) = -1) := by
        have h9 := Q1.out.2
        have h8 := H0.out.2.2.1
        refine ⟨?_, ?_⟩
        · rw [← K2.out]; unfold lfT; rw [if_neg g2]
        · rw [h8]; unfold lfT; rw [if_neg (by omega)]
      go_wp2_with fail
      refine (szPartS_t X.np X.pt a3 l3 c3 L1 _ (H0.out.2.2.2.2.2.1.below G1.out.1) Q1.out.1).mono ?_
      rintro e w9 ⟨rfl, b9⟩
      rw [E.out.1]
      have B9 := bel_nx G1.out.1 b9
      clear b9 y0 y1 y2 y3 y4 y5 y6 y7 y8 y9 y10 y11 y12
      go_wp2
      go_ret
      exact ⟨by rw [E.out.2]; rfl, B9⟩
    · obtain ⟨L2, hL2⟩ : ∃ m : Nat, m + t2 = L1 := ⟨L1 - t2, by omega⟩
      have E2 : Hid (lfT L1 ((Tr.list 8 X.np (fun i => trs (pT (X.pt i)))).sz) = (L2 : Int)) := by
        show _ = _
        rw [← K2.out]; unfold lfT; rw [if_pos g2]; omega
      have n2 : ¬ ((L2 : Int) < 0) := by omega
      have Q2 : Hid (L2 ≤ 1048576 ∧ L2 + t1 + t2 = left) := by
        have h9 := Q1.out
        exact ⟨by omega, by omega⟩
      clear hL2 g2
      go_wp2_with fail
      refine (szPartS_t X.np X.pt a3 l3 c3 L1 _ (H0.out.2.2.2.2.2.1.below G1.out.1) Q1.out.1).mono ?_
      rintro e w2 ⟨rfl, b2⟩
      rw [E2.out]
      have G2 : Hid (Below w.heap.size w w2 ∧ Blk w2 w.heap.size 56 (dL X a1 l1 c1 a2 l2 c2 a3 l3 c3 a4 l4 c4 a5 l5 c5).toArray) := ⟨bel_nx G1.out.1 b2, G1.out.2.below b2⟩
      clear b2 y0 y1 y2 y3 y4 y5 y6 y7 y8 y9 y10 y11 y12
      obtain ⟨⟨y0, y1, y2, y3, y4, y5, y6, y7, y8, y9, y10, y11, y12⟩, yf⟩ := G2.out.2.tc13
      clear yf
      by_cases g3 : t3 ≤ L2
      rotate_left
      · have E : Hid (lfT L2 (X.hs.length) = -1 ∧ lfT left (szT 13 (trs (dT X))) = -1) := by
          have h9 := Q2.out.2
          have h8 := H0.out.2.2.1
          refine ⟨?_, ?_⟩
          · rw [← K3.out]; unfold lfT; rw [if_neg g3]
          · rw [h8]; unfold lfT; rw [if_neg (by omega)]
        go_wp2_with fail
        refine (szBoolS_t X.hs a4 l4 c4 L2 _ (H0.out.2.2.2.2.2.2.1.below G2.out.1) Q2.out.1).mono ?_
        rintro e w9 ⟨rfl, b9⟩
        rw [E.out.1]
        have B9 := bel_nx G2.out.1 b9
        clear b9 y0 y1 y2 y3 y4 y5 y6 y7 y8 y9 y10 y11 y12
        go_wp2
        go_ret
        exact ⟨by rw [E.out.2]; rfl, B9⟩
      · obtain ⟨L3, hL3⟩ : ∃ m : Nat, m + t3 = L2 := ⟨L2 - t3, by omega⟩
        have E3 : Hid (lfT L2 (X.hs.length) = (L3 : Int)) := by
          show _ = _
          rw [← K3.out]; unfold lfT; rw [if_pos g3]; omega
        have n3 : ¬ ((L3 : Int) < 0) := by omega
        have Q3 : Hid (L3 ≤ 1048576 ∧ L3 + t1 + t2 + t3 = left) := by
          have h9 := Q2.out
          exact ⟨by omega, by omega⟩
        clear hL3 g3
        go_wp2_with fail
        refine (szBoolS_t X.hs a4 l4 c4 L2 _ (H0.out.2.2.2.2.2.2.1.below G2.out.1) Q2.out.1).mono ?_
        rintro e w3 ⟨rfl, b3⟩
        rw [E3.out]
        have G3 : Hid (Below w.heap.size w w3 ∧ Blk w3 w.heap.size 56 (dL X a1 l1 c1 a2 l2 c2 a3 l3 c3 a4 l4 c4 a5 l5 c5).toArray) := ⟨bel_nx G2.out.1 b3, G2.out.2.below b3⟩
        clear b3 y0 y1 y2 y3 y4 y5 y6 y7 y8 y9 y10 y11 y12
        obtain ⟨⟨y0, y1, y2, y3, y4, y5, y6, y7, y8, y9, y10, y11, y12⟩, yf⟩ := G3.out.2.tc13
        clear yf
        by_cases g4 : t4 ≤ L3
        rotate_left
        · have E : Hid (lfT L3 ((Tr.list 6 X.nt (fun i => trs (aT (X.tl i)))).sz) = -1 ∧ lfT left (szT 13 (trs (dT X))) = -1) := by
            have h9 := Q3.out.2
            have h8 := H0.out.2.2.1
            refine ⟨?_, ?_⟩
            · rw [← K4.out]; unfold lfT; rw [if_neg g4]
            · rw [h8]; unfold lfT; rw [if_neg (by omega)]
          go_wp2_with fail
          refine (szRespS_t X.nt X.tl a5 l5 c5 L3 _ (H0.out.2.2.2.2.2.2.2.below G3.out.1) Q3.out.1).mono ?_
          rintro e w9 ⟨rfl, b9⟩
          rw [E.out.1]
          have B9 := bel_nx G3.out.1 b9
          clear b9 y0 y1 y2 y3 y4 y5 y6 y7 y8 y9 y10 y11 y12
          go_wp2
          go_ret
          exact ⟨by rw [E.out.2]; rfl, B9⟩
        · obtain ⟨L4, hL4⟩ : ∃ m : Nat, m + t4 = L3 := ⟨L3 - t4, by omega⟩
          have E4 : Hid (lfT L3 ((Tr.list 6 X.nt (fun i => trs (aT (X.tl i)))).sz) = (L4 : Int)) := by
            show _ = _
            rw [← K4.out]; unfold lfT; rw [if_pos g4]; omega
          have n4 : ¬ ((L4 : Int) < 0) := by omega
          have Q4 : Hid (L4 ≤ 1048576 ∧ L4 + t1 + t2 + t3 + t4 = left) := by
            have h9 := Q3.out
            exact ⟨by omega, by omega⟩
          clear hL4 g4
          go_wp2_with fail
          refine (szRespS_t X.nt X.tl a5 l5 c5 L3 _ (H0.out.2.2.2.2.2.2.2.below G3.out.1) Q3.out.1).mono ?_
          rintro e w4 ⟨rfl, b4⟩
          rw [E4.out]
          have G4 : Hid (Below w.heap.size w w4 ∧ Blk w4 w.heap.size 56 (dL X a1 l1 c1 a2 l2 c2 a3 l3 c3 a4 l4 c4 a5 l5 c5).toArray) := ⟨bel_nx G3.out.1 b4, G3.out.2.below b4⟩
          clear b4 y0 y1 y2 y3 y4 y5 y6 y7 y8 y9 y10 y11 y12
          have E : Hid (lfT left (szT 13 (trs (dT X))) = (L4 : Int)) := by
            have h9 := Q4.out.2
            have h8 := H0.out.2.2.1
            show _ = _
            rw [h8]; unfold lfT; rw [if_pos (by omega)]; omega
          go_wp2
          go_ret
          exact ⟨by rw [E.out]; rfl, G4.out.1⟩
set_option maxRecDepth 20000 in
set_option maxHeartbeats 2000000 in
theorem szPendS_t (n : Nat) (f : Nat → VD) (a : Option Addr) (n' cap : Nat) (left : Nat) (w : World) (hs : Rd w 0 (.list 13 n (fun k => trs (dT (f k)))) (.slice a n' cap)) (hl : left ≤ 1048576) :
    Calls Try.prog 12 #[.slice a n' cap, .int .i64 (left : Int)] w fun e w' => e = .returned (.int .i64 (lfT left (Tr.list 13 n (fun k => trs (dT (f k)))).sz)) ∧ Below w.heap.size w w' := by
  obtain ⟨a9, c9, h9, -, hn⟩ := hs.shape
  simp only [Value.slice.injEq] at h9
  obtain ⟨-, rfl, -⟩ := h9
  clear a9 c9
  unfold maxLen at hn
  have w1 : IntKind.i64.wrap ((left : Int) - (n' : Int)) = (left : Int) - (n' : Int) := by rw [IntKind.wrap_i64]; omega
  obtain ⟨g, hg⟩ : ∃ g : Nat → Nat, g = fun k => szT 13 (trs (dT (f k))) := ⟨_, rfl⟩
  have HT : Hid ((Tr.list 13 n' (fun k => trs (dT (f k)))).sz = n' + sumN n' g) := by show _ = _; rw [hg]; exact Tr.sz_list _ _ _
  have HG : Hid (∀ k, g k = szT 13 (trs (dT (f k)))) := by show ∀ k, g k = _; intro k; rw [hg]
  clear hg
  by_cases h0 : n' ≤ left
  · have h1 : ¬ ((left : Int) - (n' : Int) < 0) := by omega
    have HS : Hid (Rd w 0 (.list 13 n' (fun k => trs (dT (f k)))) (.slice a n' cap)) := hs
    have HL : Hid (left ≤ 1048576) := hl
    clear hs hn
    go_enter Try.func12, Try.ntmps12
    go_wp2
    go_loopw [1, 5] (fun lv i wr => ∃ k : Nat, k ≤ n' ∧ i = .int .i64 k ∧ n' + sumN k g ≤ left ∧ lv = .int .i64 ((left : Int) - (n' : Int) - (sumN k g : Int)) ∧ Below w.heap.size w wr) (fun _ i _ => n' - (intOf i).toNat)
    case atStart => exact ⟨0, Nat.zero_le _, rfl, by simp [sumN]; omega, by simp [sumN], Below.refl _ _⟩
    case round =>
      obtain ⟨k, hk, rfl, ht, rfl, hb⟩ := hrel
      by_cases hlt : k < n'
      · have hi : (k : Int) < (n' : Int) := by omega
        obtain ⟨b, off, vs, rfl, _, hb0, hlen, hr, hrd⟩ := (HS.out.below hb).at hlt
        obtain ⟨a1, c1, a2, c2, a3, c3, a4, c4, a5, c5, rfl, r1, r2, r3, r4, r5⟩ := VD.cells hrd hlen
        clear hlen hrd
        have d0 : wr.cell? ⟨b, off + k * 13, none⟩ = _ := hr 0 _ rfl
        have d1 : wr.cell? ⟨b, off + k * 13 + 1, none⟩ = _ := hr 1 _ rfl
        have d2 : wr.cell? ⟨b, off + k * 13 + 2, none⟩ = _ := hr 2 _ rfl
        have d3 : wr.cell? ⟨b, off + k * 13 + 3, none⟩ = _ := hr 3 _ rfl
        have d4 : wr.cell? ⟨b, off + k * 13 + 4, none⟩ = _ := hr 4 _ rfl
        have d5 : wr.cell? ⟨b, off + k * 13 + 5, none⟩ = _ := hr 5 _ rfl
        have d6 : wr.cell? ⟨b, off + k * 13 + 6, none⟩ = _ := hr 6 _ rfl
        have d7 : wr.cell? ⟨b, off + k * 13 + 7, none⟩ = _ := hr 7 _ rfl
        have d8 : wr.cell? ⟨b, off + k * 13 + 8, none⟩ = _ := hr 8 _ rfl
        have d9 : wr.cell? ⟨b, off + k * 13 + 9, none⟩ = _ := hr 9 _ rfl
        have d10 : wr.cell? ⟨b, off + k * 13 + 10, none⟩ = _ := hr 10 _ rfl
        have d11 : wr.cell? ⟨b, off + k * 13 + 11, none⟩ = _ := hr 11 _ rfl
        have d12 : wr.cell? ⟨b, off + k * 13 + 12, none⟩ = _ := hr 12 _ rfl
        obtain ⟨lf, hlf⟩ : ∃ lf : Nat, (lf : Int) = (left : Int) - (n' : Int) - (sumN k g : Int) := ⟨left - n' - sumN k g, by omega⟩
        rw [← hlf]
        obtain ⟨x, hx⟩ : ∃ x, x = g k := ⟨_, rfl⟩
        have HK : Hid ((lf : Int) = (left : Int) - (n' : Int) - (sumN k g : Int) ∧ lf ≤ 1048576 ∧ sumN (k + 1) g = sumN k g + x ∧ Below w.heap.size w wr ∧ x = szT 13 (trs (dT (f k))) ∧ Rd wr 0 (intsT (f k).q.ws) (.slice a1 ((f k).q.ws.length) c1) ∧ Rd wr 0 (boolsT (f k).q.bs) (.slice a2 ((f k).q.bs.length) c2) ∧ Rd wr 0 (.list 8 (f k).np (fun i => trs (pT ((f k).pt i)))) (.slice a3 ((f k).np) c3) ∧ Rd wr 0 (boolsT (f k).hs) (.slice a4 ((f k).hs.length) c4) ∧ Rd wr 0 (.list 6 (f k).nt (fun i => trs (aT ((f k).tl i)))) (.slice a5 ((f k).nt) c5)) := ⟨hlf, by have := HL.out; omega, by rw [hx]; rfl, hb, by rw [hx]; exact HG.out k, r1, r2, r3, r4, r5⟩
        clear hlf hb HS hx hr hb0 r1 r2 r3 r4 r5
        by_cases hf : x ≤ lf
        · obtain ⟨lg, hlg⟩ : ∃ m : Nat, m + x = lf := ⟨lf - x, by omega⟩
          have hx0 : ¬ ((lg : Int) < 0) := by omega
          have HF : Hid (lfT lf (szT 13 (trs (dT (f k)))) = (lg : Int) ∧ (lg : Int) = (left : Int) - (n' : Int) - (sumN (k + 1) g : Int) ∧ n' + sumN (k + 1) g ≤ left) := by
            have h9 := HK.out
            refine ⟨?_, ?_, ?_⟩
            · rw [← h9.2.2.2.2.1]; unfold lfT; rw [if_pos hf]; omega
            · omega
            · omega
          clear ht hf hlg
          go_wp2_with fail
          refine (szPend_t (f k) a1 ((f k).q.ws.length) c1 a2 ((f k).q.bs.length) c2 a3 ((f k).np) c3 a4 ((f k).hs.length) c4 a5 ((f k).nt) c5 lf _ HK.out.2.2.2.2.2.1 HK.out.2.2.2.2.2.2.1 HK.out.2.2.2.2.2.2.2.1 HK.out.2.2.2.2.2.2.2.2.1 HK.out.2.2.2.2.2.2.2.2.2 HK.out.2.1).mono ?_
          rintro e w2 ⟨rfl, b2⟩
          rw [HF.out.1]
          have HB : Hid (Below w.heap.size w w2) := bel_nx HK.out.2.2.2.1 b2
          clear b2 d0 d1 d2 d3 d4 d5 d6 d7 d8 d9 d10 d11 d12
          go_wp2
          go_roundw
          case rel => exact ⟨k + 1, by omega, by go_num, HF.out.2.2, by rw [HF.out.2.1], HB.out⟩
          case measure => simp [intOf]; omega
        · have HF : Hid (lfT lf (szT 13 (trs (dT (f k)))) = -1 ∧ lfT left (Tr.list 13 n' (fun k => trs (dT (f k)))).sz = -1) := by
            have h9 := HK.out
            have h8 := sumN_mono g (show k + 1 ≤ n' by omega)
            have h7 := HT.out
            refine ⟨?_, ?_⟩
            · rw [← h9.2.2.2.2.1]; unfold lfT; rw [if_neg hf]
            · rw [h7]; unfold lfT; rw [if_neg (by omega)]
          clear ht hf
          go_wp2_with fail
          refine (szPend_t (f k) a1 ((f k).q.ws.length) c1 a2 ((f k).q.bs.length) c2 a3 ((f k).np) c3 a4 ((f k).hs.length) c4 a5 ((f k).nt) c5 lf _ HK.out.2.2.2.2.2.1 HK.out.2.2.2.2.2.2.1 HK.out.2.2.2.2.2.2.2.1 HK.out.2.2.2.2.2.2.2.2.1 HK.out.2.2.2.2.2.2.2.2.2 HK.out.2.1).mono ?_
          rintro e w2 ⟨rfl, b2⟩
          rw [HF.out.1]
          have HB : Hid (Below w.heap.size w w2) := bel_nx HK.out.2.2.2.1 b2
          clear b2 d0 d1 d2 d3 d4 d5 d6 d7 d8 d9 d10 d11 d12
          go_wp2
          go_ret
          exact ⟨(by rw [HF.out.2]; rfl), HB.out⟩
      · have hi : ¬ (k : Int) < (n' : Int) := by omega
        have e9 : k = n' := by omega
        subst e9
        have HE : Hid (lfT left (Tr.list 13 k (fun k => trs (dT (f k)))).sz = (left : Int) - (k : Int) - (sumN k g : Int)) := by
          show _ = _
          rw [HT.out]; unfold lfT; rw [if_pos ht]; omega
        clear ht
        go_wp2
        go_ret
        exact ⟨(by rw [HE.out]; rfl), hb⟩
  · have h1 : (left : Int) - (n' : Int) < 0 := by omega
    have HE : Hid (lfT left (Tr.list 13 n' (fun k => trs (dT (f k)))).sz = -1) := by
      show _ = _
      rw [HT.out]; unfold lfT; rw [if_neg (by omega)]
    clear hs hn hl
    go_enter Try.func12, Try.ntmps12
    go_wp2
    go_ret
    exact ⟨(by rw [HE.out]; rfl), Below.refl _ _⟩
set_option maxRecDepth 20000 in
set_option maxHeartbeats 2000000 in
theorem szTable_t (X : VT) (a1 : Option Addr) (l1 c1 : Nat) (left : Nat) (w : World) (r1 : Rd w 0 (.list 13 X.m (fun i => trs (dT (X.f i)))) (.slice a1 l1 c1)) (hl : left ≤ 1048576) :
    Calls Try.prog 5 #[.agg (tL X a1 l1 c1).toArray, .int .i64 (left : Int)] w fun e w' => e = .returned (.int .i64 (lfT left (szT 2 (trs (tT X))))) ∧ Below w.heap.size w w' := by
  have HT : Hid (szT 2 (trs (tT X)) = (Tr.list 13 X.m (fun i => trs (dT (X.f i)))).sz) := by
    show _ = _
    simp only [szT_t]
    try omega
  obtain ⟨t1, ht1⟩ : ∃ t : Nat, t = (Tr.list 13 X.m (fun i => trs (dT (X.f i)))).sz := ⟨_, rfl⟩
  obtain ⟨W, hW⟩ : ∃ W, W = w.alloc (.cells (tL X a1 l1 c1).toArray 24) := ⟨_, rfl⟩
  have H0 : Hid (Below w.heap.size w W ∧ Blk W w.heap.size 24 (tL X a1 l1 c1).toArray ∧ szT 2 (trs (tT X)) = t1 ∧ Rd w 0 (.list 13 X.m (fun i => trs (dT (X.f i)))) (.slice a1 l1 c1)) := ⟨by rw [hW]; exact bel_alloc _ _, by rw [hW]; exact Blk.new _ _ _, by rw [HT.out]; omega, r1⟩
  have K1 : Hid (t1 = (Tr.list 13 X.m (fun i => trs (dT (X.f i)))).sz) := ht1
  clear HT r1 ht1
  go_enter Try.func5, Try.ntmps5
  go_upto_region 1 with fail
  rw [← hW]
  clear hW
  have G0 : Hid (Below w.heap.size w W ∧ Blk W w.heap.size 24 (tL X a1 l1 c1).toArray) := ⟨H0.out.1, H0.out.2.1⟩
  have Q0 : Hid (left ≤ 1048576 ∧ left = left) := ⟨hl, rfl⟩
  obtain ⟨⟨y0, y1⟩, yf⟩ := G0.out.2.tc2
  clear yf
  by_cases g1 : t1 ≤ left
  rotate_left
  · have E : Hid (lfT left ((Tr.list 13 X.m (fun i => trs (dT (X.f i)))).sz) = -1 ∧ lfT left (szT 2 (trs (tT X))) = -1) := by
      have h9 := Q0.out.2
      have h8 := H0.out.2.2.1
      refine ⟨?_, ?_⟩
      · rw [← K1.out]; unfold lfT; rw [if_neg g1]
      · rw [h8]; unfold lfT; rw [if_neg (by omega)]
    go_wp2_with fail
    refine (szPendS_t X.m X.f a1 l1 c1 left _ (H0.out.2.2.2.below G0.out.1) Q0.out.1).mono ?_
    rintro e w9 ⟨rfl, b9⟩
    rw [E.out.1]
    have B9 := bel_nx G0.out.1 b9
    clear b9 y0 y1
    go_wp2
    go_ret
    exact ⟨by rw [E.out.2]; rfl, B9⟩
  · obtain ⟨L1, hL1⟩ : ∃ m : Nat, m + t1 = left := ⟨left - t1, by omega⟩
    have E1 : Hid (lfT left ((Tr.list 13 X.m (fun i => trs (dT (X.f i)))).sz) = (L1 : Int)) := by
      show _ = _
      rw [← K1.out]; unfold lfT; rw [if_pos g1]; omega
    have n1 : ¬ ((L1 : Int) < 0) := by omega
    have Q1 : Hid (L1 ≤ 1048576 ∧ L1 + t1 = left) := by
      have h9 := Q0.out
      exact ⟨by omega, by omega⟩
    clear hL1 g1
    go_wp2_with fail
    refine (szPendS_t X.m X.f a1 l1 c1 left _ (H0.out.2.2.2.below G0.out.1) Q0.out.1).mono ?_
    rintro e w1 ⟨rfl, b1⟩
    rw [E1.out]
    have G1 : Hid (Below w.heap.size w w1 ∧ Blk w1 w.heap.size 24 (tL X a1 l1 c1).toArray) := ⟨bel_nx G0.out.1 b1, G0.out.2.below b1⟩
    clear b1 y0 y1
    have E : Hid (lfT left (szT 2 (trs (tT X))) = (L1 : Int)) := by
      have h9 := Q1.out.2
      have h8 := H0.out.2.2.1
      show _ = _
      rw [h8]; unfold lfT; rw [if_pos (by omega)]; omega
    go_wp2
    go_ret
    exact ⟨by rw [E.out]; rfl, G1.out.1⟩
end Go.Proofs.Ytfagbjffhjnmaaa
namespace Go.Proofs.Ytfagbjffhjnmaaa
open Go.RowKit
theorem getD_eq {l : Array Bool} {i : Nat} (h : i < l.size) (x y : Bool) : l.getD i x = l.getD i y := by
  simp [Array.getD, h]
theorem count_set (l : List Bool) (i : Nat) (h : l[i]? = some false) : (l.set i true).count false + 1 = l.count false := by
  induction l generalizing i with
  | nil => simp at h
  | cons x r ih =>
    cases i with
    | zero => simp at h; subst h; simp
    | succ i => simp at h; have := ih i h; cases x <;> simp <;> omega
theorem ready_mem {md : Region.Mode} {ops : Array Oper} {l : Array Bool} {i : Nat} (h : i ∈ Region.ready md ops l) :
    i < ops.size ∧ l.getD i true = false ∧ ∀ o, ops[i]? = some o → ∀ e ∈ o.after, Region.binds md e = true → l.getD e.on false = true := by
  unfold Region.ready at h
  rw [List.mem_filter] at h
  obtain ⟨h1, h2⟩ := h
  simp only [Bool.and_eq_true, Bool.not_eq_true'] at h2
  refine ⟨List.mem_range.1 h1, h2.1, fun o ho e he hb => ?_⟩
  have h3 := h2.2
  rw [ho] at h3
  simp only [Option.map_some, Option.getD_some, Array.all_eq_true_iff_forall_mem] at h3
  have h4 := h3 e he
  simpa [hb] using h4
theorem ready_of {md : Region.Mode} {ops : Array Oper} {l : Array Bool} {i : Nat} {o : Oper} (hi : i < ops.size) (ho : ops[i]? = some o) (hl : l.getD i true = false) (hd : ∀ e ∈ o.after, Region.binds md e = true → l.getD e.on false = true) : i ∈ Region.ready md ops l := by
  unfold Region.ready
  rw [List.mem_filter]
  refine ⟨List.mem_range.2 hi, ?_⟩
  simp only [Bool.and_eq_true, Bool.not_eq_true']
  refine ⟨hl, ?_⟩
  rw [ho]
  simp only [Option.map_some, Option.getD_some, Array.all_eq_true_iff_forall_mem]
  intro e he
  cases hb : Region.binds md e
  · rfl
  · simpa using hd e he hb
def ordB (md : Region.Mode) (ops : Array Oper) : Bool := (List.range ops.size).all fun i => ((ops[i]?).map (·.after.all fun e => !Region.binds md e || decide (e.on < i))).getD true
theorem ordB_of {md : Region.Mode} {ops : Array Oper} (h : ordB md ops = true) : ∀ i o, ops[i]? = some o → ∀ e ∈ o.after, Region.binds md e = true → e.on < i := by
  intro i o ho e he hb
  unfold ordB at h
  rw [List.all_eq_true] at h
  have hi : i < ops.size := (Array.getElem?_eq_some_iff.1 ho).1
  have h1 := h i (List.mem_range.2 hi)
  rw [ho] at h1
  simp only [Option.map_some, Option.getD_some, Array.all_eq_true_iff_forall_mem] at h1
  have h2 := h1 e he
  simpa [hb] using h2
theorem wpAny_inv {P : Program} {ops : Array Oper} {Q : Exit → Act → World → Prop} {md : Region.Mode} (Inv : Array Bool → Act → World → Prop)
    (hordB : ordB md ops = true)
    (hend : ∀ l a w, Inv l a w → (∀ i, i < ops.size → l.getD i true = true) → Q .normal a w)
    (hstep : ∀ l a w i o, Inv l a w → ops[i]? = some o → l.getD i true = false → (∀ e ∈ o.after, Region.binds md e = true → l.getD e.on false = true) →
      ∀ K : Act → World → Prop, (∀ a w, Inv (l.setIfInBounds i true) a w → K a w) → if Region.wanted o (yielded ops a.tmps) = true then Oper.wp P o a w K Q else K (a.put o.dst undef) w) :
    ∀ (fuel : Nat) (l : Array Bool) (a : Act) (w : World), l.size = ops.size → l.toList.count false ≤ fuel → Inv l a w → wpAny P md ops Q fuel l a w := by
  have hord := ordB_of hordB
  have hall : ∀ l : Array Bool, l.size = ops.size → Region.ready md ops l = [] → ∀ i, i < ops.size → l.getD i true = true := by
    intro l hs hr i
    induction i using Nat.strongRecOn with
    | ind i ih =>
      intro hi
      cases hl : l.getD i true
      · obtain ⟨o, ho⟩ : ∃ o, ops[i]? = some o := ⟨ops[i], by simp [hi]⟩
        have : i ∈ Region.ready md ops l := ready_of hi ho hl (fun e he hb => by
          have h1 := hord i o ho e he hb
          rw [getD_eq (by omega) false true]
          exact ih e.on h1 (by omega))
        rw [hr] at this
        simp at this
      · rfl
  intro fuel
  induction fuel with
  | zero =>
    intro l a w hs hc hI
    have hr : Region.ready md ops l = [] := by
      apply List.eq_nil_iff_forall_not_mem.2
      intro i hi
      obtain ⟨h1, h2, _⟩ := ready_mem hi
      have h3 : l.toList[i]? = some false := by
        have h4 : i < l.size := by omega
        rw [Array.getElem?_toList]
        simp [Array.getD, h4] at h2
        simp [h4, h2]
      have := count_set l.toList i h3
      omega
    exact ⟨hr, hend l a w hI (hall l hs hr)⟩
  | succ fuel ih =>
    intro l a w hs hc hI
    refine ⟨fun hr => hend l a w hI (hall l hs hr), fun i hi => ?_⟩
    obtain ⟨h1, h2, h3⟩ := ready_mem hi
    obtain ⟨o, ho⟩ : ∃ o, ops[i]? = some o := ⟨ops[i], by simp [h1]⟩
    refine wpOp_step ho (fun K' hK' => hstep l a w i o hI ho h2 (h3 o ho) K' (fun a' w' hI' => hK' a' w' (ih _ a' w' (by simpa using hs) ?_ hI')))
    have h4 : l.toList[i]? = some false := by
      have h5 : i < l.size := by omega
      rw [Array.getElem?_toList]
      simp [Array.getD, h5] at h2
      simp [h5, h2]
    have := count_set l.toList i h4
    rw [Array.toList_setIfInBounds]
    omega
end Go.Proofs.Ytfagbjffhjnmaaa
namespace Go.Proofs.Ytfagbjffhjnmaaa
open Go.RowKit
def dstOf (ops : Array Oper) (i : Nat) : Option Tmp := (ops[i]?).bind (·.dst)
def dstB (ops : Array Oper) (n : Nat) : Bool :=
  (List.range ops.size).all fun i => match dstOf ops i with
    | some d => decide (d < n) && (List.range ops.size).all fun j => decide (j = i) || decide (dstOf ops j ≠ some d)
    | none => false
def isDst (ops : Array Oper) (s : Nat) : Bool := (List.range ops.size).any fun i => decide (dstOf ops i = some s)
def putsL (a : Act) : Nat → List Oper → (Nat → Value) → Act
  | _, [], _ => a
  | i, o :: os, vs => putsL (a.put o.dst (vs i)) (i + 1) os vs
def wantV (ops : Array Oper) (o : Oper) (ρ : Operand → Value) : Bool :=
  match o.guard with
  | none => true
  | some (j, want) => match dstOf ops j with
    | some d => (match ρ (.tmp d) with | .bool b => b == want | _ => false)
    | none => false
def StpV (P : Program) (ops : Array Oper) (Φ : Nat → Value → World → Prop) (R : World → Prop) (i : Nat) (o : Oper) (ρ : Operand → Value) (u : World) : Prop :=
  (wantV ops o ρ = true ∧ ((∃ v u', (execOp ρ o).run P u = .ok (.value v) u' ∧ Φ i v u' ∧ R u' ∧ Below u.heap.size u u') ∨ (∃ f args, (execOp ρ o).run P u = .ok (.enter f args) u ∧ Calls P f args u fun e u' => ∃ v, e = .returned v ∧ Φ i v u' ∧ R u' ∧ Below u.heap.size u u')))
  ∨ (wantV ops o ρ = false ∧ Φ i undef u)
structure InvV (ops : Array Oper) (Φ : Nat → Value → World → Prop) (R : World → Prop) (a0 : Act) (l : Array Bool) (a : Act) (u : World) : Prop where
  r : R u
  ls : l.size = ops.size
  df : a.defers = a0.defers
  sz : a.tmps.size = a0.tmps.size
  old : ∀ s, (∀ i d, dstOf ops i = some d → l.getD i false = true → d ≠ s) → a.tmps.getD s undef = a0.tmps.getD s undef
  val : ∀ i d, dstOf ops i = some d → l.getD i false = true → Φ i (a.tmps.getD d undef) u
theorem dstB_of {ops : Array Oper} {n : Nat} (h : dstB ops n = true) {i : Nat} (hi : i < ops.size) : ∃ d, dstOf ops i = some d ∧ d < n ∧ ∀ j, j < ops.size → dstOf ops j = some d → j = i := by
  unfold dstB at h
  rw [List.all_eq_true] at h
  have h1 := h i (List.mem_range.2 hi)
  cases hd : dstOf ops i with
  | none => rw [hd] at h1; cases h1
  | some d =>
    rw [hd] at h1
    simp only [Bool.and_eq_true, decide_eq_true_eq, List.all_eq_true, Bool.or_eq_true] at h1
    refine ⟨d, rfl, h1.1, fun j hj e => ?_⟩
    rcases h1.2 j (List.mem_range.2 hj) with h2 | h2
    · exact h2
    · exact absurd e h2
theorem getD_set {l : Array Bool} {i j : Nat} (hi : i < l.size) : (l.setIfInBounds i true).getD j false = if j = i then true else l.getD j false := by
  simp only [Array.getD_eq_getD_getElem?, Array.getElem?_setIfInBounds]
  by_cases e : j = i
  · subst e; simp [hi]
  · rw [if_neg (Ne.symm e), if_neg e]
theorem getD_put {a : Act} {d s : Nat} {v : Value} (hd : d < a.tmps.size) : (a.put (some d) v).tmps.getD s undef = if s = d then v else a.tmps.getD s undef := by
  show (a.tmps.setIfInBounds d v).getD s undef = _
  simp only [Array.getD_eq_getD_getElem?, Array.getElem?_setIfInBounds]
  by_cases e : s = d
  · subst e; simp [hd]
  · rw [if_neg (Ne.symm e), if_neg e]
theorem InvV.next {ops : Array Oper} {Φ : Nat → Value → World → Prop} {R : World → Prop} {a0 : Act} {l : Array Bool} {a : Act} {u u' : World} (h : InvV ops Φ R a0 l a u) (hB : dstB ops a0.tmps.size = true)
    (hmono : ∀ i v u u', Φ i v u → Below u.heap.size u u' → Φ i v u') {i : Nat} {o : Oper} (ho : ops[i]? = some o) {v : Value} (hv : Φ i v u') (hr : R u') (hb : Below u.heap.size u u') :
    InvV ops Φ R a0 (l.setIfInBounds i true) (a.put o.dst v) u' := by
  have hi : i < ops.size := (Array.getElem?_eq_some_iff.1 ho).1
  obtain ⟨d, hd, hlt, hun⟩ := dstB_of hB hi
  have hod : o.dst = some d := by simpa [dstOf, ho] using hd
  rw [hod]
  have hlt' : d < a.tmps.size := by rw [h.sz]; exact hlt
  have hil : i < l.size := by rw [h.ls]; exact hi
  refine ⟨hr, by simpa using h.ls, h.df, by simpa [Act.put] using h.sz, fun s hs => ?_, fun j e hj hl => ?_⟩
  · have hne : d ≠ s := hs i d hd (by rw [getD_set hil, if_pos rfl])
    rw [getD_put hlt', if_neg (Ne.symm hne)]
    exact h.old s (fun j e hj hl => hs j e hj (by rw [getD_set hil]; split; rfl; exact hl))
  · have hjs : j < ops.size := by
      cases hoj : ops[j]? with
      | none => rw [dstOf, hoj] at hj; cases hj
      | some o' => exact (Array.getElem?_eq_some_iff.1 hoj).1
    rw [getD_put hlt']
    by_cases e1 : e = d
    · subst e1
      obtain rfl := hun j hjs hj
      rw [if_pos rfl]
      exact hv
    · rw [if_neg e1]
      have e2 : j ≠ i := fun e2 => by subst e2; rw [hd] at hj; exact e1 (Option.some.inj hj).symm
      rw [getD_set hil, if_neg e2] at hl
      exact hmono _ _ _ _ (h.val j e hj hl) hb
theorem putsL_eq {a : Act} : ∀ (os : List Oper) (k : Nat) (a' : Act) (vs : Nat → Value), a'.defers = a.defers → a'.tmps.size = a.tmps.size → (∀ (j : Nat) (o : Oper) (d : Nat), os[j]? = some o → o.dst = some d → vs (k + j) = a.tmps.getD d undef) →
    (∀ s, a'.tmps.getD s undef = a.tmps.getD s undef ∨ ∃ (j : Nat) (o : Oper), os[j]? = some o ∧ o.dst = some s) → (∀ (j : Nat) (o : Oper), os[j]? = some o → ∃ d, o.dst = some d ∧ d < a.tmps.size) → putsL a' k os vs = a
  | [], k, a', vs, h1, h2, _, h4, _ => by
    have e : a'.tmps = a.tmps := by
      apply Array.ext h2
      intro i hi1 hi2
      rcases h4 i with h | ⟨j, o, h, _⟩
      · simpa [Array.getD, hi1, hi2] using h
      · simp at h
    cases a'; cases a
    simp only at e h1
    subst e h1
    rfl
  | o :: os, k, a', vs, h1, h2, h3, h4, h5 => by
    obtain ⟨d, hd, hlt⟩ := h5 0 o rfl
    show putsL (a'.put o.dst (vs k)) (k + 1) os vs = a
    rw [hd]
    refine putsL_eq os (k + 1) _ vs h1 (by simpa [Act.put] using h2) (fun j o' d' ho hd' => by rw [show k + 1 + j = k + (j + 1) by omega]; exact h3 (j + 1) o' d' (by simpa using ho) hd') (fun s => ?_) (fun j o' ho => h5 (j + 1) o' (by simpa using ho))
    rw [getD_put (by rw [h2]; exact hlt)]
    by_cases e : s = d
    · subst e
      rw [if_pos rfl]
      exact .inl (by simpa using h3 0 o s rfl hd)
    · rw [if_neg e]
      rcases h4 s with h | ⟨j, o', ho, hd'⟩
      · exact .inl h
      · cases j with
        | zero => simp at ho; subst ho; rw [hd] at hd'; exact absurd (Option.some.inj hd').symm e
        | succ j => exact .inr ⟨j, o', by simpa using ho, hd'⟩
theorem wanted_eq {ops : Array Oper} {a : Act} {o : Oper} (h : ∀ j d, dstOf ops j = some d → d < a.tmps.size) : Region.wanted o (yielded ops a.tmps) = wantV ops o a.eval := by
  unfold Region.wanted wantV
  cases o.guard with
  | none => rfl
  | some p =>
    obtain ⟨j, want⟩ := p
    have hy : yielded ops a.tmps j = match dstOf ops j with
        | some d => (match a.eval (.tmp d) with | .bool b => some b | _ => none)
        | none => none := by
      unfold yielded dstOf
      cases hd : (ops[j]?).bind (·.dst) with
      | none => rfl
      | some d =>
        have hlt := h j d hd
        have e : (some d).bind (fun t => a.tmps[t]?) = some (a.eval (.tmp d)) := by
          show a.tmps[d]? = some (a.tmps.getD d undef)
          simp [Array.getD, hlt]
        rw [e]
        simp only
        generalize a.eval (.tmp d) = x
        cases x <;> rfl
    show (yielded ops a.tmps j == some want) = (match dstOf ops j with
      | some d => (match a.eval (.tmp d) with | .bool b => b == want | _ => false)
      | none => false)
    rw [hy]
    cases dstOf ops j with
    | none => rfl
    | some d =>
      simp only
      generalize a.eval (.tmp d) = x
      cases x <;> simp
theorem wpAny_vals {P : Program} {ops : Array Oper} {Q : Exit → Act → World → Prop} {md : Region.Mode} {a0 : Act} {w0 : World} (R : World → Prop) (Φ : Nat → Value → World → Prop)
    (hordB : ordB md ops = true) (hB : dstB ops a0.tmps.size = true) (hmono : ∀ i v u u', Φ i v u → Below u.heap.size u u' → Φ i v u') (h0 : R w0)
    (hend : ∀ (vs : Nat → Value) u, R u → (∀ i, i < ops.size → Φ i (vs i) u) → Q .normal (putsL a0 0 ops.toList vs) u)
    (hstep : ∀ u i o (ρ : Operand → Value), R u → ops[i]? = some o → (∀ s, isDst ops s = false → ρ (.tmp s) = a0.eval (.tmp s)) → (∀ v, ρ (.const v) = v) → (∀ f, ρ (.func f) = .func (.func f) #[] #[]) →
      (∀ e ∈ o.after, Region.binds md e = true → ∀ d, dstOf ops e.on = some d → Φ e.on (ρ (.tmp d)) u) → StpV P ops Φ R i o ρ u)
    (fuel : Nat) (l : Array Bool) (hs : l.size = ops.size) (hc : l.toList.count false ≤ fuel) (hl : ∀ i, l.getD i false = false) : wpAny P md ops Q fuel l a0 w0 := by
  refine wpAny_inv (InvV ops Φ R a0) hordB ?_ ?_ fuel l a0 w0 hs hc ?_
  · intro l a u h hall
    have hall' : ∀ i, i < ops.size → l.getD i false = true := fun i hi => by rw [getD_eq (by rw [h.ls]; exact hi) false true]; exact hall i hi
    have e : putsL a0 0 ops.toList (fun i => a.tmps.getD ((dstOf ops i).getD 0) undef) = a := by
      refine putsL_eq ops.toList 0 a0 _ h.df.symm h.sz.symm (fun j o d ho hd => ?_) (fun s => ?_) (fun j o ho => ?_)
      · rw [Nat.zero_add]
        have : dstOf ops j = some d := by rw [Array.getElem?_toList] at ho; simp [dstOf, ho, hd]
        show a.tmps.getD ((dstOf ops j).getD 0) undef = _
        rw [this]; rfl
      · by_cases hx : ∃ j d, dstOf ops j = some d ∧ l.getD j false = true ∧ d = s
        · obtain ⟨j, d, hd, _, rfl⟩ := hx
          right
          unfold dstOf at hd
          cases ho : ops[j]? with
          | none => rw [ho] at hd; cases hd
          | some o => rw [ho] at hd; exact ⟨j, o, by rw [Array.getElem?_toList]; exact ho, hd⟩
        · left
          exact (h.old s (fun i d hd hl e => hx ⟨i, d, hd, hl, e⟩)).symm
      · rw [Array.getElem?_toList] at ho
        have hi : j < ops.size := (Array.getElem?_eq_some_iff.1 ho).1
        obtain ⟨d, hd, hlt, _⟩ := dstB_of hB hi
        exact ⟨d, by simpa [dstOf, ho] using hd, by rw [h.sz]; exact hlt⟩
    rw [← e]
    refine hend _ u h.r (fun i hi => ?_)
    obtain ⟨d, hd, _, _⟩ := dstB_of hB hi
    show Φ i (a.tmps.getD ((dstOf ops i).getD 0) undef) u
    rw [hd]
    exact h.val i d hd (hall' i hi)
  · intro l a u i o h ho hli hdep K hK
    have hi : i < ops.size := (Array.getElem?_eq_some_iff.1 ho).1
    have hin : ∀ j d, dstOf ops j = some d → j < ops.size := fun j d hj => by
      unfold dstOf at hj
      cases hoj : ops[j]? with
      | none => rw [hoj] at hj; cases hj
      | some o' => exact (Array.getElem?_eq_some_iff.1 hoj).1
    have hw : Region.wanted o (yielded ops a.tmps) = wantV ops o a.eval := wanted_eq (fun j d hj => by
      obtain ⟨d', hd', hlt, _⟩ := dstB_of hB (hin j d hj)
      rw [hj] at hd'
      rw [h.sz, Option.some.inj hd']; exact hlt)
    have hst := hstep u i o a.eval h.r ho (fun s hns => by
      refine h.old s (fun j d hj _ e => ?_)
      subst e
      have : isDst ops d = true := by
        unfold isDst
        rw [List.any_eq_true]
        exact ⟨j, List.mem_range.2 (hin j d hj), by simp [hj]⟩
      rw [this] at hns; cases hns) (fun _ => rfl) (fun _ => rfl) (fun e he hb d hd => h.val e.on d hd (hdep e he hb))
    rcases hst with ⟨hwt, ⟨v, u', hrun, hv, hr, hbl⟩ | ⟨f, args, hrun, hcall⟩⟩ | ⟨hwf, hv⟩
    · rw [if_pos (by rw [hw]; exact hwt)]
      unfold Oper.wp
      rw [hrun]
      exact hK _ _ (h.next hB hmono ho hv hr hbl)
    · rw [if_pos (by rw [hw]; exact hwt)]
      unfold Oper.wp
      rw [hrun, Oper.upon_enter]
      refine hcall.mono ?_
      rintro e u' ⟨v, rfl, hv, hr, hbl⟩
      exact hK _ _ (h.next hB hmono ho hv hr hbl)
    · rw [if_neg (by rw [hw, hwf]; decide)]
      exact hK _ _ (h.next hB hmono ho hv h.r (Below.refl _ _))
  · exact ⟨h0, hs, rfl, rfl, fun _ _ => rfl, fun i d _ hl' => by rw [hl i] at hl'; cases hl'⟩
end Go.Proofs.Ytfagbjffhjnmaaa
namespace Go.Proofs.Ytfagbjffhjnmaaa
open Go.RowKit
theorem run_load_op {P : Program} {ρ : Operand → Value} {o : Oper} {u : World} {t : TypeId} {p : Operand} {ptr v : Value} (ho : o.op = .load t p) (hp : ρ p = ptr) (hr : (Instr.loadAt t ptr).run P u = .ok v u) : (execOp ρ o).run P u = .ok (.value v) u := by
  unfold execOp
  simp only [ho, hp]
  rw [Sem.run_bind, hr]
  rfl
theorem run_call_op {P : Program} {ρ : Operand → Value} {o : Oper} {u : World} {f : FuncId} {xs : Array Operand} {ts : Array TypeId} {args : Array Value} (ho : o.op = .call ⟨.value (.func f), xs, ts⟩) (hf : ρ (.func f) = .func (.func f) #[] #[]) (hx : xs.map ρ = args)
    (hc : (callFunc f args).run P u = .ok (.enter f args) u) : (execOp ρ o).run P u = .ok (.enter f args) u := by
  unfold execOp
  simp only [ho, resolve, hf, hx]
  show (callFunc f ((#[] ++ args) ++ #[])).run P u = _
  simpa using hc
theorem run_pick_op {P : Program} {ρ : Operand → Value} {o : Oper} {u : World} {c x y : Operand} {b : Bool} (ho : o.op = .pick c x y) (hc : ρ c = .bool b) : (execOp ρ o).run P u = .ok (.value (if b = true then ρ x else ρ y)) u := by
  unfold execOp
  simp only [ho, hc]
  rfl
theorem run_bin_op {P : Program} {ρ : Operand → Value} {o : Oper} {u : World} {op : BinOp} {t t' : TypeId} {x y : Operand} {a b v : Value} (ho : o.op = .binOp op t x y t') (ha : ρ x = a) (hb : ρ y = b) (hr : (do eqGuard op t x y a b; binOp op t a b : Sem Value).run P u = .ok v u) : (execOp ρ o).run P u = .ok (.value v) u := by
  unfold execOp
  simp only [ho, ha, hb]
  rw [Sem.run_bind, hr]
  rfl
end Go.Proofs.Ytfagbjffhjnmaaa
namespace Go.Proofs.Ytfagbjffhjnmaaa
open Go.RowKit
def dstC (ops : Array Oper) (n : Nat) : Bool :=
  (List.range ops.size).all fun i => match dstOf ops i with
    | some d => decide (d < n) && (List.range ops.size).all fun j => decide (j = i) || decide (dstOf ops j ≠ some d)
    | none => true
def updB (l : Nat → Bool) (i : Nat) : Nat → Bool := fun j => if j = i then true else l j
def StpW (P : Program) (ops : Array Oper) (Φ : Nat → Value → World → Prop) (R : World → Prop) (M : World → World → Prop) (i : Nat) (o : Oper) (ρ : Operand → Value) (u : World) : Prop :=
  (wantV ops o ρ = true ∧ ((∃ v u', (execOp ρ o).run P u = .ok (.value v) u' ∧ Φ i v u' ∧ R u' ∧ M u u') ∨ (∃ f args, (execOp ρ o).run P u = .ok (.enter f args) u ∧ Calls P f args u fun e u' => ∃ v, e = .returned v ∧ Φ i v u' ∧ R u' ∧ M u u') ∨ (o.dst = none ∧ ∃ u', (execOp ρ o).run P u = .ok .skip u' ∧ R u' ∧ M u u')))
  ∨ (wantV ops o ρ = false ∧ Φ i undef u ∧ R u)
structure InvW (md : Region.Mode) (ops : Array Oper) (Φ : Nat → Value → World → Prop) (R : (Nat → Bool) → World → Prop) (a0 : Act) (l : Array Bool) (a : Act) (u : World) : Prop where
  r : R (fun i => l.getD i false) u
  ls : l.size = ops.size
  df : a.defers = a0.defers
  sz : a.tmps.size = a0.tmps.size
  old : ∀ s, (∀ i d, dstOf ops i = some d → l.getD i false = true → d ≠ s) → a.tmps.getD s undef = a0.tmps.getD s undef
  val : ∀ i d, dstOf ops i = some d → l.getD i false = true → Φ i (a.tmps.getD d undef) u
  cl : ∀ i o, ops[i]? = some o → l.getD i false = true → ∀ e ∈ o.after, Region.binds md e = true → l.getD e.on false = true
theorem run_index_op {P : Program} {ρ : Operand → Value} {o : Oper} {u : World} {t : TypeId} {x y : Operand} {a b v : Value} (ho : o.op = .indexAddr t x y) (ha : ρ x = a) (hb : ρ y = b) (hr : (Instr.indexAt t a b).run P u = .ok v u) : (execOp ρ o).run P u = .ok (.value v) u := by
  unfold execOp
  simp only [ho, ha, hb]
  rw [Sem.run_bind, hr]
  rfl
theorem run_field_op {P : Program} {ρ : Operand → Value} {o : Oper} {u : World} {s : TypeId} {x : Operand} {f : Nat} {a v : Value} (ho : o.op = .fieldAddr s x f) (ha : ρ x = a) (hr : (Instr.fieldAt s a f).run P u = .ok v u) : (execOp ρ o).run P u = .ok (.value v) u := by
  unfold execOp
  simp only [ho, ha]
  rw [Sem.run_bind, hr]
  rfl
theorem run_un_op {P : Program} {ρ : Operand → Value} {o : Oper} {u : World} {op : UnOp} {t : TypeId} {x : Operand} {a v : Value} (ho : o.op = .unOp op t x) (ha : ρ x = a) (hr : (Op.unary op a).run P u = .ok v u) : (execOp ρ o).run P u = .ok (.value v) u := by
  unfold execOp
  simp only [ho, ha]
  rw [Sem.run_bind, hr]
  rfl
end Go.Proofs.Ytfagbjffhjnmaaa
namespace Go.Proofs.Ytfagbjffhjnmaaa
open Go.RowKit
def updS (σ : Nat → Value) (od : Option Nat) (v : Value) : Nat → Value := match od with
  | some d => fun s => if s = d then v else σ s
  | none => σ
def StpY (P : Program) (ops : Array Oper) (Φ : Nat → Value → World → Prop) (R : Value → World → Prop) (M : World → World → Prop) (i : Nat) (o : Oper) (ρ : Operand → Value) (u : World) : Prop :=
  (wantV ops o ρ = true ∧ ((∃ v u', (execOp ρ o).run P u = .ok (.value v) u' ∧ Φ i v u' ∧ R v u' ∧ M u u') ∨ (∃ f args, (execOp ρ o).run P u = .ok (.enter f args) u ∧ Calls P f args u fun e u' => ∃ v, e = .returned v ∧ Φ i v u' ∧ R v u' ∧ M u u') ∨ (o.dst = none ∧ ∃ u', (execOp ρ o).run P u = .ok .skip u' ∧ R undef u' ∧ M u u')))
  ∨ (wantV ops o ρ = false ∧ Φ i undef u ∧ R undef u)
structure InvY (md : Region.Mode) (ops : Array Oper) (Φ : Nat → Value → World → Prop) (R : (Nat → Bool) → (Nat → Value) → World → Prop) (a0 : Act) (l : Array Bool) (a : Act) (u : World) : Prop where
  r : R (fun i => l.getD i false) (fun s => a.tmps.getD s undef) u
  ls : l.size = ops.size
  df : a.defers = a0.defers
  sz : a.tmps.size = a0.tmps.size
  old : ∀ s, (∀ i d, dstOf ops i = some d → l.getD i false = true → d ≠ s) → a.tmps.getD s undef = a0.tmps.getD s undef
  val : ∀ i d, dstOf ops i = some d → l.getD i false = true → Φ i (a.tmps.getD d undef) u
  cl : ∀ i o, ops[i]? = some o → l.getD i false = true → ∀ e ∈ o.after, Region.binds md e = true → l.getD e.on false = true
end Go.Proofs.Ytfagbjffhjnmaaa
namespace Go.Proofs.Ytfagbjffhjnmaaa
open Go.RowKit Go.Joins
set_option linter.unusedVariables false
set_option linter.unusedSimpArgs false
theorem run_nilz {P : Program} {ρ : Operand → Value} {o : Oper} {u : World} {x : Operand} {p : Addr} (ho : o.op = .nilCheck x) (ha : ρ x = .pointer (some p)) : (execOp ρ o).run P u = .ok (.value (.pointer (some p))) u := by
  unfold execOp
  simp only [ho, ha]
  rfl
theorem run_bldz {P : Program} {ρ : Operand → Value} {o : Oper} {u u' : World} {t : TypeId} {ps : Array (Nat × Operand)} {qs : Array (Nat × Value)} {v : Value} (ho : o.op = .build t ps) (ha : ps.map (fun (i, x) => (i, ρ x)) = qs) (hr : (Instr.build t qs).run P u = .ok v u') : (execOp ρ o).run P u = .ok (.value v) u' := by
  unfold execOp
  simp only [ho, ha]
  rw [Sem.run_bind, hr]
  rfl
theorem rangeAt_below {w u : World} {g o : Nat} {cs : List Value} (h : w.rangeAt g o cs) (hg : g < w.heap.size) (hb : Below w.heap.size w u) : u.rangeAt g o cs := fun j v hv => (hb.cell (p := ⟨g, o + j, none⟩) hg).trans (h j v hv)
theorem rangeAt_mid {w : World} {g o : Nat} {cs : List Value} (pre l post : List Value) (h : w.rangeAt g o cs) (he : cs = pre ++ (l ++ post)) : w.rangeAt g (o + pre.length) l := fun j v hv => by
  rw [Nat.add_assoc]
  refine h (pre.length + j) v ?_
  rw [he, List.getElem?_append_right (by omega), Nat.add_sub_cancel_left, List.getElem?_append_left (List.getElem?_eq_some_iff.1 hv).1]
  exact hv
theorem Blk.rng {w : World} {g : Nat} {t : TypeId} {l : List Value} (h : Blk w g t l.toArray) : w.rangeAt g 0 l := fun j v hv => by
  rw [Nat.zero_add]
  exact h.cell j (by simpa using hv)
end Go.Proofs.Ytfagbjffhjnmaaa
