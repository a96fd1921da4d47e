/- Texts that the proof needs, joined: S0 Tb0 Fo1 Fo2 Sv1 Sv2 Tb1. -/
import Derived.Test.YtpgcankjhkchjaaGreatV7
import Derived.Test.YtpgcankjhkchjaaGreatV11
import Derived.Test.YtpgcankjhkchjaaGreatV10
import Derived.Test.YtpgcankjhkchjaaGreatV1
import Derived.Test.YtpgcankjhkchjaaGreatV6
import Derived.Test.YtpgcankjhkchjaaGreatV5
import Derived.Lib.MinMax
import Derived.BigQuiet
import Derived.Test.YtpgcankjhkchjaaGreatV2
namespace Go.Proofs.YtpgcankjhkchjaaGreat
open Go.RowKit
def anB (kd pl nn : Int) (m1 m2 : Nat) (qs : List Int) (qb : List Bool) (ap an : Int) (l1 l2 : Nat) (ws : List Int) (bs : List Bool) : Bool :=
  if kd = 1 ∨ kd = 2 then nfB bs nn.toNat && decide (l2 = (nn.toNat + 7) / 8 * 8)
  else if kd = 3 ∨ kd = 4 ∨ kd = 23 then decide ((l1 : Int) = nn)
  else if kd = 5 then decide (ap = pl) && decide (bs = qb)
  else if kd = 6 ∨ kd = 22 then decide (ap = pl) && decide (ws = qs)
  else if kd = 15 then decide (ap = pl) && decide (an = (m2 : Int))
  else decide (ap = pl) && decide (an = (m1 : Int))
def suB (kd pl nn wa : Int) (m1 m2 : Nat) (qs : List Int) (qb : List Bool) (kd' fl ap an : Int) (l1 l2 : Nat) (ws : List Int) (bs : List Bool) : Bool :=
  okR kd pl nn wa qs m1 m2 && (okA kd' fl ap an ws l1 l2 && (decide (kd = kd') && (!decide (fl = 0) || anB kd pl nn m1 m2 qs qb ap an l1 l2 ws bs)))
end Go.Proofs.YtpgcankjhkchjaaGreat
namespace Go.Proofs.YtpgcankjhkchjaaGreat
open Go.RowKit Go.Joins
set_option linter.unusedVariables false
set_option linter.unusedSimpArgs false
def okQ (Q : VQ) : Bool := okR Q.kd Q.pl Q.n Q.wa Q.ws Q.ws.length Q.bs.length
def suQ (Q : VQ) (A : VA) : Bool := suB Q.kd Q.pl Q.n Q.wa Q.ws.length Q.bs.length Q.ws Q.bs A.kd A.fl A.pl A.n A.ws.length A.bs.length A.ws A.bs
def okPt (P : VP) : Bool := inB P.p 0 5 && (inB P.t 1 247 && okQ P.q)
def noA (A : VA) : Bool := (A.kd == 0) && ((A.fl == 0) && ((A.pl == 0) && ((A.n == 0) && (((A.ws.length : Int) == 0) && ((A.bs.length : Int) == 0)))))
def allN (g : Nat → Bool) : Nat → Bool
  | 0 => true
  | n + 1 => allN g n && g n
theorem allN_iff {g : Nat → Bool} : ∀ {n : Nat}, allN g n = true ↔ ∀ k, k < n → g k = true
  | 0 => by simp [allN]
  | n + 1 => by
    simp only [allN, Bool.and_eq_true, allN_iff (n := n)]
    constructor
    · rintro ⟨h1, h2⟩ k hk
      by_cases e : k = n
      · subst e; exact h2
      · exact h1 k (by omega)
    · intro h
      exact ⟨fun k hk => h k (by omega), h n (by omega)⟩
theorem allN_no {g : Nat → Bool} {n k : Nat} (hk : k < n) (h : g k = false) : allN g n = false := by
  cases e : allN g n with
  | false => rfl
  | true => rw [allN_iff.1 e k hk] at h; cases h
theorem allN_succ {g : Nat → Bool} {n : Nat} (h : allN g n = true) (hk : g n = true) : allN g (n + 1) = true := by
  simp [allN, h, hk]
def cntF (bs : List Bool) : Nat → Nat
  | 0 => 0
  | n + 1 => cntF bs n + (if bs.getD n false then 0 else 1)
def tdB (D : VD) (i : Nat) : Bool := if D.hs.getD i false then suQ (D.pt i).q (D.tl i) else noA (D.tl i)
def okPd (D : VD) : Bool :=
  inB D.so 0 1000000000 && (inB D.ta 0 1000000000 && (okQ D.q && (decide (1 ≤ D.np ∧ D.np ≤ 8) && (allN (fun i => okPt (D.pt i)) D.np && (decide (D.hs.length = D.np) && (decide (D.nt = D.np) && (allN (tdB D) D.np && decide (0 < cntF D.hs D.hs.length))))))))
def rowB (X : VT) (i : Nat) : Bool := okPd (X.f i) && (inB (X.f i).id 0 (X.nx - 1) && (decide (i = 0) || decide ((X.f (i - 1)).id < (X.f i).id)))
def okTb (X : VT) : Bool := inB X.nx 0 1000000000 && (decide (X.m ≤ 16) && allN (rowB X) X.m)
def wtT (X : VT) : Nat → Nat := fun n => sumN n (fun i => cntF (X.f i).hs (X.f i).hs.length)
def BdQ (Q : VQ) : Prop := Q.ws.length ≤ 2000000 ∧ Q.bs.length ≤ 2000000
def BdA (A : VA) : Prop := A.ws.length ≤ 2000000 ∧ A.bs.length ≤ 2000000
def BdD (D : VD) : Prop := BdQ D.q ∧ D.np ≤ 2000000 ∧ D.hs.length ≤ 2000000 ∧ D.nt ≤ 2000000 ∧ (∀ i, i < D.np → BdQ (D.pt i).q) ∧ (∀ i, i < D.nt → BdA (D.tl i))
def BdT (X : VT) : Prop := X.m ≤ 2000000 ∧ ∀ i, i < X.m → BdD (X.f i)
theorem list_bd {s n N : Nat} {f : Nat → Nat → Tr} (h : (Tr.list s n f).sz ≤ N) : n ≤ N ∧ ∀ k, k < n → szT s (f k) ≤ N := by
  rw [Tr.sz_list] at h
  refine ⟨by omega, fun k hk => ?_⟩
  have := sumN_at (fun k => szT s (f k)) hk
  omega
theorem VD.bd {D : VD} (h : szT 13 (trs (dT D)) ≤ 2000000) : BdD D := by
  rw [szT_d] at h
  have h1 := list_bd (s := 8) (n := D.np) (f := fun i => trs (pT (D.pt i))) (N := 2000000) (by omega)
  have h2 := list_bd (s := 6) (n := D.nt) (f := fun i => trs (aT (D.tl i))) (N := 2000000) (by omega)
  refine ⟨⟨by omega, by omega⟩, h1.1, by omega, h2.1, fun i hi => ?_, fun i hi => ?_⟩
  · have := h1.2 i hi
    rw [szT_p] at this
    exact ⟨by omega, by omega⟩
  · have := h2.2 i hi
    rw [szT_a] at this
    exact ⟨by omega, by omega⟩
theorem VT.bd {X : VT} (h : szT 2 (trs (tT X)) ≤ 2000000) : BdT X := by
  rw [szT_t] at h
  have h1 := list_bd (s := 13) (n := X.m) (f := fun i => trs (dT (X.f i))) (N := 2000000) (by omega)
  exact ⟨h1.1, fun i hi => VD.bd (h1.2 i hi)⟩
def PdAt (w : World) (g o : Nat) (D : VD) : Prop := g < w.heap.size ∧ ∃ vs, vs.length = 13 ∧ w.rangeAt g o vs ∧ RdL w 0 (trs (dT D)) vs
end Go.Proofs.YtpgcankjhkchjaaGreat
namespace Go.Proofs.YtpgcankjhkchjaaGreat
open Go.RowKit Go.Joins
set_option linter.unusedVariables false
set_option linter.unusedSimpArgs false
def caV (L : VL) : Ca := ⟨L.id, L.pa, L.un, L.q.kd, L.q.pl, L.q.n, L.q.wa, L.q.ws, L.q.bs⟩
def laV (X : VN) : La := ⟨X.bz, caV X.c, X.nu, X.du, X.le, X.nx, X.wt, X.tr⟩
def okVN (X : VN) : Bool := okLn X.nq (fun k => caV (X.qf k)) (laV X) X.c.q.ws.length X.c.q.bs.length
def BdN (X : VN) : Prop := X.nq ≤ 2000000 ∧ (∀ k, k < X.nq → (X.qf k).q.ws.length ≤ 2000000 ∧ (X.qf k).q.bs.length ≤ 2000000) ∧ X.c.q.ws.length ≤ 2000000 ∧ X.c.q.bs.length ≤ 2000000
def FbAt (w : World) (g o : Nat) (X : VF) : Prop := g < w.heap.size ∧ ∃ vs, vs.length = 11 ∧ w.rangeAt g o vs ∧ RdL w 0 (trs (xfT X)) vs
def cnV (X : VF) (k : Nat) : Int := match k with | 0 => X.sk | 1 => X.re | 2 => X.fa | _ => X.se
end Go.Proofs.YtpgcankjhkchjaaGreat
namespace Go.Proofs.YtpgcankjhkchjaaGreat
open Go.RowKit Go.Joins
set_option linter.unusedVariables false
set_option linter.unusedSimpArgs false
def FnD (m : Nat) (f : Nat → VD) (id r : Int) : Prop := (r = -1 ∧ ∀ k, k < m → (f k).id ≠ id) ∨ ∃ k : Nat, r = (k : Int) ∧ k < m ∧ (f k).id = id ∧ ∀ j, j < k → (f j).id ≠ id
def sqB (P Q : VQ) : Bool := (P.kd == Q.kd) && ((P.pl == Q.pl) && ((P.n == Q.n) && ((P.wa == Q.wa) && (decide (P.ws = Q.ws) && decide (P.bs = Q.bs)))))
set_option maxRecDepth 20000 in
set_option maxHeartbeats 4000000 in
theorem l14SameReq_any (P Q : VQ) (a1 : Option Addr) (c1 : Nat) (a2 : Option Addr) (c2 : Nat) (b1 : Option Addr) (d1 : Nat) (b2 : Option Addr) (d2 : Nat) (w : World) (r1 : Rd w 0 (intsT P.ws) (.slice a1 P.ws.length c1)) (r2 : Rd w 0 (boolsT P.bs) (.slice a2 P.bs.length c2)) (q1 : Rd w 0 (intsT Q.ws) (.slice b1 Q.ws.length d1)) (q2 : Rd w 0 (boolsT Q.bs) (.slice b2 Q.bs.length d2)) (h1 : P.ws.length ≤ 2000000) (h2 : P.bs.length ≤ 2000000) (h3 : Q.ws.length ≤ 2000000) (h4 : Q.bs.length ≤ 2000000) :
    Calls Tryz.prog 86 #[.agg (qL P a1 P.ws.length c1 a2 P.bs.length c2).toArray, .agg (qL Q b1 Q.ws.length d1 b2 Q.bs.length d2).toArray] w fun e w' => e = .returned (.bool (sqB P Q)) ∧ Below w.heap.size w w' := by
  obtain ⟨t0, e0⟩ : ∃ t, (P.kd == Q.kd) = t := ⟨_, rfl⟩
  obtain ⟨t1, e1⟩ : ∃ t, (P.pl == Q.pl) = t := ⟨_, rfl⟩
  obtain ⟨t2, e2⟩ : ∃ t, (P.n == Q.n) = t := ⟨_, rfl⟩
  obtain ⟨t3, e3⟩ : ∃ t, (P.wa == Q.wa) = t := ⟨_, rfl⟩
  obtain ⟨t4, e4⟩ : ∃ t, decide (P.ws = Q.ws) = t := ⟨_, rfl⟩
  obtain ⟨t5, e5⟩ : ∃ t, decide (P.bs = Q.bs) = t := ⟨_, rfl⟩
  obtain ⟨W, hW⟩ : ∃ W, W = (w.alloc (.cells (qL P a1 P.ws.length c1 a2 P.bs.length c2).toArray 83)).alloc (.cells (qL Q b1 Q.ws.length d1 b2 Q.bs.length d2).toArray 83) := ⟨_, rfl⟩
  have bW : Below w.heap.size w W := by rw [hW]; exact bel_nx (bel_alloc w _) (bel_alloc _ _)
  have A0 : Blk W w.heap.size 83 (qL P a1 P.ws.length c1 a2 P.bs.length c2).toArray := by rw [hW]; exact (Blk.new w _ _).below (bel_alloc _ _)
  have B0 : Blk W (w.heap.size + 1) 83 (qL Q b1 Q.ws.length d1 b2 Q.bs.length d2).toArray := by
    rw [hW]; have := Blk.new (w.alloc (.cells (qL P a1 P.ws.length c1 a2 P.bs.length c2).toArray 83)) (qL Q b1 Q.ws.length d1 b2 Q.bs.length d2).toArray 83; simpa using this
  obtain ⟨_, _, x1, _, _, s1⟩ := (r1.below bW).ints
  obtain ⟨_, _, x2, _, _, s2⟩ := (r2.below bW).bools
  obtain ⟨_, _, x3, _, _, s3⟩ := (q1.below bW).ints
  obtain ⟨_, _, x4, _, _, s4⟩ := (q2.below bW).bools
  simp only [Value.slice.injEq] at x1 x2 x3 x4
  rw [← x1.1] at s1
  rw [← x2.1] at s2
  rw [← x3.1] at s3
  rw [← x4.1] at s4
  have HE : Hid (sqB P Q = (t0 && (t1 && (t2 && (t3 && (t4 && t5))))) ∧ decide (P.ws = Q.ws) = t4 ∧ decide (P.bs = Q.bs) = t5 ∧ Below w.heap.size w W ∧ SlI W a1 P.ws ∧ SlB W a2 P.bs ∧ SlI W b1 Q.ws ∧ SlB W b2 Q.bs ∧ Blk W w.heap.size 83 (qL P a1 P.ws.length c1 a2 P.bs.length c2).toArray ∧ Blk W (w.heap.size + 1) 83 (qL Q b1 Q.ws.length d1 b2 Q.bs.length d2).toArray) := ⟨by unfold sqB; rw [e0, e1, e2, e3, e4, e5], e4, e5, bW, s1, s2, s3, s4, A0, B0⟩
  obtain ⟨⟨y0, y1, y2, y3, y4, y5⟩, yf⟩ := A0.tc6
  obtain ⟨⟨z0, z1, z2, z3, z4, z5⟩, zf⟩ := B0.tc6
  rw [HE.out.1]
  clear e4 e5 bW A0 B0 s1 s2 s3 s4 x1 x2 x3 x4 r1 r2 q1 q2 yf zf
  go_enter Tryz.func86, Tryz.ntmps86
  go_upto_region 1 with fail
  rw [← hW]
  clear hW
  cases t0 with
  | false =>
    go_wp2
    go_ret
    exact ⟨rfl, HE.out.2.2.2.1⟩
  | true =>
    cases t1 with
    | false =>
      go_wp2
      go_ret
      exact ⟨rfl, HE.out.2.2.2.1⟩
    | true =>
      cases t2 with
      | false =>
        go_wp2
        go_ret
        exact ⟨rfl, HE.out.2.2.2.1⟩
      | true =>
        cases t3 with
        | false =>
          go_wp2
          go_ret
          exact ⟨rfl, HE.out.2.2.2.1⟩
        | true =>
          go_wp2_with fail
          refine (l4SameWords_any a1 b1 _ _ c1 d1 P.ws Q.ws _ rfl rfl HE.out.2.2.2.2.1 HE.out.2.2.2.2.2.2.1 h1 h3 t4 HE.out.2.1).mono ?_
          rintro e w1 ⟨rfl, hb⟩
          have H1 : Hid (Below w.heap.size w w1 ∧ SlB w1 a2 P.bs ∧ SlB w1 b2 Q.bs ∧ Blk w1 w.heap.size 83 (qL P a1 P.ws.length c1 a2 P.bs.length c2).toArray ∧ Blk w1 (w.heap.size + 1) 83 (qL Q b1 Q.ws.length d1 b2 Q.bs.length d2).toArray) := ⟨bel_nx HE.out.2.2.2.1 hb, HE.out.2.2.2.2.2.1.below hb, HE.out.2.2.2.2.2.2.2.1.below hb, HE.out.2.2.2.2.2.2.2.2.1.below hb, HE.out.2.2.2.2.2.2.2.2.2.below hb⟩
          clear hb y0 y1 y2 y3 y4 y5 z0 z1 z2 z3 z4 z5
          obtain ⟨⟨y0, y1, y2, y3, y4, y5⟩, yf⟩ := H1.out.2.2.2.1.tc6
          obtain ⟨⟨z0, z1, z2, z3, z4, z5⟩, zf⟩ := H1.out.2.2.2.2.tc6
          clear yf zf
          cases t4 with
          | false =>
            go_wp2
            go_ret
            exact ⟨rfl, H1.out.1⟩
          | true =>
            go_wp2_with fail
            refine (l5SameBits_any a2 b2 _ _ c2 d2 P.bs Q.bs _ rfl rfl H1.out.2.1 H1.out.2.2.1 h2 h4 t5 HE.out.2.2.1).mono ?_
            rintro e w2 ⟨rfl, hb⟩
            have B2 := bel_nx H1.out.1 hb
            clear hb y0 y1 y2 y3 y4 y5 z0 z1 z2 z3 z4 z5
            go_wp2
            go_ret
            exact ⟨rfl, B2⟩
end Go.Proofs.YtpgcankjhkchjaaGreat
namespace Go.Proofs.YtpgcankjhkchjaaGreat
open Go.RowKit Go.Joins
set_option linter.unusedVariables false
set_option linter.unusedSimpArgs false
def saA (P Q : VA) : Bool := (P.kd == Q.kd) && ((P.fl == Q.fl) && ((P.pl == Q.pl) && ((P.n == Q.n) && (decide (P.ws = Q.ws) && decide (P.bs = Q.bs)))))
set_option maxRecDepth 20000 in
set_option maxHeartbeats 4000000 in
theorem l16SameResp_any (P Q : VA) (a1 : Option Addr) (c1 : Nat) (a2 : Option Addr) (c2 : Nat) (b1 : Option Addr) (d1 : Nat) (b2 : Option Addr) (d2 : Nat) (w : World) (r1 : Rd w 0 (intsT P.ws) (.slice a1 P.ws.length c1)) (r2 : Rd w 0 (boolsT P.bs) (.slice a2 P.bs.length c2)) (q1 : Rd w 0 (intsT Q.ws) (.slice b1 Q.ws.length d1)) (q2 : Rd w 0 (boolsT Q.bs) (.slice b2 Q.bs.length d2)) (h1 : P.ws.length ≤ 2000000) (h2 : P.bs.length ≤ 2000000) (h3 : Q.ws.length ≤ 2000000) (h4 : Q.bs.length ≤ 2000000) :
    Calls Tryz.prog 134 #[.agg (aL P a1 P.ws.length c1 a2 P.bs.length c2).toArray, .agg (aL Q b1 Q.ws.length d1 b2 Q.bs.length d2).toArray] w fun e w' => e = .returned (.bool (saA P Q)) ∧ Below w.heap.size w w' := by
  obtain ⟨t0, e0⟩ : ∃ t, (P.kd == Q.kd) = t := ⟨_, rfl⟩
  obtain ⟨t1, e1⟩ : ∃ t, (P.fl == Q.fl) = t := ⟨_, rfl⟩
  obtain ⟨t2, e2⟩ : ∃ t, (P.pl == Q.pl) = t := ⟨_, rfl⟩
  obtain ⟨t3, e3⟩ : ∃ t, (P.n == Q.n) = t := ⟨_, rfl⟩
  obtain ⟨t4, e4⟩ : ∃ t, decide (P.ws = Q.ws) = t := ⟨_, rfl⟩
  obtain ⟨t5, e5⟩ : ∃ t, decide (P.bs = Q.bs) = t := ⟨_, rfl⟩
  obtain ⟨W, hW⟩ : ∃ W, W = (w.alloc (.cells (aL P a1 P.ws.length c1 a2 P.bs.length c2).toArray 117)).alloc (.cells (aL Q b1 Q.ws.length d1 b2 Q.bs.length d2).toArray 117) := ⟨_, rfl⟩
  have bW : Below w.heap.size w W := by rw [hW]; exact bel_nx (bel_alloc w _) (bel_alloc _ _)
  have A0 : Blk W w.heap.size 117 (aL P a1 P.ws.length c1 a2 P.bs.length c2).toArray := by rw [hW]; exact (Blk.new w _ _).below (bel_alloc _ _)
  have B0 : Blk W (w.heap.size + 1) 117 (aL Q b1 Q.ws.length d1 b2 Q.bs.length d2).toArray := by
    rw [hW]; have := Blk.new (w.alloc (.cells (aL P a1 P.ws.length c1 a2 P.bs.length c2).toArray 117)) (aL Q b1 Q.ws.length d1 b2 Q.bs.length d2).toArray 117; simpa using this
  obtain ⟨_, _, x1, _, _, s1⟩ := (r1.below bW).ints
  obtain ⟨_, _, x2, _, _, s2⟩ := (r2.below bW).bools
  obtain ⟨_, _, x3, _, _, s3⟩ := (q1.below bW).ints
  obtain ⟨_, _, x4, _, _, s4⟩ := (q2.below bW).bools
  simp only [Value.slice.injEq] at x1 x2 x3 x4
  rw [← x1.1] at s1
  rw [← x2.1] at s2
  rw [← x3.1] at s3
  rw [← x4.1] at s4
  have HE : Hid (saA P Q = (t0 && (t1 && (t2 && (t3 && (t4 && t5))))) ∧ decide (P.ws = Q.ws) = t4 ∧ decide (P.bs = Q.bs) = t5 ∧ Below w.heap.size w W ∧ SlI W a1 P.ws ∧ SlB W a2 P.bs ∧ SlI W b1 Q.ws ∧ SlB W b2 Q.bs ∧ Blk W w.heap.size 117 (aL P a1 P.ws.length c1 a2 P.bs.length c2).toArray ∧ Blk W (w.heap.size + 1) 117 (aL Q b1 Q.ws.length d1 b2 Q.bs.length d2).toArray) := ⟨by unfold saA; rw [e0, e1, e2, e3, e4, e5], e4, e5, bW, s1, s2, s3, s4, A0, B0⟩
  obtain ⟨⟨y0, y1, y2, y3, y4, y5⟩, yf⟩ := A0.tc6
  obtain ⟨⟨z0, z1, z2, z3, z4, z5⟩, zf⟩ := B0.tc6
  rw [HE.out.1]
  clear e4 e5 bW A0 B0 s1 s2 s3 s4 x1 x2 x3 x4 r1 r2 q1 q2 yf zf
  go_enter Tryz.func134, Tryz.ntmps134
  go_upto_region 1 with fail
  rw [← hW]
  clear hW
  cases t0 with
  | false =>
    go_wp2
    go_ret
    exact ⟨rfl, HE.out.2.2.2.1⟩
  | true =>
    cases t1 with
    | false =>
      go_wp2
      go_ret
      exact ⟨rfl, HE.out.2.2.2.1⟩
    | true =>
      cases t2 with
      | false =>
        go_wp2
        go_ret
        exact ⟨rfl, HE.out.2.2.2.1⟩
      | true =>
        cases t3 with
        | false =>
          go_wp2
          go_ret
          exact ⟨rfl, HE.out.2.2.2.1⟩
        | true =>
          go_wp2_with fail
          refine (l4SameWords_any a1 b1 _ _ c1 d1 P.ws Q.ws _ rfl rfl HE.out.2.2.2.2.1 HE.out.2.2.2.2.2.2.1 h1 h3 t4 HE.out.2.1).mono ?_
          rintro e w1 ⟨rfl, hb⟩
          have H1 : Hid (Below w.heap.size w w1 ∧ SlB w1 a2 P.bs ∧ SlB w1 b2 Q.bs ∧ Blk w1 w.heap.size 117 (aL P a1 P.ws.length c1 a2 P.bs.length c2).toArray ∧ Blk w1 (w.heap.size + 1) 117 (aL Q b1 Q.ws.length d1 b2 Q.bs.length d2).toArray) := ⟨bel_nx HE.out.2.2.2.1 hb, HE.out.2.2.2.2.2.1.below hb, HE.out.2.2.2.2.2.2.2.1.below hb, HE.out.2.2.2.2.2.2.2.2.1.below hb, HE.out.2.2.2.2.2.2.2.2.2.below hb⟩
          clear hb y0 y1 y2 y3 y4 y5 z0 z1 z2 z3 z4 z5
          obtain ⟨⟨y0, y1, y2, y3, y4, y5⟩, yf⟩ := H1.out.2.2.2.1.tc6
          obtain ⟨⟨z0, z1, z2, z3, z4, z5⟩, zf⟩ := H1.out.2.2.2.2.tc6
          clear yf zf
          cases t4 with
          | false =>
            go_wp2
            go_ret
            exact ⟨rfl, H1.out.1⟩
          | true =>
            go_wp2_with fail
            refine (l5SameBits_any a2 b2 _ _ c2 d2 P.bs Q.bs _ rfl rfl H1.out.2.1 H1.out.2.2.1 h2 h4 t5 HE.out.2.2.1).mono ?_
            rintro e w2 ⟨rfl, hb⟩
            have B2 := bel_nx H1.out.1 hb
            clear hb y0 y1 y2 y3 y4 y5 z0 z1 z2 z3 z4 z5
            go_wp2
            go_ret
            exact ⟨rfl, B2⟩
set_option maxRecDepth 20000 in
set_option maxHeartbeats 4000000 in
theorem sameRespQ_any (P Q : VA) (a1 : Option Addr) (c1 : Nat) (a2 : Option Addr) (c2 : Nat) (b1 : Option Addr) (d1 : Nat) (b2 : Option Addr) (d2 : Nat) (w : World) (r1 : Rd w 0 (intsT P.ws) (.slice a1 P.ws.length c1)) (r2 : Rd w 0 (boolsT P.bs) (.slice a2 P.bs.length c2)) (q1 : Rd w 0 (intsT Q.ws) (.slice b1 Q.ws.length d1)) (q2 : Rd w 0 (boolsT Q.bs) (.slice b2 Q.bs.length d2)) (h1 : P.ws.length ≤ 2000000) (h2 : P.bs.length ≤ 2000000) (h3 : Q.ws.length ≤ 2000000) (h4 : Q.bs.length ≤ 2000000) :
    Calls Tryz.prog 242 #[.agg (aL P a1 P.ws.length c1 a2 P.bs.length c2).toArray, .agg (aL Q b1 Q.ws.length d1 b2 Q.bs.length d2).toArray] w fun e w' => e = .returned (.bool (saA P Q)) ∧ Below w.heap.size w w' := by
  obtain ⟨t0, e0⟩ : ∃ t, (P.kd == Q.kd) = t := ⟨_, rfl⟩
  obtain ⟨t1, e1⟩ : ∃ t, (P.fl == Q.fl) = t := ⟨_, rfl⟩
  obtain ⟨t2, e2⟩ : ∃ t, (P.pl == Q.pl) = t := ⟨_, rfl⟩
  obtain ⟨t3, e3⟩ : ∃ t, (P.n == Q.n) = t := ⟨_, rfl⟩
  obtain ⟨t4, e4⟩ : ∃ t, decide (P.ws = Q.ws) = t := ⟨_, rfl⟩
  obtain ⟨t5, e5⟩ : ∃ t, decide (P.bs = Q.bs) = t := ⟨_, rfl⟩
  obtain ⟨W, hW⟩ : ∃ W, W = (w.alloc (.cells (aL P a1 P.ws.length c1 a2 P.bs.length c2).toArray 117)).alloc (.cells (aL Q b1 Q.ws.length d1 b2 Q.bs.length d2).toArray 117) := ⟨_, rfl⟩
  have bW : Below w.heap.size w W := by rw [hW]; exact bel_nx (bel_alloc w _) (bel_alloc _ _)
  have A0 : Blk W w.heap.size 117 (aL P a1 P.ws.length c1 a2 P.bs.length c2).toArray := by rw [hW]; exact (Blk.new w _ _).below (bel_alloc _ _)
  have B0 : Blk W (w.heap.size + 1) 117 (aL Q b1 Q.ws.length d1 b2 Q.bs.length d2).toArray := by
    rw [hW]; have := Blk.new (w.alloc (.cells (aL P a1 P.ws.length c1 a2 P.bs.length c2).toArray 117)) (aL Q b1 Q.ws.length d1 b2 Q.bs.length d2).toArray 117; simpa using this
  obtain ⟨_, _, x1, _, _, s1⟩ := (r1.below bW).ints
  obtain ⟨_, _, x2, _, _, s2⟩ := (r2.below bW).bools
  obtain ⟨_, _, x3, _, _, s3⟩ := (q1.below bW).ints
  obtain ⟨_, _, x4, _, _, s4⟩ := (q2.below bW).bools
  simp only [Value.slice.injEq] at x1 x2 x3 x4
  rw [← x1.1] at s1
  rw [← x2.1] at s2
  rw [← x3.1] at s3
  rw [← x4.1] at s4
  have HE : Hid (saA P Q = (t0 && (t1 && (t2 && (t3 && (t4 && t5))))) ∧ decide (P.ws = Q.ws) = t4 ∧ decide (P.bs = Q.bs) = t5 ∧ Below w.heap.size w W ∧ SlI W a1 P.ws ∧ SlB W a2 P.bs ∧ SlI W b1 Q.ws ∧ SlB W b2 Q.bs ∧ Blk W w.heap.size 117 (aL P a1 P.ws.length c1 a2 P.bs.length c2).toArray ∧ Blk W (w.heap.size + 1) 117 (aL Q b1 Q.ws.length d1 b2 Q.bs.length d2).toArray) := ⟨by unfold saA; rw [e0, e1, e2, e3, e4, e5], e4, e5, bW, s1, s2, s3, s4, A0, B0⟩
  obtain ⟨⟨y0, y1, y2, y3, y4, y5⟩, yf⟩ := A0.tc6
  obtain ⟨⟨z0, z1, z2, z3, z4, z5⟩, zf⟩ := B0.tc6
  rw [HE.out.1]
  clear e4 e5 bW A0 B0 s1 s2 s3 s4 x1 x2 x3 x4 r1 r2 q1 q2 yf zf
  go_enter Tryz.func242, Tryz.ntmps242
  go_upto_region 1 with fail
  rw [← hW]
  clear hW
  cases t0 with
  | false =>
    go_wp2
    go_ret
    exact ⟨rfl, HE.out.2.2.2.1⟩
  | true =>
    cases t1 with
    | false =>
      go_wp2
      go_ret
      exact ⟨rfl, HE.out.2.2.2.1⟩
    | true =>
      cases t2 with
      | false =>
        go_wp2
        go_ret
        exact ⟨rfl, HE.out.2.2.2.1⟩
      | true =>
        cases t3 with
        | false =>
          go_wp2
          go_ret
          exact ⟨rfl, HE.out.2.2.2.1⟩
        | true =>
          go_wp2_with fail
          refine (equal_int_any a1 b1 _ _ c1 d1 P.ws Q.ws _ rfl rfl HE.out.2.2.2.2.1 HE.out.2.2.2.2.2.2.1 h1 h3 t4 HE.out.2.1).mono ?_
          rintro e w1 ⟨rfl, hb⟩
          have H1 : Hid (Below w.heap.size w w1 ∧ SlB w1 a2 P.bs ∧ SlB w1 b2 Q.bs ∧ Blk w1 w.heap.size 117 (aL P a1 P.ws.length c1 a2 P.bs.length c2).toArray ∧ Blk w1 (w.heap.size + 1) 117 (aL Q b1 Q.ws.length d1 b2 Q.bs.length d2).toArray) := ⟨bel_nx HE.out.2.2.2.1 hb, HE.out.2.2.2.2.2.1.below hb, HE.out.2.2.2.2.2.2.2.1.below hb, HE.out.2.2.2.2.2.2.2.2.1.below hb, HE.out.2.2.2.2.2.2.2.2.2.below hb⟩
          clear hb y0 y1 y2 y3 y4 y5 z0 z1 z2 z3 z4 z5
          obtain ⟨⟨y0, y1, y2, y3, y4, y5⟩, yf⟩ := H1.out.2.2.2.1.tc6
          obtain ⟨⟨z0, z1, z2, z3, z4, z5⟩, zf⟩ := H1.out.2.2.2.2.tc6
          clear yf zf
          cases t4 with
          | false =>
            go_wp2
            go_ret
            exact ⟨rfl, H1.out.1⟩
          | true =>
            go_wp2_with fail
            refine (equal_bool_any a2 b2 _ _ c2 d2 P.bs Q.bs _ rfl rfl H1.out.2.1 H1.out.2.2.1 h2 h4 t5 HE.out.2.2.1).mono ?_
            rintro e w2 ⟨rfl, hb⟩
            have B2 := bel_nx H1.out.1 hb
            clear hb y0 y1 y2 y3 y4 y5 z0 z1 z2 z3 z4 z5
            go_wp2
            go_ret
            exact ⟨rfl, B2⟩
set_option maxRecDepth 20000 in
set_option maxHeartbeats 4000000 in
theorem sameReqE_any (P Q : VQ) (a1 : Option Addr) (c1 : Nat) (a2 : Option Addr) (c2 : Nat) (b1 : Option Addr) (d1 : Nat) (b2 : Option Addr) (d2 : Nat) (w : World) (r1 : Rd w 0 (intsT P.ws) (.slice a1 P.ws.length c1)) (r2 : Rd w 0 (boolsT P.bs) (.slice a2 P.bs.length c2)) (q1 : Rd w 0 (intsT Q.ws) (.slice b1 Q.ws.length d1)) (q2 : Rd w 0 (boolsT Q.bs) (.slice b2 Q.bs.length d2)) (h1 : P.ws.length ≤ 2000000) (h2 : P.bs.length ≤ 2000000) (h3 : Q.ws.length ≤ 2000000) (h4 : Q.bs.length ≤ 2000000) :
    Calls Tryz.prog 214 #[.agg (qL P a1 P.ws.length c1 a2 P.bs.length c2).toArray, .agg (qL Q b1 Q.ws.length d1 b2 Q.bs.length d2).toArray] w fun e w' => e = .returned (.bool (sqB P Q)) ∧ Below w.heap.size w w' := by
  obtain ⟨t0, e0⟩ : ∃ t, (P.kd == Q.kd) = t := ⟨_, rfl⟩
  obtain ⟨t1, e1⟩ : ∃ t, (P.pl == Q.pl) = t := ⟨_, rfl⟩
  obtain ⟨t2, e2⟩ : ∃ t, (P.n == Q.n) = t := ⟨_, rfl⟩
  obtain ⟨t3, e3⟩ : ∃ t, (P.wa == Q.wa) = t := ⟨_, rfl⟩
  obtain ⟨t4, e4⟩ : ∃ t, decide (P.ws = Q.ws) = t := ⟨_, rfl⟩
  obtain ⟨t5, e5⟩ : ∃ t, decide (P.bs = Q.bs) = t := ⟨_, rfl⟩
  obtain ⟨W, hW⟩ : ∃ W, W = (w.alloc (.cells (qL P a1 P.ws.length c1 a2 P.bs.length c2).toArray 83)).alloc (.cells (qL Q b1 Q.ws.length d1 b2 Q.bs.length d2).toArray 83) := ⟨_, rfl⟩
  have bW : Below w.heap.size w W := by rw [hW]; exact bel_nx (bel_alloc w _) (bel_alloc _ _)
  have A0 : Blk W w.heap.size 83 (qL P a1 P.ws.length c1 a2 P.bs.length c2).toArray := by rw [hW]; exact (Blk.new w _ _).below (bel_alloc _ _)
  have B0 : Blk W (w.heap.size + 1) 83 (qL Q b1 Q.ws.length d1 b2 Q.bs.length d2).toArray := by
    rw [hW]; have := Blk.new (w.alloc (.cells (qL P a1 P.ws.length c1 a2 P.bs.length c2).toArray 83)) (qL Q b1 Q.ws.length d1 b2 Q.bs.length d2).toArray 83; simpa using this
  obtain ⟨_, _, x1, _, _, s1⟩ := (r1.below bW).ints
  obtain ⟨_, _, x2, _, _, s2⟩ := (r2.below bW).bools
  obtain ⟨_, _, x3, _, _, s3⟩ := (q1.below bW).ints
  obtain ⟨_, _, x4, _, _, s4⟩ := (q2.below bW).bools
  simp only [Value.slice.injEq] at x1 x2 x3 x4
  rw [← x1.1] at s1
  rw [← x2.1] at s2
  rw [← x3.1] at s3
  rw [← x4.1] at s4
  have HE : Hid (sqB P Q = (t0 && (t1 && (t2 && (t3 && (t4 && t5))))) ∧ decide (P.ws = Q.ws) = t4 ∧ decide (P.bs = Q.bs) = t5 ∧ Below w.heap.size w W ∧ SlI W a1 P.ws ∧ SlB W a2 P.bs ∧ SlI W b1 Q.ws ∧ SlB W b2 Q.bs ∧ Blk W w.heap.size 83 (qL P a1 P.ws.length c1 a2 P.bs.length c2).toArray ∧ Blk W (w.heap.size + 1) 83 (qL Q b1 Q.ws.length d1 b2 Q.bs.length d2).toArray) := ⟨by unfold sqB; rw [e0, e1, e2, e3, e4, e5], e4, e5, bW, s1, s2, s3, s4, A0, B0⟩
  obtain ⟨⟨y0, y1, y2, y3, y4, y5⟩, yf⟩ := A0.tc6
  obtain ⟨⟨z0, z1, z2, z3, z4, z5⟩, zf⟩ := B0.tc6
  rw [HE.out.1]
  clear e4 e5 bW A0 B0 s1 s2 s3 s4 x1 x2 x3 x4 r1 r2 q1 q2 yf zf
  go_enter Tryz.func214, Tryz.ntmps214
  go_upto_region 1 with fail
  rw [← hW]
  clear hW
  cases t0 with
  | false =>
    go_wp2
    go_ret
    exact ⟨rfl, HE.out.2.2.2.1⟩
  | true =>
    cases t1 with
    | false =>
      go_wp2
      go_ret
      exact ⟨rfl, HE.out.2.2.2.1⟩
    | true =>
      cases t2 with
      | false =>
        go_wp2
        go_ret
        exact ⟨rfl, HE.out.2.2.2.1⟩
      | true =>
        cases t3 with
        | false =>
          go_wp2
          go_ret
          exact ⟨rfl, HE.out.2.2.2.1⟩
        | true =>
          go_wp2_with fail
          refine (equal_int_any a1 b1 _ _ c1 d1 P.ws Q.ws _ rfl rfl HE.out.2.2.2.2.1 HE.out.2.2.2.2.2.2.1 h1 h3 t4 HE.out.2.1).mono ?_
          rintro e w1 ⟨rfl, hb⟩
          have H1 : Hid (Below w.heap.size w w1 ∧ SlB w1 a2 P.bs ∧ SlB w1 b2 Q.bs ∧ Blk w1 w.heap.size 83 (qL P a1 P.ws.length c1 a2 P.bs.length c2).toArray ∧ Blk w1 (w.heap.size + 1) 83 (qL Q b1 Q.ws.length d1 b2 Q.bs.length d2).toArray) := ⟨bel_nx HE.out.2.2.2.1 hb, HE.out.2.2.2.2.2.1.below hb, HE.out.2.2.2.2.2.2.2.1.below hb, HE.out.2.2.2.2.2.2.2.2.1.below hb, HE.out.2.2.2.2.2.2.2.2.2.below hb⟩
          clear hb y0 y1 y2 y3 y4 y5 z0 z1 z2 z3 z4 z5
          obtain ⟨⟨y0, y1, y2, y3, y4, y5⟩, yf⟩ := H1.out.2.2.2.1.tc6
          obtain ⟨⟨z0, z1, z2, z3, z4, z5⟩, zf⟩ := H1.out.2.2.2.2.tc6
          clear yf zf
          cases t4 with
          | false =>
            go_wp2
            go_ret
            exact ⟨rfl, H1.out.1⟩
          | true =>
            go_wp2_with fail
            refine (equal_bool_any a2 b2 _ _ c2 d2 P.bs Q.bs _ rfl rfl H1.out.2.1 H1.out.2.2.1 h2 h4 t5 HE.out.2.2.1).mono ?_
            rintro e w2 ⟨rfl, hb⟩
            have B2 := bel_nx H1.out.1 hb
            clear hb y0 y1 y2 y3 y4 y5 z0 z1 z2 z3 z4 z5
            go_wp2
            go_ret
            exact ⟨rfl, B2⟩
def isE (E : VE) (P : VP) (A : VA) : Bool := (E.po == P.p) && ((E.un == P.t) && (sqB E.q P.q && saA E.a A))
def BdE (E : VE) : Prop := BdQ E.q ∧ BdA E.a
def wsB (X : VW) (P : VP) (A : VA) : Bool := (A.fl == 11) || !(allN (fun k => !isE (X.ef k) P A) X.ne)
def rpB (X : VW) (R : VR) : Bool := allN (fun k => wsB X (R.pt k) (R.tl k)) (min R.np R.nt)
def pdB (X : VW) (D : VD) : Bool := allN (fun k => !(D.hs.getD k false) || wsB X (D.pt k) (D.tl k)) (min (min D.np D.nt) D.hs.length)
def seB (X : VW) : Bool := allN (fun i => rpB X (X.rf i)) X.nr && allN (fun i => pdB X (X.fb.op.f i)) X.fb.op.m
def BdR (R : VR) : Prop := R.np ≤ 2000000 ∧ R.nt ≤ 2000000 ∧ (∀ i, i < R.np → BdQ (R.pt i).q) ∧ ∀ i, i < R.nt → BdA (R.tl i)
def BdW (X : VW) : Prop := (X.nr ≤ 2000000 ∧ ∀ i, i < X.nr → BdR (X.rf i)) ∧ (X.ne ≤ 2000000 ∧ ∀ i, i < X.ne → BdE (X.ef i)) ∧ BdT X.fb.op
theorem VW.bdW {X : VW} (h : szT 15 (trs (xwT X)) ≤ 2000000) : BdW X := by
  rw [szT_xw] at h
  have h1 := list_bd (s := 16) (n := X.nr) (f := fun i => trs (xyT (X.rf i))) (N := 2000000) (by omega)
  have h2 := list_bd (s := 15) (n := X.ne) (f := fun i => trs (xeT (X.ef i))) (N := 2000000) (by omega)
  refine ⟨⟨h1.1, fun i hi => ?_⟩, ⟨h2.1, fun i hi => ?_⟩, VT.bd (by rw [szT_t]; omega)⟩
  · have h3 := h1.2 i hi
    rw [szT_xy] at h3
    have h4 := list_bd (s := 8) (n := (X.rf i).np) (f := fun k => trs (pT ((X.rf i).pt k))) (N := 2000000) (by omega)
    have h5 := list_bd (s := 6) (n := (X.rf i).nt) (f := fun k => trs (aT ((X.rf i).tl k))) (N := 2000000) (by omega)
    refine ⟨h4.1, h5.1, fun k hk => ?_, fun k hk => ?_⟩
    · have := h4.2 k hk
      rw [szT_p] at this
      exact ⟨by omega, by omega⟩
    · have := h5.2 k hk
      rw [szT_a] at this
      exact ⟨by omega, by omega⟩
  · have h3 := h2.2 i hi
    rw [szT_xe] at h3
    exact ⟨⟨by omega, by omega⟩, ⟨by omega, by omega⟩⟩
end Go.Proofs.YtpgcankjhkchjaaGreat
namespace Go.Proofs.YtpgcankjhkchjaaGreat
open Go.RowKit Go.Joins
set_option linter.unusedVariables false
set_option linter.unusedSimpArgs false
set_option maxRecDepth 20000 in
set_option maxHeartbeats 8000000 in
theorem isOfE_any (E : VE) (P : VP) (A : VA) (g : Nat) (e1 : Option Addr) (k1 : Nat) (e2 : Option Addr) (k2 : Nat) (e3 : Option Addr) (k3 : Nat) (e4 : Option Addr) (k4 : Nat) (b1 : Option Addr) (d1 : Nat) (b2 : Option Addr) (d2 : Nat) (s1 : Option Addr) (t1 : Nat) (s2 : Option Addr) (t2 : Nat) (w : World) (hk : Blk w g 194 (xeL E e1 E.q.ws.length k1 e2 E.q.bs.length k2 e3 E.a.ws.length k3 e4 E.a.bs.length k4).toArray) (h : Rd w 0 (intsT E.q.ws) (.slice e1 E.q.ws.length k1) ∧ Rd w 0 (boolsT E.q.bs) (.slice e2 E.q.bs.length k2) ∧ Rd w 0 (intsT E.a.ws) (.slice e3 E.a.ws.length k3) ∧ Rd w 0 (boolsT E.a.bs) (.slice e4 E.a.bs.length k4) ∧ Rd w 0 (intsT P.q.ws) (.slice b1 P.q.ws.length d1) ∧ Rd w 0 (boolsT P.q.bs) (.slice b2 P.q.bs.length d2) ∧ Rd w 0 (intsT A.ws) (.slice s1 A.ws.length t1) ∧ Rd w 0 (boolsT A.bs) (.slice s2 A.bs.length t2)) (hb : (BdQ E.q ∧ BdA E.a) ∧ BdQ P.q ∧ BdA A) :
    Calls Tryz.prog 204 #[.pointer (some ⟨g, 0, none⟩), .agg (pL P b1 P.q.ws.length d1 b2 P.q.bs.length d2).toArray, .agg (aL A s1 A.ws.length t1 s2 A.bs.length t2).toArray] w fun e w' => e = .returned (.bool (isE E P A)) ∧ Below w.heap.size w w' := by
  obtain ⟨x0, h0⟩ : ∃ x, (E.po == P.p) = x := ⟨_, rfl⟩
  obtain ⟨x1, h1⟩ : ∃ x, (E.un == P.t) = x := ⟨_, rfl⟩
  obtain ⟨x2, h2⟩ : ∃ x, sqB E.q P.q = x := ⟨_, rfl⟩
  obtain ⟨x3, h3⟩ : ∃ x, saA E.a A = x := ⟨_, rfl⟩
  have hf : isE E P A = (x0 && (x1 && (x2 && x3))) := by unfold isE; rw [h0, h1, h2, h3]
  rw [hf]
  have HX : Hid ((E.po == P.p) = x0 ∧ (E.un == P.t) = x1 ∧ sqB E.q P.q = x2 ∧ saA E.a A = x3) := ⟨h0, h1, h2, h3⟩
  have HB : Hid ((BdQ E.q ∧ BdA E.a) ∧ BdQ P.q ∧ BdA A) := hb
  obtain ⟨W, hW⟩ : ∃ W, W = (w.alloc (.cells (pL P b1 P.q.ws.length d1 b2 P.q.bs.length d2).toArray 134)).alloc (.cells (aL A s1 A.ws.length t1 s2 A.bs.length t2).toArray 117) := ⟨_, rfl⟩
  obtain ⟨G1, hG1⟩ : ∃ G, G = w.heap.size := ⟨_, rfl⟩
  obtain ⟨G2, hG2⟩ : ∃ G, G = w.heap.size + 1 := ⟨_, rfl⟩
  have bW : Below w.heap.size w W := by rw [hW]; exact bel_nx (bel_alloc w _) (bel_alloc _ _)
  have HE : Hid (Blk W g 194 (xeL E e1 E.q.ws.length k1 e2 E.q.bs.length k2 e3 E.a.ws.length k3 e4 E.a.bs.length k4).toArray ∧ Blk W G1 134 (pL P b1 P.q.ws.length d1 b2 P.q.bs.length d2).toArray ∧ Blk W G2 117 (aL A s1 A.ws.length t1 s2 A.bs.length t2).toArray ∧ Below w.heap.size w W ∧ Rd W 0 (intsT E.q.ws) (.slice e1 E.q.ws.length k1) ∧ Rd W 0 (boolsT E.q.bs) (.slice e2 E.q.bs.length k2) ∧ Rd W 0 (intsT E.a.ws) (.slice e3 E.a.ws.length k3) ∧ Rd W 0 (boolsT E.a.bs) (.slice e4 E.a.bs.length k4) ∧ Rd W 0 (intsT P.q.ws) (.slice b1 P.q.ws.length d1) ∧ Rd W 0 (boolsT P.q.bs) (.slice b2 P.q.bs.length d2) ∧ Rd W 0 (intsT A.ws) (.slice s1 A.ws.length t1) ∧ Rd W 0 (boolsT A.bs) (.slice s2 A.bs.length t2)) := by
    obtain ⟨q1, q2, q3, q4, q5, q6, q7, q8⟩ := h
    refine ⟨hk.below bW, by rw [hW, hG1]; exact (Blk.new _ _ _).below (bel_alloc _ _), ?_, bW, q1.below bW, q2.below bW, q3.below bW, q4.below bW, q5.below bW, q6.below bW, q7.below bW, q8.below bW⟩
    rw [hW, hG2]; have := Blk.new (w.alloc (.cells (pL P b1 P.q.ws.length d1 b2 P.q.bs.length d2).toArray 134)) (aL A s1 A.ws.length t1 s2 A.bs.length t2).toArray 117; simpa using this
  clear hf h0 h1 h2 h3 hb bW hk h
  go_enter Tryz.func204, Tryz.ntmps204
  go_upto_region 1 with fail
  rw [← hW, ← hG2, ← hG1]
  clear hW hG1 hG2
  try go_simp
  refine wp_region_any (by kernel_rfl) ?_
  refine wpAny_vals (fun u => Below W.heap.size W u) (fun i v u => match i with
   | 0 => v = .pointer (some ⟨g, 0, none⟩)
   | 1 => v = .pointer (some ⟨g, 0, none⟩)
   | 2 => v = .pointer (some ⟨g, 0, none⟩)
   | 3 => v = .int .i64 E.po
   | 4 => v = .pointer (some ⟨G1, 0, none⟩)
   | 5 => v = .int .i64 P.p
   | 6 => v = .bool x0
   | 7 => v = .bool x0
   | 8 => v = cond x0 (.pointer (some ⟨g, 0, none⟩)) undef
   | 9 => v = cond x0 (.pointer (some ⟨g, 0, none⟩)) undef
   | 10 => v = cond x0 (.pointer (some ⟨g, 2, none⟩)) undef
   | 11 => v = cond x0 (.int .i64 E.un) undef
   | 12 => v = cond x0 (.pointer (some ⟨G1, 1, none⟩)) undef
   | 13 => v = cond x0 (.int .i64 P.t) undef
   | 14 => v = cond x0 (.bool x1) undef
   | 15 => v = cond x0 (.bool x1) (.bool false)
   | 16 => v = cond x0 (.bool x1) (.bool false)
   | 17 => v = cond x0 (cond x1 (.pointer (some ⟨g, 0, none⟩)) undef) undef
   | 18 => v = cond x0 (cond x1 (.pointer (some ⟨g, 0, none⟩)) undef) undef
   | 19 => v = cond x0 (cond x1 (.pointer (some ⟨g, 3, none⟩)) undef) undef
   | 20 => v = cond x0 (cond x1 (.agg ([.int .i64 E.q.kd, .int .i64 E.q.pl, .int .i64 E.q.n, .slice e1 E.q.ws.length k1, .slice e2 E.q.bs.length k2, .int .i64 E.q.wa]).toArray) undef) undef
   | 21 => v = cond x0 (cond x1 (.pointer (some ⟨G1, 2, none⟩)) undef) undef
   | 22 => v = cond x0 (cond x1 (.agg ([.int .i64 P.q.kd, .int .i64 P.q.pl, .int .i64 P.q.n, .slice b1 P.q.ws.length d1, .slice b2 P.q.bs.length d2, .int .i64 P.q.wa]).toArray) undef) undef
   | 23 => v = cond x0 (cond x1 (.bool x2) undef) undef
   | 24 => v = cond x0 (cond x1 (.bool x2) (.bool false)) (.bool false)
   | 25 => v = cond x0 (cond x1 (.bool x2) (.bool false)) (.bool false)
   | 26 => v = cond x0 (cond x1 (cond x2 (.pointer (some ⟨g, 0, none⟩)) undef) undef) undef
   | 27 => v = cond x0 (cond x1 (cond x2 (.pointer (some ⟨g, 0, none⟩)) undef) undef) undef
   | 28 => v = cond x0 (cond x1 (cond x2 (.pointer (some ⟨g, 9, none⟩)) undef) undef) undef
   | 29 => v = cond x0 (cond x1 (cond x2 (.agg ([.int .i64 E.a.kd, .int .i64 E.a.fl, .int .i64 E.a.pl, .int .i64 E.a.n, .slice e3 E.a.ws.length k3, .slice e4 E.a.bs.length k4]).toArray) undef) undef) undef
   | 30 => v = cond x0 (cond x1 (cond x2 (.agg (aL A s1 A.ws.length t1 s2 A.bs.length t2).toArray) undef) undef) undef
   | 31 => v = cond x0 (cond x1 (cond x2 (.bool x3) undef) undef) undef
   | 32 => v = cond x0 (cond x1 (cond x2 (.bool x3) (.bool false)) (.bool false)) (.bool false)
   | 33 => v = cond x0 (cond x1 (cond x2 (.bool x3) (.bool false)) (.bool false)) (.bool false)
   | _ => v = undef) (by kernel_rfl) (by kernel_rfl) (fun _ _ _ _ h _ => h) (by first | exact Below.refl _ _ | exact (Below.refl _ _).drew) ?_ ?_ _ _ rfl (by decide) (fun i => by simp [Array.getD]; try (split <;> rfl))
  · intro vs u hR hall
    simp only [putsL]
    cases x0
    · have e33 : vs 33 = .bool false := hall 33 (by simp)
      rw [e33]
      clear hall e33
      have B9 := bel_nx HE.out.2.2.2.1 hR
      clear HX HE HB hR
      go_simp
      go_wp2
      go_ret
      exact ⟨rfl, B9⟩
    cases x1
    · have e33 : vs 33 = .bool false := hall 33 (by simp)
      rw [e33]
      clear hall e33
      have B9 := bel_nx HE.out.2.2.2.1 hR
      clear HX HE HB hR
      go_simp
      go_wp2
      go_ret
      exact ⟨rfl, B9⟩
    cases x2
    · have e33 : vs 33 = .bool false := hall 33 (by simp)
      rw [e33]
      clear hall e33
      have B9 := bel_nx HE.out.2.2.2.1 hR
      clear HX HE HB hR
      go_simp
      go_wp2
      go_ret
      exact ⟨rfl, B9⟩
    cases x3
    · have e33 : vs 33 = .bool false := hall 33 (by simp)
      rw [e33]
      clear hall e33
      have B9 := bel_nx HE.out.2.2.2.1 hR
      clear HX HE HB hR
      go_simp
      go_wp2
      go_ret
      exact ⟨rfl, B9⟩
    have e33 : vs 33 = .bool true := hall 33 (by simp)
    rw [e33]
    clear hall e33
    have B9 := bel_nx HE.out.2.2.2.1 hR
    clear HX HE HB hR
    go_simp
    go_wp2
    go_ret
    exact ⟨rfl, B9⟩
  intro u i o ρ hR ho hρ hc hf hd
  have hi : i < 34 := by
    have := (Array.getElem?_eq_some_iff.1 ho).1
    simpa using this
  obtain rfl | rfl | rfl | rfl | rfl | rfl | rfl | rfl | rfl | rfl | rfl | rfl | rfl | rfl | rfl | rfl | rfl | rfl | rfl | rfl | rfl | rfl | rfl | rfl | rfl | rfl | rfl | rfl | rfl | rfl | rfl | rfl | rfl | rfl : i = 0 ∨ i = 1 ∨ i = 2 ∨ i = 3 ∨ i = 4 ∨ i = 5 ∨ i = 6 ∨ i = 7 ∨ i = 8 ∨ i = 9 ∨ i = 10 ∨ i = 11 ∨ i = 12 ∨ i = 13 ∨ i = 14 ∨ i = 15 ∨ i = 16 ∨ i = 17 ∨ i = 18 ∨ i = 19 ∨ i = 20 ∨ i = 21 ∨ i = 22 ∨ i = 23 ∨ i = 24 ∨ i = 25 ∨ i = 26 ∨ i = 27 ∨ i = 28 ∨ i = 29 ∨ i = 30 ∨ i = 31 ∨ i = 32 ∨ i = 33 := by omega
  all_goals (simp only [List.getElem?_toArray, List.getElem?_cons_zero, List.getElem?_cons_succ, Option.some.injEq] at ho; subst ho)
  · have s0 : ρ (.tmp 0) = .pointer (some ⟨g, 0, none⟩) := (hρ 0 (by kernel_rfl)).trans rfl
    exact .inl ⟨rfl, .inl ⟨_, u, rfl, s0, hR, Below.refl _ _⟩⟩
  · have h0 : _ = _ := hd ⟨0, .data⟩ (by simp) rfl 7 rfl
    exact .inl ⟨rfl, .inl ⟨_, u, run_nilz rfl h0, rfl, hR, Below.refl _ _⟩⟩
  · have h1 : _ = _ := hd ⟨1, .data⟩ (by simp) rfl 8 rfl
    exact .inl ⟨rfl, .inl ⟨_, u, run_field_op rfl h1 (by go_simp), rfl, hR, Below.refl _ _⟩⟩
  · have h2 : _ = _ := hd ⟨2, .data⟩ (by simp) rfl 9 rfl
    have y9 : u.cell? ⟨g, 0, none⟩ = some (.int .i64 E.po) := (HE.out.1.below hR).rng 0 _ rfl
    have hr : (Instr.loadAt 3 (.pointer (some ⟨g, 0, none⟩))).run Tryz.prog u = .ok (.int .i64 E.po) u := by go_simp
    exact .inl ⟨rfl, .inl ⟨_, u, run_load_op rfl h2 hr, rfl, hR, Below.refl _ _⟩⟩
  · have s4 : ρ (.tmp 4) = .pointer (some ⟨G1, 0, none⟩) := (hρ 4 (by kernel_rfl)).trans rfl
    exact .inl ⟨rfl, .inl ⟨_, u, run_field_op rfl s4 (by go_simp), rfl, hR, Below.refl _ _⟩⟩
  · have h4 : _ = _ := hd ⟨4, .data⟩ (by simp) rfl 11 rfl
    have y9 : u.cell? ⟨G1, 0, none⟩ = some (.int .i64 P.p) := (HE.out.2.1.below hR).rng 0 _ rfl
    have hr : (Instr.loadAt 3 (.pointer (some ⟨G1, 0, none⟩))).run Tryz.prog u = .ok (.int .i64 P.p) u := by go_simp
    exact .inl ⟨rfl, .inl ⟨_, u, run_load_op rfl h4 hr, rfl, hR, Below.refl _ _⟩⟩
  · cases x0
    · have t0 : (E.po == P.p) = false := HX.out.1
      have h3 : _ = _ := hd ⟨3, .data⟩ (by simp) rfl 10 rfl
      have h5 : _ = _ := hd ⟨5, .data⟩ (by simp) rfl 12 rfl
      exact .inl ⟨rfl, .inl ⟨_, u, run_bin_op rfl h3 h5 (by go_simp), rfl, hR, Below.refl _ _⟩⟩
    have t0 : (E.po == P.p) = true := HX.out.1
    have h3 : _ = _ := hd ⟨3, .data⟩ (by simp) rfl 10 rfl
    have h5 : _ = _ := hd ⟨5, .data⟩ (by simp) rfl 12 rfl
    exact .inl ⟨rfl, .inl ⟨_, u, run_bin_op rfl h3 h5 (by go_simp), rfl, hR, Below.refl _ _⟩⟩
  · have h6 : _ = _ := hd ⟨6, .data⟩ (by simp) rfl 13 rfl
    exact .inl ⟨rfl, .inl ⟨_, u, rfl, h6, hR, Below.refl _ _⟩⟩
  · cases x0
    · exact .inr ⟨nog (x := .bool false) rfl rfl (hd ⟨7, .guard⟩ (by simp) rfl 14 rfl) rfl, rfl⟩
    have g7 : ρ (.tmp 14) = .bool true := hd ⟨7, .guard⟩ (by simp) rfl 14 rfl
    have s0 : ρ (.tmp 0) = .pointer (some ⟨g, 0, none⟩) := (hρ 0 (by kernel_rfl)).trans rfl
    exact .inl ⟨(by show (match ρ (.tmp 14) with | .bool b => b == true | _ => false) = true; rw [g7]; rfl), .inl ⟨_, u, rfl, s0, hR, Below.refl _ _⟩⟩
  · cases x0
    · exact .inr ⟨nog (x := .bool false) rfl rfl (hd ⟨7, .guard⟩ (by simp) rfl 14 rfl) rfl, rfl⟩
    have g7 : ρ (.tmp 14) = .bool true := hd ⟨7, .guard⟩ (by simp) rfl 14 rfl
    have h8 : _ = _ := hd ⟨8, .data⟩ (by simp) rfl 15 rfl
    exact .inl ⟨(by show (match ρ (.tmp 14) with | .bool b => b == true | _ => false) = true; rw [g7]; rfl), .inl ⟨_, u, run_nilz rfl h8, rfl, hR, Below.refl _ _⟩⟩
  · cases x0
    · exact .inr ⟨nog (x := .bool false) rfl rfl (hd ⟨7, .guard⟩ (by simp) rfl 14 rfl) rfl, rfl⟩
    have g7 : ρ (.tmp 14) = .bool true := hd ⟨7, .guard⟩ (by simp) rfl 14 rfl
    have h9 : _ = _ := hd ⟨9, .data⟩ (by simp) rfl 16 rfl
    exact .inl ⟨(by show (match ρ (.tmp 14) with | .bool b => b == true | _ => false) = true; rw [g7]; rfl), .inl ⟨_, u, run_field_op rfl h9 (by go_simp), rfl, hR, Below.refl _ _⟩⟩
  · cases x0
    · exact .inr ⟨nog (x := .bool false) rfl rfl (hd ⟨7, .guard⟩ (by simp) rfl 14 rfl) rfl, rfl⟩
    have g7 : ρ (.tmp 14) = .bool true := hd ⟨7, .guard⟩ (by simp) rfl 14 rfl
    have h10 : _ = _ := hd ⟨10, .data⟩ (by simp) rfl 17 rfl
    have y9 : u.cell? ⟨g, 2, none⟩ = some (.int .i64 E.un) := (HE.out.1.below hR).rng 2 _ rfl
    have hr : (Instr.loadAt 3 (.pointer (some ⟨g, 2, none⟩))).run Tryz.prog u = .ok (.int .i64 E.un) u := by go_simp
    exact .inl ⟨(by show (match ρ (.tmp 14) with | .bool b => b == true | _ => false) = true; rw [g7]; rfl), .inl ⟨_, u, run_load_op rfl h10 hr, rfl, hR, Below.refl _ _⟩⟩
  · cases x0
    · exact .inr ⟨nog (x := .bool false) rfl rfl (hd ⟨7, .guard⟩ (by simp) rfl 14 rfl) rfl, rfl⟩
    have g7 : ρ (.tmp 14) = .bool true := hd ⟨7, .guard⟩ (by simp) rfl 14 rfl
    have s4 : ρ (.tmp 4) = .pointer (some ⟨G1, 0, none⟩) := (hρ 4 (by kernel_rfl)).trans rfl
    exact .inl ⟨(by show (match ρ (.tmp 14) with | .bool b => b == true | _ => false) = true; rw [g7]; rfl), .inl ⟨_, u, run_field_op rfl s4 (by go_simp), rfl, hR, Below.refl _ _⟩⟩
  · cases x0
    · exact .inr ⟨nog (x := .bool false) rfl rfl (hd ⟨7, .guard⟩ (by simp) rfl 14 rfl) rfl, rfl⟩
    have g7 : ρ (.tmp 14) = .bool true := hd ⟨7, .guard⟩ (by simp) rfl 14 rfl
    have h12 : _ = _ := hd ⟨12, .data⟩ (by simp) rfl 19 rfl
    have y9 : u.cell? ⟨G1, 1, none⟩ = some (.int .i64 P.t) := (HE.out.2.1.below hR).rng 1 _ rfl
    have hr : (Instr.loadAt 3 (.pointer (some ⟨G1, 1, none⟩))).run Tryz.prog u = .ok (.int .i64 P.t) u := by go_simp
    exact .inl ⟨(by show (match ρ (.tmp 14) with | .bool b => b == true | _ => false) = true; rw [g7]; rfl), .inl ⟨_, u, run_load_op rfl h12 hr, rfl, hR, Below.refl _ _⟩⟩
  · cases x0
    · exact .inr ⟨nog (x := .bool false) rfl rfl (hd ⟨7, .guard⟩ (by simp) rfl 14 rfl) rfl, rfl⟩
    cases x1
    · have t1 : (E.un == P.t) = false := HX.out.2.1
      have g7 : ρ (.tmp 14) = .bool true := hd ⟨7, .guard⟩ (by simp) rfl 14 rfl
      have h11 : _ = _ := hd ⟨11, .data⟩ (by simp) rfl 18 rfl
      have h13 : _ = _ := hd ⟨13, .data⟩ (by simp) rfl 20 rfl
      exact .inl ⟨(by show (match ρ (.tmp 14) with | .bool b => b == true | _ => false) = true; rw [g7]; rfl), .inl ⟨_, u, run_bin_op rfl h11 h13 (by go_simp), rfl, hR, Below.refl _ _⟩⟩
    have t1 : (E.un == P.t) = true := HX.out.2.1
    have g7 : ρ (.tmp 14) = .bool true := hd ⟨7, .guard⟩ (by simp) rfl 14 rfl
    have h11 : _ = _ := hd ⟨11, .data⟩ (by simp) rfl 18 rfl
    have h13 : _ = _ := hd ⟨13, .data⟩ (by simp) rfl 20 rfl
    exact .inl ⟨(by show (match ρ (.tmp 14) with | .bool b => b == true | _ => false) = true; rw [g7]; rfl), .inl ⟨_, u, run_bin_op rfl h11 h13 (by go_simp), rfl, hR, Below.refl _ _⟩⟩
  · cases x0
    · have h7 : _ = _ := hd ⟨7, .data⟩ (by simp) rfl 14 rfl
      exact .inl ⟨rfl, .inl ⟨_, u, run_pick_op rfl h7, (by simpa using hc _), hR, Below.refl _ _⟩⟩
    have h7 : _ = _ := hd ⟨7, .data⟩ (by simp) rfl 14 rfl
    have h14 : _ = _ := hd ⟨14, .data⟩ (by simp) rfl 21 rfl
    exact .inl ⟨rfl, .inl ⟨_, u, run_pick_op rfl h7, (by simpa using h14), hR, Below.refl _ _⟩⟩
  · have h15 : _ = _ := hd ⟨15, .data⟩ (by simp) rfl 22 rfl
    exact .inl ⟨rfl, .inl ⟨_, u, rfl, h15, hR, Below.refl _ _⟩⟩
  · cases x0
    · exact .inr ⟨nog (x := .bool false) rfl rfl (hd ⟨16, .guard⟩ (by simp) rfl 23 rfl) rfl, rfl⟩
    cases x1
    · exact .inr ⟨nog (x := .bool false) rfl rfl (hd ⟨16, .guard⟩ (by simp) rfl 23 rfl) rfl, rfl⟩
    have g16 : ρ (.tmp 23) = .bool true := hd ⟨16, .guard⟩ (by simp) rfl 23 rfl
    have s0 : ρ (.tmp 0) = .pointer (some ⟨g, 0, none⟩) := (hρ 0 (by kernel_rfl)).trans rfl
    exact .inl ⟨(by show (match ρ (.tmp 23) with | .bool b => b == true | _ => false) = true; rw [g16]; rfl), .inl ⟨_, u, rfl, s0, hR, Below.refl _ _⟩⟩
  · cases x0
    · exact .inr ⟨nog (x := .bool false) rfl rfl (hd ⟨16, .guard⟩ (by simp) rfl 23 rfl) rfl, rfl⟩
    cases x1
    · exact .inr ⟨nog (x := .bool false) rfl rfl (hd ⟨16, .guard⟩ (by simp) rfl 23 rfl) rfl, rfl⟩
    have g16 : ρ (.tmp 23) = .bool true := hd ⟨16, .guard⟩ (by simp) rfl 23 rfl
    have h17 : _ = _ := hd ⟨17, .data⟩ (by simp) rfl 24 rfl
    exact .inl ⟨(by show (match ρ (.tmp 23) with | .bool b => b == true | _ => false) = true; rw [g16]; rfl), .inl ⟨_, u, run_nilz rfl h17, rfl, hR, Below.refl _ _⟩⟩
  · cases x0
    · exact .inr ⟨nog (x := .bool false) rfl rfl (hd ⟨16, .guard⟩ (by simp) rfl 23 rfl) rfl, rfl⟩
    cases x1
    · exact .inr ⟨nog (x := .bool false) rfl rfl (hd ⟨16, .guard⟩ (by simp) rfl 23 rfl) rfl, rfl⟩
    have g16 : ρ (.tmp 23) = .bool true := hd ⟨16, .guard⟩ (by simp) rfl 23 rfl
    have h18 : _ = _ := hd ⟨18, .data⟩ (by simp) rfl 25 rfl
    exact .inl ⟨(by show (match ρ (.tmp 23) with | .bool b => b == true | _ => false) = true; rw [g16]; rfl), .inl ⟨_, u, run_field_op rfl h18 (by go_simp), rfl, hR, Below.refl _ _⟩⟩
  · cases x0
    · exact .inr ⟨nog (x := .bool false) rfl rfl (hd ⟨16, .guard⟩ (by simp) rfl 23 rfl) rfl, rfl⟩
    cases x1
    · exact .inr ⟨nog (x := .bool false) rfl rfl (hd ⟨16, .guard⟩ (by simp) rfl 23 rfl) rfl, rfl⟩
    have g16 : ρ (.tmp 23) = .bool true := hd ⟨16, .guard⟩ (by simp) rfl 23 rfl
    have h19 : _ = _ := hd ⟨19, .data⟩ (by simp) rfl 26 rfl
    have hr : (Instr.loadAt 83 (.pointer (some ⟨g, 3, none⟩))).run Tryz.prog u = .ok (.agg ([.int .i64 E.q.kd, .int .i64 E.q.pl, .int .i64 E.q.n, .slice e1 E.q.ws.length k1, .slice e2 E.q.bs.length k2, .int .i64 E.q.wa]).toArray) u := run_loadAt_mid u g (3) 83 ([.int .i64 E.q.kd, .int .i64 E.q.pl, .int .i64 E.q.n, .slice e1 E.q.ws.length k1, .slice e2 E.q.bs.length k2, .int .i64 E.q.wa]) _ (rangeAt_mid [.int .i64 E.po, .int .i64 E.nu, .int .i64 E.un] [.int .i64 E.q.kd, .int .i64 E.q.pl, .int .i64 E.q.n, .slice e1 E.q.ws.length k1, .slice e2 E.q.bs.length k2, .int .i64 E.q.wa] [.int .i64 E.a.kd, .int .i64 E.a.fl, .int .i64 E.a.pl, .int .i64 E.a.n, .slice e3 E.a.ws.length k3, .slice e4 E.a.bs.length k4] (HE.out.1.below hR).rng rfl) Tryz.underlying83 rfl (by kernel_rfl)
    exact .inl ⟨(by show (match ρ (.tmp 23) with | .bool b => b == true | _ => false) = true; rw [g16]; rfl), .inl ⟨_, u, run_load_op rfl h19 hr, rfl, hR, Below.refl _ _⟩⟩
  · cases x0
    · exact .inr ⟨nog (x := .bool false) rfl rfl (hd ⟨16, .guard⟩ (by simp) rfl 23 rfl) rfl, rfl⟩
    cases x1
    · exact .inr ⟨nog (x := .bool false) rfl rfl (hd ⟨16, .guard⟩ (by simp) rfl 23 rfl) rfl, rfl⟩
    have g16 : ρ (.tmp 23) = .bool true := hd ⟨16, .guard⟩ (by simp) rfl 23 rfl
    have s4 : ρ (.tmp 4) = .pointer (some ⟨G1, 0, none⟩) := (hρ 4 (by kernel_rfl)).trans rfl
    exact .inl ⟨(by show (match ρ (.tmp 23) with | .bool b => b == true | _ => false) = true; rw [g16]; rfl), .inl ⟨_, u, run_field_op rfl s4 (by go_simp), rfl, hR, Below.refl _ _⟩⟩
  · cases x0
    · exact .inr ⟨nog (x := .bool false) rfl rfl (hd ⟨16, .guard⟩ (by simp) rfl 23 rfl) rfl, rfl⟩
    cases x1
    · exact .inr ⟨nog (x := .bool false) rfl rfl (hd ⟨16, .guard⟩ (by simp) rfl 23 rfl) rfl, rfl⟩
    have g16 : ρ (.tmp 23) = .bool true := hd ⟨16, .guard⟩ (by simp) rfl 23 rfl
    have h21 : _ = _ := hd ⟨21, .data⟩ (by simp) rfl 28 rfl
    have hr : (Instr.loadAt 83 (.pointer (some ⟨G1, 2, none⟩))).run Tryz.prog u = .ok (.agg ([.int .i64 P.q.kd, .int .i64 P.q.pl, .int .i64 P.q.n, .slice b1 P.q.ws.length d1, .slice b2 P.q.bs.length d2, .int .i64 P.q.wa]).toArray) u := run_loadAt_mid u G1 (2) 83 ([.int .i64 P.q.kd, .int .i64 P.q.pl, .int .i64 P.q.n, .slice b1 P.q.ws.length d1, .slice b2 P.q.bs.length d2, .int .i64 P.q.wa]) _ (rangeAt_mid [.int .i64 P.p, .int .i64 P.t] [.int .i64 P.q.kd, .int .i64 P.q.pl, .int .i64 P.q.n, .slice b1 P.q.ws.length d1, .slice b2 P.q.bs.length d2, .int .i64 P.q.wa] [] (HE.out.2.1.below hR).rng rfl) Tryz.underlying83 rfl (by kernel_rfl)
    exact .inl ⟨(by show (match ρ (.tmp 23) with | .bool b => b == true | _ => false) = true; rw [g16]; rfl), .inl ⟨_, u, run_load_op rfl h21 hr, rfl, hR, Below.refl _ _⟩⟩
  · cases x0
    · exact .inr ⟨nog (x := .bool false) rfl rfl (hd ⟨16, .guard⟩ (by simp) rfl 23 rfl) rfl, rfl⟩
    cases x1
    · exact .inr ⟨nog (x := .bool false) rfl rfl (hd ⟨16, .guard⟩ (by simp) rfl 23 rfl) rfl, rfl⟩
    have g16 : ρ (.tmp 23) = .bool true := hd ⟨16, .guard⟩ (by simp) rfl 23 rfl
    have h20 : _ = _ := hd ⟨20, .data⟩ (by simp) rfl 27 rfl
    have h22 : _ = _ := hd ⟨22, .data⟩ (by simp) rfl 29 rfl
    refine .inl ⟨(by show (match ρ (.tmp 23) with | .bool b => b == true | _ => false) = true; rw [g16]; rfl), .inr ⟨_, _, run_call_op rfl (hf _) (args := #[.agg ([.int .i64 E.q.kd, .int .i64 E.q.pl, .int .i64 E.q.n, .slice e1 E.q.ws.length k1, .slice e2 E.q.bs.length k2, .int .i64 E.q.wa]).toArray, .agg ([.int .i64 P.q.kd, .int .i64 P.q.pl, .int .i64 P.q.n, .slice b1 P.q.ws.length d1, .slice b2 P.q.bs.length d2, .int .i64 P.q.wa]).toArray]) (by simp [h20, h22]) (by kernel_rfl), ?_⟩⟩
    refine (sameReqE_any E.q P.q e1 k1 e2 k2 b1 d1 b2 d2 _ (HE.out.2.2.2.2.1.below hR) (HE.out.2.2.2.2.2.1.below hR) (HE.out.2.2.2.2.2.2.2.2.1.below hR) (HE.out.2.2.2.2.2.2.2.2.2.1.below hR) HB.out.1.1.1 HB.out.1.1.2 HB.out.2.1.1 HB.out.2.1.2).mono ?_
    rintro e u' ⟨he, b'⟩
    exact ⟨_, he.trans (by rw [HX.out.2.2.1] <;> rfl), rfl, bel_nx hR b', b'⟩
  · cases x0
    · have h16 : _ = _ := hd ⟨16, .data⟩ (by simp) rfl 23 rfl
      exact .inl ⟨rfl, .inl ⟨_, u, run_pick_op rfl h16, (by simpa using hc _), hR, Below.refl _ _⟩⟩
    cases x1
    · have h16 : _ = _ := hd ⟨16, .data⟩ (by simp) rfl 23 rfl
      exact .inl ⟨rfl, .inl ⟨_, u, run_pick_op rfl h16, (by simpa using hc _), hR, Below.refl _ _⟩⟩
    have h16 : _ = _ := hd ⟨16, .data⟩ (by simp) rfl 23 rfl
    have h23 : _ = _ := hd ⟨23, .data⟩ (by simp) rfl 30 rfl
    exact .inl ⟨rfl, .inl ⟨_, u, run_pick_op rfl h16, (by simpa using h23), hR, Below.refl _ _⟩⟩
  · have h24 : _ = _ := hd ⟨24, .data⟩ (by simp) rfl 31 rfl
    exact .inl ⟨rfl, .inl ⟨_, u, rfl, h24, hR, Below.refl _ _⟩⟩
  · cases x0
    · exact .inr ⟨nog (x := .bool false) rfl rfl (hd ⟨25, .guard⟩ (by simp) rfl 32 rfl) rfl, rfl⟩
    cases x1
    · exact .inr ⟨nog (x := .bool false) rfl rfl (hd ⟨25, .guard⟩ (by simp) rfl 32 rfl) rfl, rfl⟩
    cases x2
    · exact .inr ⟨nog (x := .bool false) rfl rfl (hd ⟨25, .guard⟩ (by simp) rfl 32 rfl) rfl, rfl⟩
    have g25 : ρ (.tmp 32) = .bool true := hd ⟨25, .guard⟩ (by simp) rfl 32 rfl
    have s0 : ρ (.tmp 0) = .pointer (some ⟨g, 0, none⟩) := (hρ 0 (by kernel_rfl)).trans rfl
    exact .inl ⟨(by show (match ρ (.tmp 32) with | .bool b => b == true | _ => false) = true; rw [g25]; rfl), .inl ⟨_, u, rfl, s0, hR, Below.refl _ _⟩⟩
  · cases x0
    · exact .inr ⟨nog (x := .bool false) rfl rfl (hd ⟨25, .guard⟩ (by simp) rfl 32 rfl) rfl, rfl⟩
    cases x1
    · exact .inr ⟨nog (x := .bool false) rfl rfl (hd ⟨25, .guard⟩ (by simp) rfl 32 rfl) rfl, rfl⟩
    cases x2
    · exact .inr ⟨nog (x := .bool false) rfl rfl (hd ⟨25, .guard⟩ (by simp) rfl 32 rfl) rfl, rfl⟩
    have g25 : ρ (.tmp 32) = .bool true := hd ⟨25, .guard⟩ (by simp) rfl 32 rfl
    have h26 : _ = _ := hd ⟨26, .data⟩ (by simp) rfl 33 rfl
    exact .inl ⟨(by show (match ρ (.tmp 32) with | .bool b => b == true | _ => false) = true; rw [g25]; rfl), .inl ⟨_, u, run_nilz rfl h26, rfl, hR, Below.refl _ _⟩⟩
  · cases x0
    · exact .inr ⟨nog (x := .bool false) rfl rfl (hd ⟨25, .guard⟩ (by simp) rfl 32 rfl) rfl, rfl⟩
    cases x1
    · exact .inr ⟨nog (x := .bool false) rfl rfl (hd ⟨25, .guard⟩ (by simp) rfl 32 rfl) rfl, rfl⟩
    cases x2
    · exact .inr ⟨nog (x := .bool false) rfl rfl (hd ⟨25, .guard⟩ (by simp) rfl 32 rfl) rfl, rfl⟩
    have g25 : ρ (.tmp 32) = .bool true := hd ⟨25, .guard⟩ (by simp) rfl 32 rfl
    have h27 : _ = _ := hd ⟨27, .data⟩ (by simp) rfl 34 rfl
    exact .inl ⟨(by show (match ρ (.tmp 32) with | .bool b => b == true | _ => false) = true; rw [g25]; rfl), .inl ⟨_, u, run_field_op rfl h27 (by go_simp), rfl, hR, Below.refl _ _⟩⟩
  · cases x0
    · exact .inr ⟨nog (x := .bool false) rfl rfl (hd ⟨25, .guard⟩ (by simp) rfl 32 rfl) rfl, rfl⟩
    cases x1
    · exact .inr ⟨nog (x := .bool false) rfl rfl (hd ⟨25, .guard⟩ (by simp) rfl 32 rfl) rfl, rfl⟩
    cases x2
    · exact .inr ⟨nog (x := .bool false) rfl rfl (hd ⟨25, .guard⟩ (by simp) rfl 32 rfl) rfl, rfl⟩
    have g25 : ρ (.tmp 32) = .bool true := hd ⟨25, .guard⟩ (by simp) rfl 32 rfl
    have h28 : _ = _ := hd ⟨28, .data⟩ (by simp) rfl 35 rfl
    have hr : (Instr.loadAt 117 (.pointer (some ⟨g, 9, none⟩))).run Tryz.prog u = .ok (.agg ([.int .i64 E.a.kd, .int .i64 E.a.fl, .int .i64 E.a.pl, .int .i64 E.a.n, .slice e3 E.a.ws.length k3, .slice e4 E.a.bs.length k4]).toArray) u := run_loadAt_mid u g (9) 117 ([.int .i64 E.a.kd, .int .i64 E.a.fl, .int .i64 E.a.pl, .int .i64 E.a.n, .slice e3 E.a.ws.length k3, .slice e4 E.a.bs.length k4]) _ (rangeAt_mid [.int .i64 E.po, .int .i64 E.nu, .int .i64 E.un, .int .i64 E.q.kd, .int .i64 E.q.pl, .int .i64 E.q.n, .slice e1 E.q.ws.length k1, .slice e2 E.q.bs.length k2, .int .i64 E.q.wa] [.int .i64 E.a.kd, .int .i64 E.a.fl, .int .i64 E.a.pl, .int .i64 E.a.n, .slice e3 E.a.ws.length k3, .slice e4 E.a.bs.length k4] [] (HE.out.1.below hR).rng rfl) Tryz.underlying117 rfl (by kernel_rfl)
    exact .inl ⟨(by show (match ρ (.tmp 32) with | .bool b => b == true | _ => false) = true; rw [g25]; rfl), .inl ⟨_, u, run_load_op rfl h28 hr, rfl, hR, Below.refl _ _⟩⟩
  · cases x0
    · exact .inr ⟨nog (x := .bool false) rfl rfl (hd ⟨25, .guard⟩ (by simp) rfl 32 rfl) rfl, rfl⟩
    cases x1
    · exact .inr ⟨nog (x := .bool false) rfl rfl (hd ⟨25, .guard⟩ (by simp) rfl 32 rfl) rfl, rfl⟩
    cases x2
    · exact .inr ⟨nog (x := .bool false) rfl rfl (hd ⟨25, .guard⟩ (by simp) rfl 32 rfl) rfl, rfl⟩
    have g25 : ρ (.tmp 32) = .bool true := hd ⟨25, .guard⟩ (by simp) rfl 32 rfl
    have s5 : ρ (.tmp 5) = .pointer (some ⟨G2, 0, none⟩) := (hρ 5 (by kernel_rfl)).trans rfl
    have hr : (Instr.loadAt 117 (.pointer (some ⟨G2, 0, none⟩))).run Tryz.prog u = .ok (.agg (aL A s1 A.ws.length t1 s2 A.bs.length t2).toArray) u := run_loadAt_mid u G2 (0) 117 (aL A s1 A.ws.length t1 s2 A.bs.length t2) _ (HE.out.2.2.1.below hR).rng Tryz.underlying117 rfl (by kernel_rfl)
    exact .inl ⟨(by show (match ρ (.tmp 32) with | .bool b => b == true | _ => false) = true; rw [g25]; rfl), .inl ⟨_, u, run_load_op rfl s5 hr, rfl, hR, Below.refl _ _⟩⟩
  · cases x0
    · exact .inr ⟨nog (x := .bool false) rfl rfl (hd ⟨25, .guard⟩ (by simp) rfl 32 rfl) rfl, rfl⟩
    cases x1
    · exact .inr ⟨nog (x := .bool false) rfl rfl (hd ⟨25, .guard⟩ (by simp) rfl 32 rfl) rfl, rfl⟩
    cases x2
    · exact .inr ⟨nog (x := .bool false) rfl rfl (hd ⟨25, .guard⟩ (by simp) rfl 32 rfl) rfl, rfl⟩
    have g25 : ρ (.tmp 32) = .bool true := hd ⟨25, .guard⟩ (by simp) rfl 32 rfl
    have h29 : _ = _ := hd ⟨29, .data⟩ (by simp) rfl 36 rfl
    have h30 : _ = _ := hd ⟨30, .data⟩ (by simp) rfl 37 rfl
    refine .inl ⟨(by show (match ρ (.tmp 32) with | .bool b => b == true | _ => false) = true; rw [g25]; rfl), .inr ⟨_, _, run_call_op rfl (hf _) (args := #[.agg ([.int .i64 E.a.kd, .int .i64 E.a.fl, .int .i64 E.a.pl, .int .i64 E.a.n, .slice e3 E.a.ws.length k3, .slice e4 E.a.bs.length k4]).toArray, .agg (aL A s1 A.ws.length t1 s2 A.bs.length t2).toArray]) (by simp [h29, h30]) (by kernel_rfl), ?_⟩⟩
    refine (sameRespQ_any E.a A e3 k3 e4 k4 s1 t1 s2 t2 _ (HE.out.2.2.2.2.2.2.1.below hR) (HE.out.2.2.2.2.2.2.2.1.below hR) (HE.out.2.2.2.2.2.2.2.2.2.2.1.below hR) (HE.out.2.2.2.2.2.2.2.2.2.2.2.below hR) HB.out.1.2.1 HB.out.1.2.2 HB.out.2.2.1 HB.out.2.2.2).mono ?_
    rintro e u' ⟨he, b'⟩
    exact ⟨_, he.trans (by rw [HX.out.2.2.2] <;> rfl), rfl, bel_nx hR b', b'⟩
  · cases x0
    · have h25 : _ = _ := hd ⟨25, .data⟩ (by simp) rfl 32 rfl
      exact .inl ⟨rfl, .inl ⟨_, u, run_pick_op rfl h25, (by simpa using hc _), hR, Below.refl _ _⟩⟩
    cases x1
    · have h25 : _ = _ := hd ⟨25, .data⟩ (by simp) rfl 32 rfl
      exact .inl ⟨rfl, .inl ⟨_, u, run_pick_op rfl h25, (by simpa using hc _), hR, Below.refl _ _⟩⟩
    cases x2
    · have h25 : _ = _ := hd ⟨25, .data⟩ (by simp) rfl 32 rfl
      exact .inl ⟨rfl, .inl ⟨_, u, run_pick_op rfl h25, (by simpa using hc _), hR, Below.refl _ _⟩⟩
    have h25 : _ = _ := hd ⟨25, .data⟩ (by simp) rfl 32 rfl
    have h31 : _ = _ := hd ⟨31, .data⟩ (by simp) rfl 38 rfl
    exact .inl ⟨rfl, .inl ⟨_, u, run_pick_op rfl h25, (by simpa using h31), hR, Below.refl _ _⟩⟩
  · have h32 : _ = _ := hd ⟨32, .data⟩ (by simp) rfl 39 rfl
    exact .inl ⟨rfl, .inl ⟨_, u, rfl, h32, hR, Below.refl _ _⟩⟩
set_option maxRecDepth 20000 in
set_option maxHeartbeats 4000000 in
theorem ofE_any (E : VE) (P : VP) (A : VA) (GP GA : Nat) (e1 : Option Addr) (k1 : Nat) (e2 : Option Addr) (k2 : Nat) (e3 : Option Addr) (k3 : Nat) (e4 : Option Addr) (k4 : Nat) (b1 : Option Addr) (d1 : Nat) (b2 : Option Addr) (d2 : Nat) (s1 : Option Addr) (t1 : Nat) (s2 : Option Addr) (t2 : Nat) (w : World) (hP : Blk w GP 134 (pL P b1 P.q.ws.length d1 b2 P.q.bs.length d2).toArray) (hA : Blk w GA 117 (aL A s1 A.ws.length t1 s2 A.bs.length t2).toArray) (h : Rd w 0 (intsT E.q.ws) (.slice e1 E.q.ws.length k1) ∧ Rd w 0 (boolsT E.q.bs) (.slice e2 E.q.bs.length k2) ∧ Rd w 0 (intsT E.a.ws) (.slice e3 E.a.ws.length k3) ∧ Rd w 0 (boolsT E.a.bs) (.slice e4 E.a.bs.length k4) ∧ Rd w 0 (intsT P.q.ws) (.slice b1 P.q.ws.length d1) ∧ Rd w 0 (boolsT P.q.bs) (.slice b2 P.q.bs.length d2) ∧ Rd w 0 (intsT A.ws) (.slice s1 A.ws.length t1) ∧ Rd w 0 (boolsT A.bs) (.slice s2 A.bs.length t2)) (hb : (BdQ E.q ∧ BdA E.a) ∧ BdQ P.q ∧ BdA A) (x : Bool) (hx : isE E P A = x) :
    Calls Tryz.prog 203 #[.agg (xeL E e1 E.q.ws.length k1 e2 E.q.bs.length k2 e3 E.a.ws.length k3 e4 E.a.bs.length k4).toArray, .pointer (some ⟨GP, 0, none⟩), .pointer (some ⟨GA, 0, none⟩)] w fun e w' => e = .returned (.bool x) ∧ Below w.heap.size w w' := by
  obtain ⟨W, hW⟩ : ∃ W, W = w.alloc (.cells (xeL E e1 E.q.ws.length k1 e2 E.q.bs.length k2 e3 E.a.ws.length k3 e4 E.a.bs.length k4).toArray 194) := ⟨_, rfl⟩
  obtain ⟨G, hG⟩ : ∃ G, G = w.heap.size := ⟨_, rfl⟩
  have bW : Below w.heap.size w W := by rw [hW]; exact bel_alloc _ _
  have HE : Hid (Blk W G 194 (xeL E e1 E.q.ws.length k1 e2 E.q.bs.length k2 e3 E.a.ws.length k3 e4 E.a.bs.length k4).toArray ∧ (Rd W 0 (intsT E.q.ws) (.slice e1 E.q.ws.length k1) ∧ Rd W 0 (boolsT E.q.bs) (.slice e2 E.q.bs.length k2) ∧ Rd W 0 (intsT E.a.ws) (.slice e3 E.a.ws.length k3) ∧ Rd W 0 (boolsT E.a.bs) (.slice e4 E.a.bs.length k4) ∧ Rd W 0 (intsT P.q.ws) (.slice b1 P.q.ws.length d1) ∧ Rd W 0 (boolsT P.q.bs) (.slice b2 P.q.bs.length d2) ∧ Rd W 0 (intsT A.ws) (.slice s1 A.ws.length t1) ∧ Rd W 0 (boolsT A.bs) (.slice s2 A.bs.length t2)) ∧ ((BdQ E.q ∧ BdA E.a) ∧ BdQ P.q ∧ BdA A) ∧ isE E P A = x ∧ Below w.heap.size w W) := by
    obtain ⟨q1, q2, q3, q4, q5, q6, q7, q8⟩ := h
    exact ⟨by rw [hW, hG]; exact Blk.new _ _ _, ⟨q1.below bW, q2.below bW, q3.below bW, q4.below bW, q5.below bW, q6.below bW, q7.below bW, q8.below bW⟩, hb, hx, bW⟩
  have y0 : W.cell? ⟨GP, 0, none⟩ = some (.int .i64 P.p) := (hP.below bW).cell 0 rfl
  have y1 : W.cell? ⟨GP, 1, none⟩ = some (.int .i64 P.t) := (hP.below bW).cell 1 rfl
  have y2 : W.cell? ⟨GP, 2, none⟩ = some (.int .i64 P.q.kd) := (hP.below bW).cell 2 rfl
  have y3 : W.cell? ⟨GP, 3, none⟩ = some (.int .i64 P.q.pl) := (hP.below bW).cell 3 rfl
  have y4 : W.cell? ⟨GP, 4, none⟩ = some (.int .i64 P.q.n) := (hP.below bW).cell 4 rfl
  have y5 : W.cell? ⟨GP, 5, none⟩ = some (.slice b1 P.q.ws.length d1) := (hP.below bW).cell 5 rfl
  have y6 : W.cell? ⟨GP, 6, none⟩ = some (.slice b2 P.q.bs.length d2) := (hP.below bW).cell 6 rfl
  have y7 : W.cell? ⟨GP, 7, none⟩ = some (.int .i64 P.q.wa) := (hP.below bW).cell 7 rfl
  have z0 : W.cell? ⟨GA, 0, none⟩ = some (.int .i64 A.kd) := (hA.below bW).cell 0 rfl
  have z1 : W.cell? ⟨GA, 1, none⟩ = some (.int .i64 A.fl) := (hA.below bW).cell 1 rfl
  have z2 : W.cell? ⟨GA, 2, none⟩ = some (.int .i64 A.pl) := (hA.below bW).cell 2 rfl
  have z3 : W.cell? ⟨GA, 3, none⟩ = some (.int .i64 A.n) := (hA.below bW).cell 3 rfl
  have z4 : W.cell? ⟨GA, 4, none⟩ = some (.slice s1 A.ws.length t1) := (hA.below bW).cell 4 rfl
  have z5 : W.cell? ⟨GA, 5, none⟩ = some (.slice s2 A.bs.length t2) := (hA.below bW).cell 5 rfl
  clear bW hP hA h hb hx
  go_enter Tryz.func203, Tryz.ntmps203
  go_upto_region 1 with fail
  rw [← hW, ← hG]
  clear hW hG
  go_wp2_with fail
  refine (isOfE_any E P A G e1 k1 e2 k2 e3 k3 e4 k4 b1 d1 b2 d2 s1 t1 s2 t2 _ HE.out.1 HE.out.2.1 HE.out.2.2.1).mono ?_
  rintro e w1 ⟨rfl, b1⟩
  rw [HE.out.2.2.2.1]
  have B1 := bel_nx HE.out.2.2.2.2 b1
  clear b1 y0 y1 y2 y3 y4 y5 y6 y7 z0 z1 z2 z3 z4 z5
  go_wp2
  go_ret
  exact ⟨rfl, B1⟩
def IxE (n : Nat) (f : Nat → VE) (P : VP) (A : VA) (r : Int) : Prop := (r = -1 ∧ allN (fun i => !isE (f i) P A) n = true) ∨ (0 ≤ r ∧ allN (fun i => !isE (f i) P A) n = false)
def SvH (w : World) (n : Nat) (f : Nat → VE) (a : Option Addr) (c : Nat) (P : VP) (A : VA) (GP GA : Nat) (b1 : Option Addr) (d1 : Nat) (b2 : Option Addr) (d2 : Nat) (s1 : Option Addr) (t1 : Nat) (s2 : Option Addr) (t2 : Nat) : Prop :=
  Rd w 0 (.list 15 n (fun i => trs (xeT (f i)))) (.slice a n c) ∧ Blk w GP 134 (pL P b1 P.q.ws.length d1 b2 P.q.bs.length d2).toArray ∧ Blk w GA 117 (aL A s1 A.ws.length t1 s2 A.bs.length t2).toArray ∧ (Rd w 0 (intsT P.q.ws) (.slice b1 P.q.ws.length d1) ∧ Rd w 0 (boolsT P.q.bs) (.slice b2 P.q.bs.length d2) ∧ Rd w 0 (intsT A.ws) (.slice s1 A.ws.length t1) ∧ Rd w 0 (boolsT A.bs) (.slice s2 A.bs.length t2)) ∧ n ≤ 2000000 ∧ (∀ i, i < n → BdE (f i)) ∧ BdQ P.q ∧ BdA A
set_option maxRecDepth 20000 in
set_option maxHeartbeats 4000000 in
theorem indexE_any (n : Nat) (f : Nat → VE) (a : Option Addr) (c : Nat) (P : VP) (A : VA) (GP GA : Nat) (b1 : Option Addr) (d1 : Nat) (b2 : Option Addr) (d2 : Nat) (s1 : Option Addr) (t1 : Nat) (s2 : Option Addr) (t2 : Nat) (w : World) (h : SvH w n f a c P A GP GA b1 d1 b2 d2 s1 t1 s2 t2) :
    Calls Tryz.prog 241 #[.slice a n c, .func (.func 203) #[] #[.pointer (some ⟨GP, 0, none⟩), .pointer (some ⟨GA, 0, none⟩)]] w fun e w' => ∃ r, e = .returned (.int .i64 r) ∧ IxE n f P A r ∧ Below w.heap.size w w' := by
  have HS : Hid (SvH w n f a c P A GP GA b1 d1 b2 d2 s1 t1 s2 t2) := h
  have hn := h.2.2.2.2.1
  clear h
  go_enter Tryz.func241, Tryz.ntmps241
  go_wp2
  go_loopw [8] (fun i wr => ∃ k : Nat, k ≤ n ∧ i = .int .i64 k ∧ allN (fun i => !isE (f i) P A) k = true ∧ Below w.heap.size w wr) (fun i _ => n - (intOf i).toNat)
  case atStart => exact ⟨0, Nat.zero_le _, rfl, rfl, Below.refl _ _⟩
  case round =>
    obtain ⟨k, hk, rfl, hall, hbl⟩ := hrel
    by_cases hlt : k < n
    · have hi : (k : Int) < (n : Int) := by omega
      obtain ⟨b, off, vs, rfl, _, hb0, hlen, hr, hrd⟩ := (HS.out.1.below hbl).at hlt
      obtain ⟨e1, k1, e2, k2, e3, k3, e4, k4, rfl, q1, q2, q3, q4⟩ := VE.cells hrd hlen
      clear hlen hrd hb0
      have dd0 : wr.cell? ⟨b, off + k * 15, none⟩ = _ := hr 0 _ rfl
      have dd1 : wr.cell? ⟨b, off + k * 15 + 1, none⟩ = _ := hr 1 _ rfl
      have dd2 : wr.cell? ⟨b, off + k * 15 + 2, none⟩ = _ := hr 2 _ rfl
      have dd3 : wr.cell? ⟨b, off + k * 15 + 3, none⟩ = _ := hr 3 _ rfl
      have dd4 : wr.cell? ⟨b, off + k * 15 + 4, none⟩ = _ := hr 4 _ rfl
      have dd5 : wr.cell? ⟨b, off + k * 15 + 5, none⟩ = _ := hr 5 _ rfl
      have dd6 : wr.cell? ⟨b, off + k * 15 + 6, none⟩ = _ := hr 6 _ rfl
      have dd7 : wr.cell? ⟨b, off + k * 15 + 7, none⟩ = _ := hr 7 _ rfl
      have dd8 : wr.cell? ⟨b, off + k * 15 + 8, none⟩ = _ := hr 8 _ rfl
      have dd9 : wr.cell? ⟨b, off + k * 15 + 9, none⟩ = _ := hr 9 _ rfl
      have dd10 : wr.cell? ⟨b, off + k * 15 + 10, none⟩ = _ := hr 10 _ rfl
      have dd11 : wr.cell? ⟨b, off + k * 15 + 11, none⟩ = _ := hr 11 _ rfl
      have dd12 : wr.cell? ⟨b, off + k * 15 + 12, none⟩ = _ := hr 12 _ rfl
      have dd13 : wr.cell? ⟨b, off + k * 15 + 13, none⟩ = _ := hr 13 _ rfl
      have dd14 : wr.cell? ⟨b, off + k * 15 + 14, none⟩ = _ := hr 14 _ rfl
      obtain ⟨x, hx⟩ : ∃ x, isE (f k) P A = x := ⟨_, rfl⟩
      have HK : Hid (isE (f k) P A = x ∧ allN (fun i => !isE (f i) P A) k = true ∧ Below w.heap.size w wr ∧ Rd wr 0 (intsT (f k).q.ws) (.slice e1 (f k).q.ws.length k1) ∧ Rd wr 0 (boolsT (f k).q.bs) (.slice e2 (f k).q.bs.length k2) ∧ Rd wr 0 (intsT (f k).a.ws) (.slice e3 (f k).a.ws.length k3) ∧ Rd wr 0 (boolsT (f k).a.bs) (.slice e4 (f k).a.bs.length k4)) := ⟨hx, hall, hbl, q1, q2, q3, q4⟩
      clear hx hall hbl hr q1 q2 q3 q4
      go_wp2_with fail
      refine (ofE_any (f k) P A GP GA e1 k1 e2 k2 e3 k3 e4 k4 b1 d1 b2 d2 s1 t1 s2 t2 _ (HS.out.2.1.below HK.out.2.2.1) (HS.out.2.2.1.below HK.out.2.2.1) ⟨HK.out.2.2.2.1, HK.out.2.2.2.2.1, HK.out.2.2.2.2.2.1, HK.out.2.2.2.2.2.2, HS.out.2.2.2.1.1.below HK.out.2.2.1, HS.out.2.2.2.1.2.1.below HK.out.2.2.1, HS.out.2.2.2.1.2.2.1.below HK.out.2.2.1, HS.out.2.2.2.1.2.2.2.below HK.out.2.2.1⟩ ⟨HS.out.2.2.2.2.2.1 k hlt, HS.out.2.2.2.2.2.2⟩ x HK.out.1).mono ?_
      rintro e w1 ⟨rfl, b9⟩
      have B1 := bel_nx HK.out.2.2.1 b9
      clear b9 dd0 dd1 dd2 dd3 dd4 dd5 dd6 dd7 dd8 dd9 dd10 dd11 dd12 dd13 dd14
      cases x with
      | false =>
        have HF : Hid (allN (fun i => !isE (f i) P A) (k + 1) = true) := allN_succ HK.out.2.1 (by rw [HK.out.1]; rfl)
        clear HK
        go_wp2
        go_roundw
        case rel => exact ⟨k + 1, by omega, by go_num, HF.out, B1⟩
        case measure => simp [intOf]; omega
      | true =>
        have HF : Hid (allN (fun i => !isE (f i) P A) n = false) := allN_no hlt (by rw [HK.out.1]; rfl)
        clear HK
        go_wp2
        go_ret
        exact ⟨_, rfl, .inr ⟨by omega, HF.out⟩, B1⟩
    · have hi : ¬ (k : Int) < (n : Int) := by omega
      have e9 : k = n := by omega
      subst e9
      have HF : Hid (allN (fun i => !isE (f i) P A) k = true) := hall
      clear hall
      go_wp2
      go_ret
      exact ⟨_, rfl, .inl ⟨rfl, HF.out⟩, hbl⟩
set_option maxRecDepth 20000 in
set_option maxHeartbeats 2000000 in
theorem containsE_any (n : Nat) (f : Nat → VE) (a : Option Addr) (c : Nat) (P : VP) (A : VA) (GP GA : Nat) (b1 : Option Addr) (d1 : Nat) (b2 : Option Addr) (d2 : Nat) (s1 : Option Addr) (t1 : Nat) (s2 : Option Addr) (t2 : Nat) (w : World) (h : SvH w n f a c P A GP GA b1 d1 b2 d2 s1 t1 s2 t2) (x : Bool) (hx : allN (fun i => !isE (f i) P A) n = x) :
    Calls Tryz.prog 202 #[.slice a n c, .func (.func 203) #[] #[.pointer (some ⟨GP, 0, none⟩), .pointer (some ⟨GA, 0, none⟩)]] w fun e w' => e = .returned (.bool (!x)) ∧ Below w.heap.size w w' := by
  have HX : Hid (allN (fun i => !isE (f i) P A) n = x) := hx
  clear hx
  go_enter Tryz.func202, Tryz.ntmps202
  go_wp2_with fail
  refine (indexE_any n f a c P A GP GA b1 d1 b2 d2 s1 t1 s2 t2 _ h).mono ?_
  rintro e w1 ⟨r, rfl, hr, b1⟩
  have HR : Hid (IxE n f P A r) := hr
  clear hr
  cases x with
  | true =>
    have h0 : ¬ (0 ≤ r) := by
      rcases HR.out with h | h
      · omega
      · have := HX.out; rw [h.2] at this; cases this
    have HD : Hid (decide (0 ≤ r) = false) := decide_eq_false h0
    go_wp2
    go_ret
    exact ⟨by show Ending.returned (.bool (decide (0 ≤ r))) = _; rw [HD.out]; rfl, b1⟩
  | false =>
    have h0 : 0 ≤ r := by
      rcases HR.out with h | h
      · have := HX.out; rw [h.2] at this; cases this
      · exact h.1
    have HD : Hid (decide (0 ≤ r) = true) := decide_eq_true h0
    go_wp2
    go_ret
    exact ⟨rfl, b1⟩
def WdAt (w : World) (G : Nat) (X : VW) : Prop := ∃ vs a2 c2 a6 c6 a7 c7, Blk w G 67 vs ∧ vs[5]? = some (.slice a2 X.fb.op.m c2) ∧ vs[13]? = some (.slice a6 X.nr c6) ∧ vs[14]? = some (.slice a7 X.ne c7) ∧ Rd w 0 (.list 13 X.fb.op.m (fun i => trs (dT (X.fb.op.f i)))) (.slice a2 X.fb.op.m c2) ∧ Rd w 0 (.list 16 X.nr (fun i => trs (xyT (X.rf i)))) (.slice a6 X.nr c6) ∧ Rd w 0 (.list 15 X.ne (fun i => trs (xeT (X.ef i)))) (.slice a7 X.ne c7)
theorem WdAt.below {w w' : World} {G : Nat} {X : VW} (h : WdAt w G X) (hb : Below w.heap.size w w') : WdAt w' G X := by
  obtain ⟨vs, a2, c2, a6, c6, a7, c7, h0, h1, h2, h3, r1, r2, r3⟩ := h
  exact ⟨vs, a2, c2, a6, c6, a7, c7, h0.below hb, h1, h2, h3, r1.below hb, r2.below hb, r3.below hb⟩
set_option maxRecDepth 20000 in
set_option maxHeartbeats 4000000 in
theorem wasServed_any (X : VW) (P : VP) (A : VA) (G : Nat) (b1 : Option Addr) (d1 : Nat) (b2 : Option Addr) (d2 : Nat) (s1 : Option Addr) (t1 : Nat) (s2 : Option Addr) (t2 : Nat) (w : World) (h : WdAt w G X) (hP : Rd w 0 (intsT P.q.ws) (.slice b1 P.q.ws.length d1) ∧ Rd w 0 (boolsT P.q.bs) (.slice b2 P.q.bs.length d2) ∧ Rd w 0 (intsT A.ws) (.slice s1 A.ws.length t1) ∧ Rd w 0 (boolsT A.bs) (.slice s2 A.bs.length t2)) (hX : BdW X) (hb : BdQ P.q ∧ BdA A) (x : Bool) (hx : wsB X P A = x) :
    Calls Tryz.prog 135 #[.pointer (some ⟨G, 0, none⟩), .agg (pL P b1 P.q.ws.length d1 b2 P.q.bs.length d2).toArray, .agg (aL A s1 A.ws.length t1 s2 A.bs.length t2).toArray] w fun e w' => e = .returned (.bool x) ∧ Below w.heap.size w w' := by
  obtain ⟨W, hW⟩ : ∃ W, W = (w.alloc (.cells (pL P b1 P.q.ws.length d1 b2 P.q.bs.length d2).toArray 134)).alloc (.cells (aL A s1 A.ws.length t1 s2 A.bs.length t2).toArray 117) := ⟨_, rfl⟩
  obtain ⟨GP, hGP⟩ : ∃ G, G = w.heap.size := ⟨_, rfl⟩
  obtain ⟨GA, hGA⟩ : ∃ G, G = w.heap.size + 1 := ⟨_, rfl⟩
  have bW : Below w.heap.size w W := by rw [hW]; exact bel_nx (bel_alloc w _) (bel_alloc _ _)
  have kP : Blk W GP 134 (pL P b1 P.q.ws.length d1 b2 P.q.bs.length d2).toArray := by rw [hW, hGP]; exact (Blk.new _ _ _).below (bel_alloc _ _)
  have kA : Blk W GA 117 (aL A s1 A.ws.length t1 s2 A.bs.length t2).toArray := by
    rw [hW, hGA]; have := Blk.new (w.alloc (.cells (pL P b1 P.q.ws.length d1 b2 P.q.bs.length d2).toArray 134)) (aL A s1 A.ws.length t1 s2 A.bs.length t2).toArray 117; simpa using this
  have z1 : W.cell? ⟨GA, 1, none⟩ = some (.int .i64 A.fl) := kA.cell 1 rfl
  obtain ⟨vs, a2, c2, a6, c6, a7, c7, h0, h1, h2, h3, r1, r2, r3⟩ := h.below bW
  have y14 : W.cell? ⟨G, 14, none⟩ = some (.slice a7 X.ne c7) := h0.cell 14 h3
  have HS : Hid (SvH W X.ne X.ef a7 c7 P A GP GA b1 d1 b2 d2 s1 t1 s2 t2 ∧ Below w.heap.size w W) := ⟨⟨r3, kP, kA, ⟨hP.1.below bW, hP.2.1.below bW, hP.2.2.1.below bW, hP.2.2.2.below bW⟩, hX.2.1.1, hX.2.1.2, hb⟩, bW⟩
  obtain ⟨y, hy⟩ : ∃ y, allN (fun k => !isE (X.ef k) P A) X.ne = y := ⟨_, rfl⟩
  have HY : Hid (wsB X P A = x ∧ allN (fun k => !isE (X.ef k) P A) X.ne = y) := ⟨hx, hy⟩
  clear bW kP kA h h0 h1 h2 h3 r1 r2 r3 hP hX hb hx hy
  by_cases e11 : A.fl = 11
  · have h11 : (A.fl == 11) = true := by simp [e11]
    have HF : Hid (x = true) := by show x = true; rw [← HY.out.1]; unfold wsB; rw [h11]; rfl
    clear e11
    go_enter Tryz.func135, Tryz.ntmps135
    go_upto_region 1 with fail
    rw [← hW, ← hGA, ← hGP]
    clear hW hGA hGP
    try go_simp
    go_wp2
    go_ret
    exact ⟨by rw [HF.out]; rfl, HS.out.2⟩
  · have h11 : (A.fl == 11) = false := by simp [e11]
    have HF : Hid (x = !y) := by show x = !y; rw [← HY.out.1, ← HY.out.2]; unfold wsB; rw [h11]; rfl
    clear e11
    go_enter Tryz.func135, Tryz.ntmps135
    go_upto_region 1 with fail
    rw [← hW, ← hGA, ← hGP]
    clear hW hGA hGP
    try go_simp
    go_wp2_with fail
    refine (containsE_any X.ne X.ef a7 c7 P A GP GA b1 d1 b2 d2 s1 t1 s2 t2 _ HS.out.1 y HY.out.2).mono ?_
    rintro e w1 ⟨rfl, b9⟩
    have B1 := bel_nx HS.out.2 b9
    clear b9 y14 z1
    go_wp2
    go_ret
    exact ⟨by rw [HF.out]; rfl, B1⟩
end Go.Proofs.YtpgcankjhkchjaaGreat
namespace Go.Proofs.YtpgcankjhkchjaaGreat
open Go.RowKit Go.Joins
set_option linter.unusedVariables false
set_option linter.unusedSimpArgs false
theorem Rd.bool3 {w : World} {lo n c : Nat} {a : Option Addr} {ws : List Bool} (h : Rd w lo (boolsT ws) (.slice a n c)) : n = ws.length ∧ n ≤ c ∧ SlB w a ws := by
  obtain ⟨a', c', h1, h2, h3, h4⟩ := h.bools
  simp only [Value.slice.injEq] at h1
  obtain ⟨rfl, rfl, rfl⟩ := h1
  exact ⟨rfl, h2, h4⟩
theorem Rd.bit {w : World} {lo n m c : Nat} {a : Option Addr} {bs : List Bool} {k : Nat} (h : Rd w lo (boolsT bs) (.slice a m c)) (hk : k < bs.length) : ∃ b off, a = some ⟨b, off, none⟩ ∧ b < w.heap.size ∧ w.cell? ⟨b, off + k, none⟩ = some (.bool (bs.getD k false)) := by
  rcases h.bool3.2.2 with h0 | ⟨b, off, ha, hb, hc⟩
  · subst h0; simp at hk
  · exact ⟨b, off, ha, hb, hc k hk⟩
def IxP (n : Nat) (f : Nat → VP) (r : Int) : Prop := (r = -1 ∧ allN (fun i => okPt (f i)) n = true) ∨ (0 ≤ r ∧ allN (fun i => okPt (f i)) n = false)
end Go.Proofs.YtpgcankjhkchjaaGreat
