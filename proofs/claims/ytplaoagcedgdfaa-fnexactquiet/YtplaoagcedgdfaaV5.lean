/- Texts that the proof needs, joined: Tr10. -/
import Derived.Test.YtplaoagcedgdfaaV3
set_option linter.unusedVariables false
set_option linter.unusedSimpArgs false
namespace Go.Proofs.Ytplaoagcedgdfaa
open Go.RowKit Go.Joins
structure VI where
 co : List Bool
 ip : List Bool
 ho : List Int
 wd : List Int
instance : Inhabited VI := ⟨⟨[], [], [], []⟩⟩
def xdT (X : VI) : List Tr := [boolsT X.co, boolsT X.ip, intsT X.ho, intsT X.wd]
abbrev xdL (X : VI) (a1 : Option Addr) (l1 c1 : Nat) (a2 : Option Addr) (l2 c2 : Nat) (a3 : Option Addr) (l3 c3 : Nat) (a4 : Option Addr) (l4 c4 : Nat) : List Value := [.slice a1 l1 c1, .slice a2 l2 c2, .slice a3 l3 c3, .slice a4 l4 c4]
theorem szT_xd (X : VI) : szT 4 (trs (xdT X)) = X.co.length + X.ip.length + X.ho.length + X.wd.length := by
 simp [szT, sumN, trs, xdT, Tr.sz_leaf, intsT_sz, boolsT_sz]
structure VS where
 po : Int
 un : Int
 d : VI
instance : Inhabited VS := ⟨⟨0, 0, default⟩⟩
def xsT (X : VS) : List Tr := [.leaf (.int .i64 X.po), .leaf (.int .i64 X.un), boolsT X.d.co, boolsT X.d.ip, intsT X.d.ho, intsT X.d.wd]
abbrev xsL (X : VS) (a1 : Option Addr) (l1 c1 : Nat) (a2 : Option Addr) (l2 c2 : Nat) (a3 : Option Addr) (l3 c3 : Nat) (a4 : Option Addr) (l4 c4 : Nat) : List Value := [.int .i64 X.po, .int .i64 X.un, .slice a1 l1 c1, .slice a2 l2 c2, .slice a3 l3 c3, .slice a4 l4 c4]
theorem VS.cells {w : World} {lo : Nat} {X : VS} {vs : List Value} (h : RdL w lo (trs (xsT X)) vs) (hl : vs.length = 6) : ∃ a1 c1 a2 c2 a3 c3 a4 c4, vs = xsL X a1 (X.d.co.length) c1 a2 (X.d.ip.length) c2 a3 (X.d.ho.length) c3 a4 (X.d.wd.length) c4 /\ Rd w lo (boolsT X.d.co) (.slice a1 (X.d.co.length) c1) /\ Rd w lo (boolsT X.d.ip) (.slice a2 (X.d.ip.length) c2) /\ Rd w lo (intsT X.d.ho) (.slice a3 (X.d.ho.length) c3) /\ Rd w lo (intsT X.d.wd) (.slice a4 (X.d.wd.length) c4) := by
 match vs, hl with
 | [v0, v1, v2, v3, v4, v5], _ =>
  have e0 : v0 = .int .i64 X.po := RdL.get h (j := 0) rfl rfl
  have e1 : v1 = .int .i64 X.un := RdL.get h (j := 1) rfl rfl
  have r1 : Rd w lo (boolsT X.d.co) v2 := RdL.get h (j := 2) rfl rfl
  obtain ⟨a1, c1, e2, _⟩ := r1.shape
  have r2 : Rd w lo (boolsT X.d.ip) v3 := RdL.get h (j := 3) rfl rfl
  obtain ⟨a2, c2, e3, _⟩ := r2.shape
  have r3 : Rd w lo (intsT X.d.ho) v4 := RdL.get h (j := 4) rfl rfl
  obtain ⟨a3, c3, e4, _⟩ := r3.shape
  have r4 : Rd w lo (intsT X.d.wd) v5 := RdL.get h (j := 5) rfl rfl
  obtain ⟨a4, c4, e5, _⟩ := r4.shape
  subst e0 e1 e2 e3 e4 e5
  exact ⟨a1, c1, a2, c2, a3, c3, a4, c4, rfl, r1, r2, r3, r4⟩
theorem VS.back {w : World} {lo : Nat} {X : VS} {a1 : Option Addr} {l1 c1 : Nat} {a2 : Option Addr} {l2 c2 : Nat} {a3 : Option Addr} {l3 c3 : Nat} {a4 : Option Addr} {l4 c4 : Nat} (r1 : Rd w lo (boolsT X.d.co) (.slice a1 l1 c1)) (r2 : Rd w lo (boolsT X.d.ip) (.slice a2 l2 c2)) (r3 : Rd w lo (intsT X.d.ho) (.slice a3 l3 c3)) (r4 : Rd w lo (intsT X.d.wd) (.slice a4 l4 c4)) : RdL w lo (trs (xsT X)) (xsL X a1 l1 c1 a2 l2 c2 a3 l3 c3 a4 l4 c4) := by
 refine RdL.mk (fun j v t hv ht => ?_) (by simp [xsT])
 match j, hv, ht with
 | 0, hv, ht =>
  obtain rfl := Option.some.inj (show some _ = some v from hv)
  obtain rfl := Option.some.inj (show some _ = some t from ht)
  exact rfl
 | 1, hv, ht =>
  obtain rfl := Option.some.inj (show some _ = some v from hv)
  obtain rfl := Option.some.inj (show some _ = some t from ht)
  exact rfl
 | 2, hv, ht =>
  obtain rfl := Option.some.inj (show some _ = some v from hv)
  obtain rfl := Option.some.inj (show some _ = some t from ht)
  exact r1
 | 3, hv, ht =>
  obtain rfl := Option.some.inj (show some _ = some v from hv)
  obtain rfl := Option.some.inj (show some _ = some t from ht)
  exact r2
 | 4, hv, ht =>
  obtain rfl := Option.some.inj (show some _ = some v from hv)
  obtain rfl := Option.some.inj (show some _ = some t from ht)
  exact r3
 | 5, hv, ht =>
  obtain rfl := Option.some.inj (show some _ = some v from hv)
  obtain rfl := Option.some.inj (show some _ = some t from ht)
  exact r4
 | j + 6, hv, ht => simp at hv
theorem szT_xs (X : VS) : szT 6 (trs (xsT X)) = X.d.co.length + X.d.ip.length + X.d.ho.length + X.d.wd.length := by
 simp [szT, sumN, trs, xsT, Tr.sz_leaf, intsT_sz, boolsT_sz]
structure VK where
 bk : Bool
 po : Int
 nu : Int
 un : Int
 q : VQ
 a : VA
instance : Inhabited VK := ⟨⟨false, 0, 0, 0, default, default⟩⟩
def xkT (X : VK) : List Tr := [.leaf (.bool X.bk), .leaf (.int .i64 X.po), .leaf (.int .i64 X.nu), .leaf (.int .i64 X.un), .leaf (.int .i64 X.q.kd), .leaf (.int .i64 X.q.pl), .leaf (.int .i64 X.q.n), intsT X.q.ws, boolsT X.q.bs, .leaf (.int .i64 X.q.wa), .leaf (.int .i64 X.a.kd), .leaf (.int .i64 X.a.fl), .leaf (.int .i64 X.a.pl), .leaf (.int .i64 X.a.n), intsT X.a.ws, boolsT X.a.bs]
abbrev xkL (X : VK) (a1 : Option Addr) (l1 c1 : Nat) (a2 : Option Addr) (l2 c2 : Nat) (a3 : Option Addr) (l3 c3 : Nat) (a4 : Option Addr) (l4 c4 : Nat) : List Value := [.bool X.bk, .int .i64 X.po, .int .i64 X.nu, .int .i64 X.un, .int .i64 X.q.kd, .int .i64 X.q.pl, .int .i64 X.q.n, .slice a1 l1 c1, .slice a2 l2 c2, .int .i64 X.q.wa, .int .i64 X.a.kd, .int .i64 X.a.fl, .int .i64 X.a.pl, .int .i64 X.a.n, .slice a3 l3 c3, .slice a4 l4 c4]
theorem VK.cells {w : World} {lo : Nat} {X : VK} {vs : List Value} (h : RdL w lo (trs (xkT X)) vs) (hl : vs.length = 16) : ∃ a1 c1 a2 c2 a3 c3 a4 c4, vs = xkL X a1 (X.q.ws.length) c1 a2 (X.q.bs.length) c2 a3 (X.a.ws.length) c3 a4 (X.a.bs.length) c4 /\ Rd w lo (intsT X.q.ws) (.slice a1 (X.q.ws.length) c1) /\ Rd w lo (boolsT X.q.bs) (.slice a2 (X.q.bs.length) c2) /\ Rd w lo (intsT X.a.ws) (.slice a3 (X.a.ws.length) c3) /\ Rd w lo (boolsT X.a.bs) (.slice a4 (X.a.bs.length) c4) := by
 match vs, hl with
 | [v0, v1, v2, v3, v4, v5, v6, v7, v8, v9, v10, v11, v12, v13, v14, v15], _ =>
  have e0 : v0 = .bool X.bk := RdL.get h (j := 0) rfl rfl
  have e1 : v1 = .int .i64 X.po := RdL.get h (j := 1) rfl rfl
  have e2 : v2 = .int .i64 X.nu := RdL.get h (j := 2) rfl rfl
  have e3 : v3 = .int .i64 X.un := RdL.get h (j := 3) rfl rfl
  have e4 : v4 = .int .i64 X.q.kd := RdL.get h (j := 4) rfl rfl
  have e5 : v5 = .int .i64 X.q.pl := RdL.get h (j := 5) rfl rfl
  have e6 : v6 = .int .i64 X.q.n := RdL.get h (j := 6) rfl rfl
  have r1 : Rd w lo (intsT X.q.ws) v7 := RdL.get h (j := 7) rfl rfl
  obtain ⟨a1, c1, e7, _⟩ := r1.shape
  have r2 : Rd w lo (boolsT X.q.bs) v8 := RdL.get h (j := 8) rfl rfl
  obtain ⟨a2, c2, e8, _⟩ := r2.shape
  have e9 : v9 = .int .i64 X.q.wa := RdL.get h (j := 9) rfl rfl
  have e10 : v10 = .int .i64 X.a.kd := RdL.get h (j := 10) rfl rfl
  have e11 : v11 = .int .i64 X.a.fl := RdL.get h (j := 11) rfl rfl
  have e12 : v12 = .int .i64 X.a.pl := RdL.get h (j := 12) rfl rfl
  have e13 : v13 = .int .i64 X.a.n := RdL.get h (j := 13) rfl rfl
  have r3 : Rd w lo (intsT X.a.ws) v14 := RdL.get h (j := 14) rfl rfl
  obtain ⟨a3, c3, e14, _⟩ := r3.shape
  have r4 : Rd w lo (boolsT X.a.bs) v15 := RdL.get h (j := 15) rfl rfl
  obtain ⟨a4, c4, e15, _⟩ := r4.shape
  subst e0 e1 e2 e3 e4 e5 e6 e7 e8 e9 e10 e11 e12 e13 e14 e15
  exact ⟨a1, c1, a2, c2, a3, c3, a4, c4, rfl, r1, r2, r3, r4⟩
theorem VK.back {w : World} {lo : Nat} {X : VK} {a1 : Option Addr} {l1 c1 : Nat} {a2 : Option Addr} {l2 c2 : Nat} {a3 : Option Addr} {l3 c3 : Nat} {a4 : Option Addr} {l4 c4 : Nat} (r1 : Rd w lo (intsT X.q.ws) (.slice a1 l1 c1)) (r2 : Rd w lo (boolsT X.q.bs) (.slice a2 l2 c2)) (r3 : Rd w lo (intsT X.a.ws) (.slice a3 l3 c3)) (r4 : Rd w lo (boolsT X.a.bs) (.slice a4 l4 c4)) : RdL w lo (trs (xkT X)) (xkL X a1 l1 c1 a2 l2 c2 a3 l3 c3 a4 l4 c4) := by
 refine RdL.mk (fun j v t hv ht => ?_) (by simp [xkT])
 match j, hv, ht with
 | 0, hv, ht =>
  obtain rfl := Option.some.inj (show some _ = some v from hv)
  obtain rfl := Option.some.inj (show some _ = some t from ht)
  exact rfl
 | 1, hv, ht =>
  obtain rfl := Option.some.inj (show some _ = some v from hv)
  obtain rfl := Option.some.inj (show some _ = some t from ht)
  exact rfl
 | 2, hv, ht =>
  obtain rfl := Option.some.inj (show some _ = some v from hv)
  obtain rfl := Option.some.inj (show some _ = some t from ht)
  exact rfl
 | 3, hv, ht =>
  obtain rfl := Option.some.inj (show some _ = some v from hv)
  obtain rfl := Option.some.inj (show some _ = some t from ht)
  exact rfl
 | 4, hv, ht =>
  obtain rfl := Option.some.inj (show some _ = some v from hv)
  obtain rfl := Option.some.inj (show some _ = some t from ht)
  exact rfl
 | 5, hv, ht =>
  obtain rfl := Option.some.inj (show some _ = some v from hv)
  obtain rfl := Option.some.inj (show some _ = some t from ht)
  exact rfl
 | 6, hv, ht =>
  obtain rfl := Option.some.inj (show some _ = some v from hv)
  obtain rfl := Option.some.inj (show some _ = some t from ht)
  exact rfl
 | 7, hv, ht =>
  obtain rfl := Option.some.inj (show some _ = some v from hv)
  obtain rfl := Option.some.inj (show some _ = some t from ht)
  exact r1
 | 8, hv, ht =>
  obtain rfl := Option.some.inj (show some _ = some v from hv)
  obtain rfl := Option.some.inj (show some _ = some t from ht)
  exact r2
 | 9, hv, ht =>
  obtain rfl := Option.some.inj (show some _ = some v from hv)
  obtain rfl := Option.some.inj (show some _ = some t from ht)
  exact rfl
 | 10, hv, ht =>
  obtain rfl := Option.some.inj (show some _ = some v from hv)
  obtain rfl := Option.some.inj (show some _ = some t from ht)
  exact rfl
 | 11, hv, ht =>
  obtain rfl := Option.some.inj (show some _ = some v from hv)
  obtain rfl := Option.some.inj (show some _ = some t from ht)
  exact rfl
 | 12, hv, ht =>
  obtain rfl := Option.some.inj (show some _ = some v from hv)
  obtain rfl := Option.some.inj (show some _ = some t from ht)
  exact rfl
 | 13, hv, ht =>
  obtain rfl := Option.some.inj (show some _ = some v from hv)
  obtain rfl := Option.some.inj (show some _ = some t from ht)
  exact rfl
 | 14, hv, ht =>
  obtain rfl := Option.some.inj (show some _ = some v from hv)
  obtain rfl := Option.some.inj (show some _ = some t from ht)
  exact r3
 | 15, hv, ht =>
  obtain rfl := Option.some.inj (show some _ = some v from hv)
  obtain rfl := Option.some.inj (show some _ = some t from ht)
  exact r4
 | j + 16, hv, ht => simp at hv
theorem szT_xk (X : VK) : szT 16 (trs (xkT X)) = X.q.ws.length + X.q.bs.length + X.a.ws.length + X.a.bs.length := by
 simp [szT, sumN, trs, xkT, Tr.sz_leaf, intsT_sz, boolsT_sz]
structure VR where
 so : Int
 ta : Int
 q : VQ
 np : Nat
 pt : Nat -> VP
 nt : Nat
 tl : Nat -> VA
 a : VA
instance : Inhabited VR := ⟨⟨0, 0, default, 0, fun _ => default, 0, fun _ => default, default⟩⟩
def xyT (X : VR) : List Tr := [.leaf (.int .i64 X.so), .leaf (.int .i64 X.ta), .leaf (.int .i64 X.q.kd), .leaf (.int .i64 X.q.pl), .leaf (.int .i64 X.q.n), intsT X.q.ws, boolsT X.q.bs, .leaf (.int .i64 X.q.wa), .list 8 X.np (fun i => trs (pT (X.pt i))), .list 6 X.nt (fun i => trs (aT (X.tl i))), .leaf (.int .i64 X.a.kd), .leaf (.int .i64 X.a.fl), .leaf (.int .i64 X.a.pl), .leaf (.int .i64 X.a.n), intsT X.a.ws, boolsT X.a.bs]
abbrev xyL (X : VR) (a1 : Option Addr) (l1 c1 : Nat) (a2 : Option Addr) (l2 c2 : Nat) (a3 : Option Addr) (l3 c3 : Nat) (a4 : Option Addr) (l4 c4 : Nat) (a5 : Option Addr) (l5 c5 : Nat) (a6 : Option Addr) (l6 c6 : Nat) : List Value := [.int .i64 X.so, .int .i64 X.ta, .int .i64 X.q.kd, .int .i64 X.q.pl, .int .i64 X.q.n, .slice a1 l1 c1, .slice a2 l2 c2, .int .i64 X.q.wa, .slice a3 l3 c3, .slice a4 l4 c4, .int .i64 X.a.kd, .int .i64 X.a.fl, .int .i64 X.a.pl, .int .i64 X.a.n, .slice a5 l5 c5, .slice a6 l6 c6]
theorem VR.cells {w : World} {lo : Nat} {X : VR} {vs : List Value} (h : RdL w lo (trs (xyT X)) vs) (hl : vs.length = 16) : ∃ a1 c1 a2 c2 a3 c3 a4 c4 a5 c5 a6 c6, vs = xyL X a1 (X.q.ws.length) c1 a2 (X.q.bs.length) c2 a3 (X.np) c3 a4 (X.nt) c4 a5 (X.a.ws.length) c5 a6 (X.a.bs.length) c6 /\ Rd w lo (intsT X.q.ws) (.slice a1 (X.q.ws.length) c1) /\ Rd w lo (boolsT X.q.bs) (.slice a2 (X.q.bs.length) c2) /\ Rd w lo (.list 8 X.np (fun i => trs (pT (X.pt i)))) (.slice a3 (X.np) c3) /\ Rd w lo (.list 6 X.nt (fun i => trs (aT (X.tl i)))) (.slice a4 (X.nt) c4) /\ Rd w lo (intsT X.a.ws) (.slice a5 (X.a.ws.length) c5) /\ Rd w lo (boolsT X.a.bs) (.slice a6 (X.a.bs.length) c6) := by
 match vs, hl with
 | [v0, v1, v2, v3, v4, v5, v6, v7, v8, v9, v10, v11, v12, v13, v14, v15], _ =>
  have e0 : v0 = .int .i64 X.so := RdL.get h (j := 0) rfl rfl
  have e1 : v1 = .int .i64 X.ta := RdL.get h (j := 1) rfl rfl
  have e2 : v2 = .int .i64 X.q.kd := RdL.get h (j := 2) rfl rfl
  have e3 : v3 = .int .i64 X.q.pl := RdL.get h (j := 3) rfl rfl
  have e4 : v4 = .int .i64 X.q.n := RdL.get h (j := 4) rfl rfl
  have r1 : Rd w lo (intsT X.q.ws) v5 := RdL.get h (j := 5) rfl rfl
  obtain ⟨a1, c1, e5, _⟩ := r1.shape
  have r2 : Rd w lo (boolsT X.q.bs) v6 := RdL.get h (j := 6) rfl rfl
  obtain ⟨a2, c2, e6, _⟩ := r2.shape
  have e7 : v7 = .int .i64 X.q.wa := RdL.get h (j := 7) rfl rfl
  have r3 : Rd w lo (.list 8 X.np (fun i => trs (pT (X.pt i)))) v8 := RdL.get h (j := 8) rfl rfl
  obtain ⟨a3, c3, e8, _⟩ := r3.shape
  have r4 : Rd w lo (.list 6 X.nt (fun i => trs (aT (X.tl i)))) v9 := RdL.get h (j := 9) rfl rfl
  obtain ⟨a4, c4, e9, _⟩ := r4.shape
  have e10 : v10 = .int .i64 X.a.kd := RdL.get h (j := 10) rfl rfl
  have e11 : v11 = .int .i64 X.a.fl := RdL.get h (j := 11) rfl rfl
  have e12 : v12 = .int .i64 X.a.pl := RdL.get h (j := 12) rfl rfl
  have e13 : v13 = .int .i64 X.a.n := RdL.get h (j := 13) rfl rfl
  have r5 : Rd w lo (intsT X.a.ws) v14 := RdL.get h (j := 14) rfl rfl
  obtain ⟨a5, c5, e14, _⟩ := r5.shape
  have r6 : Rd w lo (boolsT X.a.bs) v15 := RdL.get h (j := 15) rfl rfl
  obtain ⟨a6, c6, e15, _⟩ := r6.shape
  subst e0 e1 e2 e3 e4 e5 e6 e7 e8 e9 e10 e11 e12 e13 e14 e15
  exact ⟨a1, c1, a2, c2, a3, c3, a4, c4, a5, c5, a6, c6, rfl, r1, r2, r3, r4, r5, r6⟩
theorem VR.back {w : World} {lo : Nat} {X : VR} {a1 : Option Addr} {l1 c1 : Nat} {a2 : Option Addr} {l2 c2 : Nat} {a3 : Option Addr} {l3 c3 : Nat} {a4 : Option Addr} {l4 c4 : Nat} {a5 : Option Addr} {l5 c5 : Nat} {a6 : Option Addr} {l6 c6 : Nat} (r1 : Rd w lo (intsT X.q.ws) (.slice a1 l1 c1)) (r2 : Rd w lo (boolsT X.q.bs) (.slice a2 l2 c2)) (r3 : Rd w lo (.list 8 X.np (fun i => trs (pT (X.pt i)))) (.slice a3 l3 c3)) (r4 : Rd w lo (.list 6 X.nt (fun i => trs (aT (X.tl i)))) (.slice a4 l4 c4)) (r5 : Rd w lo (intsT X.a.ws) (.slice a5 l5 c5)) (r6 : Rd w lo (boolsT X.a.bs) (.slice a6 l6 c6)) : RdL w lo (trs (xyT X)) (xyL X a1 l1 c1 a2 l2 c2 a3 l3 c3 a4 l4 c4 a5 l5 c5 a6 l6 c6) := by
 refine RdL.mk (fun j v t hv ht => ?_) (by simp [xyT])
 match j, hv, ht with
 | 0, hv, ht =>
  obtain rfl := Option.some.inj (show some _ = some v from hv)
  obtain rfl := Option.some.inj (show some _ = some t from ht)
  exact rfl
 | 1, hv, ht =>
  obtain rfl := Option.some.inj (show some _ = some v from hv)
  obtain rfl := Option.some.inj (show some _ = some t from ht)
  exact rfl
 | 2, hv, ht =>
  obtain rfl := Option.some.inj (show some _ = some v from hv)
  obtain rfl := Option.some.inj (show some _ = some t from ht)
  exact rfl
 | 3, hv, ht =>
  obtain rfl := Option.some.inj (show some _ = some v from hv)
  obtain rfl := Option.some.inj (show some _ = some t from ht)
  exact rfl
 | 4, hv, ht =>
  obtain rfl := Option.some.inj (show some _ = some v from hv)
  obtain rfl := Option.some.inj (show some _ = some t from ht)
  exact rfl
 | 5, hv, ht =>
  obtain rfl := Option.some.inj (show some _ = some v from hv)
  obtain rfl := Option.some.inj (show some _ = some t from ht)
  exact r1
 | 6, hv, ht =>
  obtain rfl := Option.some.inj (show some _ = some v from hv)
  obtain rfl := Option.some.inj (show some _ = some t from ht)
  exact r2
 | 7, hv, ht =>
  obtain rfl := Option.some.inj (show some _ = some v from hv)
  obtain rfl := Option.some.inj (show some _ = some t from ht)
  exact rfl
 | 8, hv, ht =>
  obtain rfl := Option.some.inj (show some _ = some v from hv)
  obtain rfl := Option.some.inj (show some _ = some t from ht)
  exact r3
 | 9, hv, ht =>
  obtain rfl := Option.some.inj (show some _ = some v from hv)
  obtain rfl := Option.some.inj (show some _ = some t from ht)
  exact r4
 | 10, hv, ht =>
  obtain rfl := Option.some.inj (show some _ = some v from hv)
  obtain rfl := Option.some.inj (show some _ = some t from ht)
  exact rfl
 | 11, hv, ht =>
  obtain rfl := Option.some.inj (show some _ = some v from hv)
  obtain rfl := Option.some.inj (show some _ = some t from ht)
  exact rfl
 | 12, hv, ht =>
  obtain rfl := Option.some.inj (show some _ = some v from hv)
  obtain rfl := Option.some.inj (show some _ = some t from ht)
  exact rfl
 | 13, hv, ht =>
  obtain rfl := Option.some.inj (show some _ = some v from hv)
  obtain rfl := Option.some.inj (show some _ = some t from ht)
  exact rfl
 | 14, hv, ht =>
  obtain rfl := Option.some.inj (show some _ = some v from hv)
  obtain rfl := Option.some.inj (show some _ = some t from ht)
  exact r5
 | 15, hv, ht =>
  obtain rfl := Option.some.inj (show some _ = some v from hv)
  obtain rfl := Option.some.inj (show some _ = some t from ht)
  exact r6
 | j + 16, hv, ht => simp at hv
theorem szT_xy (X : VR) : szT 16 (trs (xyT X)) = X.q.ws.length + X.q.bs.length + (Tr.list 8 X.np (fun i => trs (pT (X.pt i)))).sz + (Tr.list 6 X.nt (fun i => trs (aT (X.tl i)))).sz + X.a.ws.length + X.a.bs.length := by
 simp [szT, sumN, trs, xyT, Tr.sz_leaf, intsT_sz, boolsT_sz]
structure VE where
 po : Int
 nu : Int
 un : Int
 q : VQ
 a : VA
instance : Inhabited VE := ⟨⟨0, 0, 0, default, default⟩⟩
def xeT (X : VE) : List Tr := [.leaf (.int .i64 X.po), .leaf (.int .i64 X.nu), .leaf (.int .i64 X.un), .leaf (.int .i64 X.q.kd), .leaf (.int .i64 X.q.pl), .leaf (.int .i64 X.q.n), intsT X.q.ws, boolsT X.q.bs, .leaf (.int .i64 X.q.wa), .leaf (.int .i64 X.a.kd), .leaf (.int .i64 X.a.fl), .leaf (.int .i64 X.a.pl), .leaf (.int .i64 X.a.n), intsT X.a.ws, boolsT X.a.bs]
abbrev xeL (X : VE) (a1 : Option Addr) (l1 c1 : Nat) (a2 : Option Addr) (l2 c2 : Nat) (a3 : Option Addr) (l3 c3 : Nat) (a4 : Option Addr) (l4 c4 : Nat) : List Value := [.int .i64 X.po, .int .i64 X.nu, .int .i64 X.un, .int .i64 X.q.kd, .int .i64 X.q.pl, .int .i64 X.q.n, .slice a1 l1 c1, .slice a2 l2 c2, .int .i64 X.q.wa, .int .i64 X.a.kd, .int .i64 X.a.fl, .int .i64 X.a.pl, .int .i64 X.a.n, .slice a3 l3 c3, .slice a4 l4 c4]
theorem VE.cells {w : World} {lo : Nat} {X : VE} {vs : List Value} (h : RdL w lo (trs (xeT X)) vs) (hl : vs.length = 15) : ∃ a1 c1 a2 c2 a3 c3 a4 c4, vs = xeL X a1 (X.q.ws.length) c1 a2 (X.q.bs.length) c2 a3 (X.a.ws.length) c3 a4 (X.a.bs.length) c4 /\ Rd w lo (intsT X.q.ws) (.slice a1 (X.q.ws.length) c1) /\ Rd w lo (boolsT X.q.bs) (.slice a2 (X.q.bs.length) c2) /\ Rd w lo (intsT X.a.ws) (.slice a3 (X.a.ws.length) c3) /\ Rd w lo (boolsT X.a.bs) (.slice a4 (X.a.bs.length) c4) := by
 match vs, hl with
 | [v0, v1, v2, v3, v4, v5, v6, v7, v8, v9, v10, v11, v12, v13, v14], _ =>
  have e0 : v0 = .int .i64 X.po := RdL.get h (j := 0) rfl rfl
  have e1 : v1 = .int .i64 X.nu := RdL.get h (j := 1) rfl rfl
  have e2 : v2 = .int .i64 X.un := RdL.get h (j := 2) rfl rfl
  have e3 : v3 = .int .i64 X.q.kd := RdL.get h (j := 3) rfl rfl
  have e4 : v4 = .int .i64 X.q.pl := RdL.get h (j := 4) rfl rfl
  have e5 : v5 = .int .i64 X.q.n := RdL.get h (j := 5) rfl rfl
  have r1 : Rd w lo (intsT X.q.ws) v6 := RdL.get h (j := 6) rfl rfl
  obtain ⟨a1, c1, e6, _⟩ := r1.shape
  have r2 : Rd w lo (boolsT X.q.bs) v7 := RdL.get h (j := 7) rfl rfl
  obtain ⟨a2, c2, e7, _⟩ := r2.shape
  have e8 : v8 = .int .i64 X.q.wa := RdL.get h (j := 8) rfl rfl
  have e9 : v9 = .int .i64 X.a.kd := RdL.get h (j := 9) rfl rfl
  have e10 : v10 = .int .i64 X.a.fl := RdL.get h (j := 10) rfl rfl
  have e11 : v11 = .int .i64 X.a.pl := RdL.get h (j := 11) rfl rfl
  have e12 : v12 = .int .i64 X.a.n := RdL.get h (j := 12) rfl rfl
  have r3 : Rd w lo (intsT X.a.ws) v13 := RdL.get h (j := 13) rfl rfl
  obtain ⟨a3, c3, e13, _⟩ := r3.shape
  have r4 : Rd w lo (boolsT X.a.bs) v14 := RdL.get h (j := 14) rfl rfl
  obtain ⟨a4, c4, e14, _⟩ := r4.shape
  subst e0 e1 e2 e3 e4 e5 e6 e7 e8 e9 e10 e11 e12 e13 e14
  exact ⟨a1, c1, a2, c2, a3, c3, a4, c4, rfl, r1, r2, r3, r4⟩
theorem VE.back {w : World} {lo : Nat} {X : VE} {a1 : Option Addr} {l1 c1 : Nat} {a2 : Option Addr} {l2 c2 : Nat} {a3 : Option Addr} {l3 c3 : Nat} {a4 : Option Addr} {l4 c4 : Nat} (r1 : Rd w lo (intsT X.q.ws) (.slice a1 l1 c1)) (r2 : Rd w lo (boolsT X.q.bs) (.slice a2 l2 c2)) (r3 : Rd w lo (intsT X.a.ws) (.slice a3 l3 c3)) (r4 : Rd w lo (boolsT X.a.bs) (.slice a4 l4 c4)) : RdL w lo (trs (xeT X)) (xeL X a1 l1 c1 a2 l2 c2 a3 l3 c3 a4 l4 c4) := by
 refine RdL.mk (fun j v t hv ht => ?_) (by simp [xeT])
 match j, hv, ht with
 | 0, hv, ht =>
  obtain rfl := Option.some.inj (show some _ = some v from hv)
  obtain rfl := Option.some.inj (show some _ = some t from ht)
  exact rfl
 | 1, hv, ht =>
  obtain rfl := Option.some.inj (show some _ = some v from hv)
  obtain rfl := Option.some.inj (show some _ = some t from ht)
  exact rfl
 | 2, hv, ht =>
  obtain rfl := Option.some.inj (show some _ = some v from hv)
  obtain rfl := Option.some.inj (show some _ = some t from ht)
  exact rfl
 | 3, hv, ht =>
  obtain rfl := Option.some.inj (show some _ = some v from hv)
  obtain rfl := Option.some.inj (show some _ = some t from ht)
  exact rfl
 | 4, hv, ht =>
  obtain rfl := Option.some.inj (show some _ = some v from hv)
  obtain rfl := Option.some.inj (show some _ = some t from ht)
  exact rfl
 | 5, hv, ht =>
  obtain rfl := Option.some.inj (show some _ = some v from hv)
  obtain rfl := Option.some.inj (show some _ = some t from ht)
  exact rfl
 | 6, hv, ht =>
  obtain rfl := Option.some.inj (show some _ = some v from hv)
  obtain rfl := Option.some.inj (show some _ = some t from ht)
  exact r1
 | 7, hv, ht =>
  obtain rfl := Option.some.inj (show some _ = some v from hv)
  obtain rfl := Option.some.inj (show some _ = some t from ht)
  exact r2
 | 8, hv, ht =>
  obtain rfl := Option.some.inj (show some _ = some v from hv)
  obtain rfl := Option.some.inj (show some _ = some t from ht)
  exact rfl
 | 9, hv, ht =>
  obtain rfl := Option.some.inj (show some _ = some v from hv)
  obtain rfl := Option.some.inj (show some _ = some t from ht)
  exact rfl
 | 10, hv, ht =>
  obtain rfl := Option.some.inj (show some _ = some v from hv)
  obtain rfl := Option.some.inj (show some _ = some t from ht)
  exact rfl
 | 11, hv, ht =>
  obtain rfl := Option.some.inj (show some _ = some v from hv)
  obtain rfl := Option.some.inj (show some _ = some t from ht)
  exact rfl
 | 12, hv, ht =>
  obtain rfl := Option.some.inj (show some _ = some v from hv)
  obtain rfl := Option.some.inj (show some _ = some t from ht)
  exact rfl
 | 13, hv, ht =>
  obtain rfl := Option.some.inj (show some _ = some v from hv)
  obtain rfl := Option.some.inj (show some _ = some t from ht)
  exact r3
 | 14, hv, ht =>
  obtain rfl := Option.some.inj (show some _ = some v from hv)
  obtain rfl := Option.some.inj (show some _ = some t from ht)
  exact r4
 | j + 15, hv, ht => simp at hv
theorem szT_xe (X : VE) : szT 15 (trs (xeT X)) = X.q.ws.length + X.q.bs.length + X.a.ws.length + X.a.bs.length := by
 simp [szT, sumN, trs, xeT, Tr.sz_leaf, intsT_sz, boolsT_sz]
structure VW where
 fb : VF
 ns : Nat
 sf : Nat -> VS
 nk : Nat
 kf : Nat -> VK
 nr : Nat
 rf : Nat -> VR
 ne : Nat
 ef : Nat -> VE
instance : Inhabited VW := ⟨⟨default, 0, fun _ => default, 0, fun _ => default, 0, fun _ => default, 0, fun _ => default⟩⟩
def xwT (X : VW) : List Tr := [.leaf (.int .i64 X.fb.nw), .leaf (.int .i64 X.fb.set.wt), .leaf (.int .i64 X.fb.set.tr), .list 7 X.fb.set.n (fun i => trs (xrT (X.fb.set.f i))), .leaf (.int .i64 X.fb.op.nx), .list 13 X.fb.op.m (fun i => trs (dT (X.fb.op.f i))), .list 17 X.fb.nl (fun i => trs (xnT (X.fb.lf i))), .leaf (.int .i64 X.fb.sk), .leaf (.int .i64 X.fb.re), .leaf (.int .i64 X.fb.fa), .leaf (.int .i64 X.fb.se), .list 6 X.ns (fun i => trs (xsT (X.sf i))), .list 16 X.nk (fun i => trs (xkT (X.kf i))), .list 16 X.nr (fun i => trs (xyT (X.rf i))), .list 15 X.ne (fun i => trs (xeT (X.ef i)))]
abbrev xwL (X : VW) (a1 : Option Addr) (l1 c1 : Nat) (a2 : Option Addr) (l2 c2 : Nat) (a3 : Option Addr) (l3 c3 : Nat) (a4 : Option Addr) (l4 c4 : Nat) (a5 : Option Addr) (l5 c5 : Nat) (a6 : Option Addr) (l6 c6 : Nat) (a7 : Option Addr) (l7 c7 : Nat) : List Value := [.int .i64 X.fb.nw, .int .i64 X.fb.set.wt, .int .i64 X.fb.set.tr, .slice a1 l1 c1, .int .i64 X.fb.op.nx, .slice a2 l2 c2, .slice a3 l3 c3, .int .i64 X.fb.sk, .int .i64 X.fb.re, .int .i64 X.fb.fa, .int .i64 X.fb.se, .slice a4 l4 c4, .slice a5 l5 c5, .slice a6 l6 c6, .slice a7 l7 c7]
theorem VW.cells {w : World} {lo : Nat} {X : VW} {vs : List Value} (h : RdL w lo (trs (xwT X)) vs) (hl : vs.length = 15) : ∃ a1 c1 a2 c2 a3 c3 a4 c4 a5 c5 a6 c6 a7 c7, vs = xwL X a1 (X.fb.set.n) c1 a2 (X.fb.op.m) c2 a3 (X.fb.nl) c3 a4 (X.ns) c4 a5 (X.nk) c5 a6 (X.nr) c6 a7 (X.ne) c7 /\ Rd w lo (.list 7 X.fb.set.n (fun i => trs (xrT (X.fb.set.f i)))) (.slice a1 (X.fb.set.n) c1) /\ Rd w lo (.list 13 X.fb.op.m (fun i => trs (dT (X.fb.op.f i)))) (.slice a2 (X.fb.op.m) c2) /\ Rd w lo (.list 17 X.fb.nl (fun i => trs (xnT (X.fb.lf i)))) (.slice a3 (X.fb.nl) c3) /\ Rd w lo (.list 6 X.ns (fun i => trs (xsT (X.sf i)))) (.slice a4 (X.ns) c4) /\ Rd w lo (.list 16 X.nk (fun i => trs (xkT (X.kf i)))) (.slice a5 (X.nk) c5) /\ Rd w lo (.list 16 X.nr (fun i => trs (xyT (X.rf i)))) (.slice a6 (X.nr) c6) /\ Rd w lo (.list 15 X.ne (fun i => trs (xeT (X.ef i)))) (.slice a7 (X.ne) c7) := by
 match vs, hl with
 | [v0, v1, v2, v3, v4, v5, v6, v7, v8, v9, v10, v11, v12, v13, v14], _ =>
  have e0 : v0 = .int .i64 X.fb.nw := RdL.get h (j := 0) rfl rfl
  have e1 : v1 = .int .i64 X.fb.set.wt := RdL.get h (j := 1) rfl rfl
  have e2 : v2 = .int .i64 X.fb.set.tr := RdL.get h (j := 2) rfl rfl
  have r1 : Rd w lo (.list 7 X.fb.set.n (fun i => trs (xrT (X.fb.set.f i)))) v3 := RdL.get h (j := 3) rfl rfl
  obtain ⟨a1, c1, e3, _⟩ := r1.shape
  have e4 : v4 = .int .i64 X.fb.op.nx := RdL.get h (j := 4) rfl rfl
  have r2 : Rd w lo (.list 13 X.fb.op.m (fun i => trs (dT (X.fb.op.f i)))) v5 := RdL.get h (j := 5) rfl rfl
  obtain ⟨a2, c2, e5, _⟩ := r2.shape
  have r3 : Rd w lo (.list 17 X.fb.nl (fun i => trs (xnT (X.fb.lf i)))) v6 := RdL.get h (j := 6) rfl rfl
  obtain ⟨a3, c3, e6, _⟩ := r3.shape
  have e7 : v7 = .int .i64 X.fb.sk := RdL.get h (j := 7) rfl rfl
  have e8 : v8 = .int .i64 X.fb.re := RdL.get h (j := 8) rfl rfl
  have e9 : v9 = .int .i64 X.fb.fa := RdL.get h (j := 9) rfl rfl
  have e10 : v10 = .int .i64 X.fb.se := RdL.get h (j := 10) rfl rfl
  have r4 : Rd w lo (.list 6 X.ns (fun i => trs (xsT (X.sf i)))) v11 := RdL.get h (j := 11) rfl rfl
  obtain ⟨a4, c4, e11, _⟩ := r4.shape
  have r5 : Rd w lo (.list 16 X.nk (fun i => trs (xkT (X.kf i)))) v12 := RdL.get h (j := 12) rfl rfl
  obtain ⟨a5, c5, e12, _⟩ := r5.shape
  have r6 : Rd w lo (.list 16 X.nr (fun i => trs (xyT (X.rf i)))) v13 := RdL.get h (j := 13) rfl rfl
  obtain ⟨a6, c6, e13, _⟩ := r6.shape
  have r7 : Rd w lo (.list 15 X.ne (fun i => trs (xeT (X.ef i)))) v14 := RdL.get h (j := 14) rfl rfl
  obtain ⟨a7, c7, e14, _⟩ := r7.shape
  subst e0 e1 e2 e3 e4 e5 e6 e7 e8 e9 e10 e11 e12 e13 e14
  exact ⟨a1, c1, a2, c2, a3, c3, a4, c4, a5, c5, a6, c6, a7, c7, rfl, r1, r2, r3, r4, r5, r6, r7⟩
theorem VW.back {w : World} {lo : Nat} {X : VW} {a1 : Option Addr} {l1 c1 : Nat} {a2 : Option Addr} {l2 c2 : Nat} {a3 : Option Addr} {l3 c3 : Nat} {a4 : Option Addr} {l4 c4 : Nat} {a5 : Option Addr} {l5 c5 : Nat} {a6 : Option Addr} {l6 c6 : Nat} {a7 : Option Addr} {l7 c7 : Nat} (r1 : Rd w lo (.list 7 X.fb.set.n (fun i => trs (xrT (X.fb.set.f i)))) (.slice a1 l1 c1)) (r2 : Rd w lo (.list 13 X.fb.op.m (fun i => trs (dT (X.fb.op.f i)))) (.slice a2 l2 c2)) (r3 : Rd w lo (.list 17 X.fb.nl (fun i => trs (xnT (X.fb.lf i)))) (.slice a3 l3 c3)) (r4 : Rd w lo (.list 6 X.ns (fun i => trs (xsT (X.sf i)))) (.slice a4 l4 c4)) (r5 : Rd w lo (.list 16 X.nk (fun i => trs (xkT (X.kf i)))) (.slice a5 l5 c5)) (r6 : Rd w lo (.list 16 X.nr (fun i => trs (xyT (X.rf i)))) (.slice a6 l6 c6)) (r7 : Rd w lo (.list 15 X.ne (fun i => trs (xeT (X.ef i)))) (.slice a7 l7 c7)) : RdL w lo (trs (xwT X)) (xwL X a1 l1 c1 a2 l2 c2 a3 l3 c3 a4 l4 c4 a5 l5 c5 a6 l6 c6 a7 l7 c7) := by
 refine RdL.mk (fun j v t hv ht => ?_) (by simp [xwT])
 match j, hv, ht with
 | 0, hv, ht =>
  obtain rfl := Option.some.inj (show some _ = some v from hv)
  obtain rfl := Option.some.inj (show some _ = some t from ht)
  exact rfl
 | 1, hv, ht =>
  obtain rfl := Option.some.inj (show some _ = some v from hv)
  obtain rfl := Option.some.inj (show some _ = some t from ht)
  exact rfl
 | 2, hv, ht =>
  obtain rfl := Option.some.inj (show some _ = some v from hv)
  obtain rfl := Option.some.inj (show some _ = some t from ht)
  exact rfl
 | 3, hv, ht =>
  obtain rfl := Option.some.inj (show some _ = some v from hv)
  obtain rfl := Option.some.inj (show some _ = some t from ht)
  exact r1
 | 4, hv, ht =>
  obtain rfl := Option.some.inj (show some _ = some v from hv)
  obtain rfl := Option.some.inj (show some _ = some t from ht)
  exact rfl
 | 5, hv, ht =>
  obtain rfl := Option.some.inj (show some _ = some v from hv)
  obtain rfl := Option.some.inj (show some _ = some t from ht)
  exact r2
 | 6, hv, ht =>
  obtain rfl := Option.some.inj (show some _ = some v from hv)
  obtain rfl := Option.some.inj (show some _ = some t from ht)
  exact r3
 | 7, hv, ht =>
  obtain rfl := Option.some.inj (show some _ = some v from hv)
  obtain rfl := Option.some.inj (show some _ = some t from ht)
  exact rfl
 | 8, hv, ht =>
  obtain rfl := Option.some.inj (show some _ = some v from hv)
  obtain rfl := Option.some.inj (show some _ = some t from ht)
  exact rfl
 | 9, hv, ht =>
  obtain rfl := Option.some.inj (show some _ = some v from hv)
  obtain rfl := Option.some.inj (show some _ = some t from ht)
  exact rfl
 | 10, hv, ht =>
  obtain rfl := Option.some.inj (show some _ = some v from hv)
  obtain rfl := Option.some.inj (show some _ = some t from ht)
  exact rfl
 | 11, hv, ht =>
  obtain rfl := Option.some.inj (show some _ = some v from hv)
  obtain rfl := Option.some.inj (show some _ = some t from ht)
  exact r4
 | 12, hv, ht =>
  obtain rfl := Option.some.inj (show some _ = some v from hv)
  obtain rfl := Option.some.inj (show some _ = some t from ht)
  exact r5
 | 13, hv, ht =>
  obtain rfl := Option.some.inj (show some _ = some v from hv)
  obtain rfl := Option.some.inj (show some _ = some t from ht)
  exact r6
 | 14, hv, ht =>
  obtain rfl := Option.some.inj (show some _ = some v from hv)
  obtain rfl := Option.some.inj (show some _ = some t from ht)
  exact r7
 | j + 15, hv, ht => simp at hv
theorem szT_xw (X : VW) : szT 15 (trs (xwT X)) = (Tr.list 7 X.fb.set.n (fun i => trs (xrT (X.fb.set.f i)))).sz + (Tr.list 13 X.fb.op.m (fun i => trs (dT (X.fb.op.f i)))).sz + (Tr.list 17 X.fb.nl (fun i => trs (xnT (X.fb.lf i)))).sz + (Tr.list 6 X.ns (fun i => trs (xsT (X.sf i)))).sz + (Tr.list 16 X.nk (fun i => trs (xkT (X.kf i)))).sz + (Tr.list 16 X.nr (fun i => trs (xyT (X.rf i)))).sz + (Tr.list 15 X.ne (fun i => trs (xeT (X.ef i)))).sz := by
 simp [szT, sumN, trs, xwT, Tr.sz_leaf, intsT_sz, boolsT_sz]
end Go.Proofs.Ytplaoagcedgdfaa
