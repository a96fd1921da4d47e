/- Texts that the proof needs, joined: Tr10. -/
import Derived.Test.YtplaoagcedgdfaaGreatW3
set_option linter.unusedVariables false
set_option linter.unusedSimpArgs false
namespace Go.Proofs.YtplaoagcedgdfaaGreat
open Go.RowKit Go.Joins
structure VI where
 co : List Bool
 ip : List Bool
 ho : List Int
 wd : List Int
instance : Inhabited VI := ⟨⟨[], [], [], []⟩⟩
def xdT (X : VI) : List Tr := [boolsT X.co, boolsT X.ip, intsT X.ho, intsT X.wd]
abbrev xdL (X : VI) (a1 : Option Addr) (l1 c1 : Nat) (a2 : Option Addr) (l2 c2 : Nat) (a3 : Option Addr) (l3 c3 : Nat) (a4 : Option Addr) (l4 c4 : Nat) : List Value := [.slice a1 l1 c1, .slice a2 l2 c2, .slice a3 l3 c3, .slice a4 l4 c4]
structure VS where
 po : Int
 un : Int
 d : VI
instance : Inhabited VS := ⟨⟨0, 0, default⟩⟩
def xsT (X : VS) : List Tr := [.leaf (.int .i64 X.po), .leaf (.int .i64 X.un), boolsT X.d.co, boolsT X.d.ip, intsT X.d.ho, intsT X.d.wd]
abbrev xsL (X : VS) (a1 : Option Addr) (l1 c1 : Nat) (a2 : Option Addr) (l2 c2 : Nat) (a3 : Option Addr) (l3 c3 : Nat) (a4 : Option Addr) (l4 c4 : Nat) : List Value := [.int .i64 X.po, .int .i64 X.un, .slice a1 l1 c1, .slice a2 l2 c2, .slice a3 l3 c3, .slice a4 l4 c4]
structure VK where
 bk : Bool
 po : Int
 nu : Int
 un : Int
 q : VQ
 a : VA
instance : Inhabited VK := ⟨⟨false, 0, 0, 0, default, default⟩⟩
def xkT (X : VK) : List Tr := [.leaf (.bool X.bk), .leaf (.int .i64 X.po), .leaf (.int .i64 X.nu), .leaf (.int .i64 X.un), .leaf (.int .i64 X.q.kd), .leaf (.int .i64 X.q.pl), .leaf (.int .i64 X.q.n), intsT X.q.ws, boolsT X.q.bs, .leaf (.int .i64 X.q.wa), .leaf (.int .i64 X.a.kd), .leaf (.int .i64 X.a.fl), .leaf (.int .i64 X.a.pl), .leaf (.int .i64 X.a.n), intsT X.a.ws, boolsT X.a.bs]
abbrev xkL (X : VK) (a1 : Option Addr) (l1 c1 : Nat) (a2 : Option Addr) (l2 c2 : Nat) (a3 : Option Addr) (l3 c3 : Nat) (a4 : Option Addr) (l4 c4 : Nat) : List Value := [.bool X.bk, .int .i64 X.po, .int .i64 X.nu, .int .i64 X.un, .int .i64 X.q.kd, .int .i64 X.q.pl, .int .i64 X.q.n, .slice a1 l1 c1, .slice a2 l2 c2, .int .i64 X.q.wa, .int .i64 X.a.kd, .int .i64 X.a.fl, .int .i64 X.a.pl, .int .i64 X.a.n, .slice a3 l3 c3, .slice a4 l4 c4]
structure VR where
 so : Int
 ta : Int
 q : VQ
 np : Nat
 pt : Nat -> VP
 nt : Nat
 tl : Nat -> VA
 a : VA
instance : Inhabited VR := ⟨⟨0, 0, default, 0, fun _ => default, 0, fun _ => default, default⟩⟩
def xyT (X : VR) : List Tr := [.leaf (.int .i64 X.so), .leaf (.int .i64 X.ta), .leaf (.int .i64 X.q.kd), .leaf (.int .i64 X.q.pl), .leaf (.int .i64 X.q.n), intsT X.q.ws, boolsT X.q.bs, .leaf (.int .i64 X.q.wa), .list 8 X.np (fun i => trs (pT (X.pt i))), .list 6 X.nt (fun i => trs (aT (X.tl i))), .leaf (.int .i64 X.a.kd), .leaf (.int .i64 X.a.fl), .leaf (.int .i64 X.a.pl), .leaf (.int .i64 X.a.n), intsT X.a.ws, boolsT X.a.bs]
abbrev xyL (X : VR) (a1 : Option Addr) (l1 c1 : Nat) (a2 : Option Addr) (l2 c2 : Nat) (a3 : Option Addr) (l3 c3 : Nat) (a4 : Option Addr) (l4 c4 : Nat) (a5 : Option Addr) (l5 c5 : Nat) (a6 : Option Addr) (l6 c6 : Nat) : List Value := [.int .i64 X.so, .int .i64 X.ta, .int .i64 X.q.kd, .int .i64 X.q.pl, .int .i64 X.q.n, .slice a1 l1 c1, .slice a2 l2 c2, .int .i64 X.q.wa, .slice a3 l3 c3, .slice a4 l4 c4, .int .i64 X.a.kd, .int .i64 X.a.fl, .int .i64 X.a.pl, .int .i64 X.a.n, .slice a5 l5 c5, .slice a6 l6 c6]
structure VE where
 po : Int
 nu : Int
 un : Int
 q : VQ
 a : VA
instance : Inhabited VE := ⟨⟨0, 0, 0, default, default⟩⟩
def xeT (X : VE) : List Tr := [.leaf (.int .i64 X.po), .leaf (.int .i64 X.nu), .leaf (.int .i64 X.un), .leaf (.int .i64 X.q.kd), .leaf (.int .i64 X.q.pl), .leaf (.int .i64 X.q.n), intsT X.q.ws, boolsT X.q.bs, .leaf (.int .i64 X.q.wa), .leaf (.int .i64 X.a.kd), .leaf (.int .i64 X.a.fl), .leaf (.int .i64 X.a.pl), .leaf (.int .i64 X.a.n), intsT X.a.ws, boolsT X.a.bs]
abbrev xeL (X : VE) (a1 : Option Addr) (l1 c1 : Nat) (a2 : Option Addr) (l2 c2 : Nat) (a3 : Option Addr) (l3 c3 : Nat) (a4 : Option Addr) (l4 c4 : Nat) : List Value := [.int .i64 X.po, .int .i64 X.nu, .int .i64 X.un, .int .i64 X.q.kd, .int .i64 X.q.pl, .int .i64 X.q.n, .slice a1 l1 c1, .slice a2 l2 c2, .int .i64 X.q.wa, .int .i64 X.a.kd, .int .i64 X.a.fl, .int .i64 X.a.pl, .int .i64 X.a.n, .slice a3 l3 c3, .slice a4 l4 c4]
structure VW where
 fb : VF
 ns : Nat
 sf : Nat -> VS
 nk : Nat
 kf : Nat -> VK
 nr : Nat
 rf : Nat -> VR
 ne : Nat
 ef : Nat -> VE
instance : Inhabited VW := ⟨⟨default, 0, fun _ => default, 0, fun _ => default, 0, fun _ => default, 0, fun _ => default⟩⟩
def xwT (X : VW) : List Tr := [.leaf (.int .i64 X.fb.nw), .leaf (.int .i64 X.fb.set.wt), .leaf (.int .i64 X.fb.set.tr), .list 7 X.fb.set.n (fun i => trs (xrT (X.fb.set.f i))), .leaf (.int .i64 X.fb.op.nx), .list 13 X.fb.op.m (fun i => trs (dT (X.fb.op.f i))), .list 17 X.fb.nl (fun i => trs (xnT (X.fb.lf i))), .leaf (.int .i64 X.fb.sk), .leaf (.int .i64 X.fb.re), .leaf (.int .i64 X.fb.fa), .leaf (.int .i64 X.fb.se), .list 6 X.ns (fun i => trs (xsT (X.sf i))), .list 16 X.nk (fun i => trs (xkT (X.kf i))), .list 16 X.nr (fun i => trs (xyT (X.rf i))), .list 15 X.ne (fun i => trs (xeT (X.ef i)))]
abbrev xwL (X : VW) (a1 : Option Addr) (l1 c1 : Nat) (a2 : Option Addr) (l2 c2 : Nat) (a3 : Option Addr) (l3 c3 : Nat) (a4 : Option Addr) (l4 c4 : Nat) (a5 : Option Addr) (l5 c5 : Nat) (a6 : Option Addr) (l6 c6 : Nat) (a7 : Option Addr) (l7 c7 : Nat) : List Value := [.int .i64 X.fb.nw, .int .i64 X.fb.set.wt, .int .i64 X.fb.set.tr, .slice a1 l1 c1, .int .i64 X.fb.op.nx, .slice a2 l2 c2, .slice a3 l3 c3, .int .i64 X.fb.sk, .int .i64 X.fb.re, .int .i64 X.fb.fa, .int .i64 X.fb.se, .slice a4 l4 c4, .slice a5 l5 c5, .slice a6 l6 c6, .slice a7 l7 c7]
end Go.Proofs.YtplaoagcedgdfaaGreat
