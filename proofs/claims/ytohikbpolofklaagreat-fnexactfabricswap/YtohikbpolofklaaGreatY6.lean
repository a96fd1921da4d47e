/- Texts that the proof needs, joined: Tr10. -/
import Derived.Test.YtohikbpolofklaaGreatY4
set_option linter.unusedVariables false
set_option linter.unusedSimpArgs false
namespace Go.Proofs.YtohikbpolofklaaGreat
open Go.RowKit Go.Joins
structure VI where
 co:List Bool
 ip:List Bool
 ho:List Int
 wd:List Int
instance:Inhabited VI:=⟨⟨[],[],[],[]⟩⟩
def xdT(X:VI):List Tr:=[ai X.co,ai X.ip,aw X.ho,aw X.wd]
abbrev xdL(X:VI)(a1:OA)(l1 c1:Nat)(a2:OA)(l2 c2:Nat)(a3:OA)(l3 c3:Nat)(a4:OA)(l4 c4:Nat):List Value:=[.slice a1 l1 c1,.slice a2 l2 c2,.slice a3 l3 c3,.slice a4 l4 c4]
structure VS where
 po:Int
 un:Int
 d:VI
instance:Inhabited VS:=⟨⟨0,0,default⟩⟩
def yz(X:VS):List Tr:=[.leaf (Vi X.po),.leaf (Vi X.un),ai X.d.co,ai X.d.ip,aw X.d.ho,aw X.d.wd]
abbrev xsL(X:VS)(a1:OA)(l1 c1:Nat)(a2:OA)(l2 c2:Nat)(a3:OA)(l3 c3:Nat)(a4:OA)(l4 c4:Nat):List Value:=[Vi X.po,Vi X.un,.slice a1 l1 c1,.slice a2 l2 c2,.slice a3 l3 c3,.slice a4 l4 c4]
structure VK where
 bk:Bool
 po:Int
 nu:Int
 un:Int
 q:VQ
 a:VA
instance:Inhabited VK:=⟨⟨false,0,0,0,default,default⟩⟩
def yA(X:VK):List Tr:=[.leaf (.bool X.bk),.leaf (Vi X.po),.leaf (Vi X.nu),.leaf (Vi X.un),.leaf (Vi X.q.kd),.leaf (Vi X.q.pl),.leaf (Vi X.q.n),aw X.q.ws,ai X.q.bs,.leaf (Vi X.q.wa),.leaf (Vi X.a.kd),.leaf (Vi X.a.fl),.leaf (Vi X.a.pl),.leaf (Vi X.a.n),aw X.a.ws,ai X.a.bs]
abbrev xkL(X:VK)(a1:OA)(l1 c1:Nat)(a2:OA)(l2 c2:Nat)(a3:OA)(l3 c3:Nat)(a4:OA)(l4 c4:Nat):List Value:=[.bool X.bk,Vi X.po,Vi X.nu,Vi X.un,Vi X.q.kd,Vi X.q.pl,Vi X.q.n,.slice a1 l1 c1,.slice a2 l2 c2,Vi X.q.wa,Vi X.a.kd,Vi X.a.fl,Vi X.a.pl,Vi X.a.n,.slice a3 l3 c3,.slice a4 l4 c4]
structure VR where
 so:Int
 ta:Int
 q:VQ
 np:Nat
 pt:Nat->VP
 nt:Nat
 tl:Nat->VA
 a:VA
instance:Inhabited VR:=⟨⟨0,0,default,0,fun _=>default,0,fun _=>default,default⟩⟩
def yB(X:VR):List Tr:=[.leaf (Vi X.so),.leaf (Vi X.ta),.leaf (Vi X.q.kd),.leaf (Vi X.q.pl),.leaf (Vi X.q.n),aw X.q.ws,ai X.q.bs,.leaf (Vi X.q.wa),.list 8 X.np (fun i=>ac (pT (X.pt i))),.list 6 X.nt (fun i=>ac (aT (X.tl i))),.leaf (Vi X.a.kd),.leaf (Vi X.a.fl),.leaf (Vi X.a.pl),.leaf (Vi X.a.n),aw X.a.ws,ai X.a.bs]
abbrev xyL(X:VR)(a1:OA)(l1 c1:Nat)(a2:OA)(l2 c2:Nat)(a3:OA)(l3 c3:Nat)(a4:OA)(l4 c4:Nat)(a5:OA)(l5 c5:Nat)(a6:OA)(l6 c6:Nat):List Value:=[Vi X.so,Vi X.ta,Vi X.q.kd,Vi X.q.pl,Vi X.q.n,.slice a1 l1 c1,.slice a2 l2 c2,Vi X.q.wa,.slice a3 l3 c3,.slice a4 l4 c4,Vi X.a.kd,Vi X.a.fl,Vi X.a.pl,Vi X.a.n,.slice a5 l5 c5,.slice a6 l6 c6]
structure VE where
 po:Int
 nu:Int
 un:Int
 q:VQ
 a:VA
instance:Inhabited VE:=⟨⟨0,0,0,default,default⟩⟩
def yC(X:VE):List Tr:=[.leaf (Vi X.po),.leaf (Vi X.nu),.leaf (Vi X.un),.leaf (Vi X.q.kd),.leaf (Vi X.q.pl),.leaf (Vi X.q.n),aw X.q.ws,ai X.q.bs,.leaf (Vi X.q.wa),.leaf (Vi X.a.kd),.leaf (Vi X.a.fl),.leaf (Vi X.a.pl),.leaf (Vi X.a.n),aw X.a.ws,ai X.a.bs]
abbrev xeL(X:VE)(a1:OA)(l1 c1:Nat)(a2:OA)(l2 c2:Nat)(a3:OA)(l3 c3:Nat)(a4:OA)(l4 c4:Nat):List Value:=[Vi X.po,Vi X.nu,Vi X.un,Vi X.q.kd,Vi X.q.pl,Vi X.q.n,.slice a1 l1 c1,.slice a2 l2 c2,Vi X.q.wa,Vi X.a.kd,Vi X.a.fl,Vi X.a.pl,Vi X.a.n,.slice a3 l3 c3,.slice a4 l4 c4]
structure VW where
 fb:VF
 ns:Nat
 sf:Nat->VS
 nk:Nat
 kf:Nat->VK
 nr:Nat
 rf:Nat->VR
 ne:Nat
 ef:Nat->VE
instance:Inhabited VW:=⟨⟨default,0,fun _=>default,0,fun _=>default,0,fun _=>default,0,fun _=>default⟩⟩
def xwT(X:VW):List Tr:=[.leaf (Vi X.fb.nw),.leaf (Vi X.fb.set.wt),.leaf (Vi X.fb.set.tr),.list 7 X.fb.set.n (fun i=>ac (aR (X.fb.set.f i))),.leaf (Vi X.fb.op.nx),.list 13 X.fb.op.m (fun i=>ac (dT (X.fb.op.f i))),.list 17 X.fb.nl (fun i=>ac (aN (X.fb.lf i))),.leaf (Vi X.fb.sk),.leaf (Vi X.fb.re),.leaf (Vi X.fb.fa),.leaf (Vi X.fb.se),.list 6 X.ns (fun i=>ac (yz (X.sf i))),.list 16 X.nk (fun i=>ac (yA (X.kf i))),.list 16 X.nr (fun i=>ac (yB (X.rf i))),.list 15 X.ne (fun i=>ac (yC (X.ef i)))]
abbrev xwL(X:VW)(a1:OA)(l1 c1:Nat)(a2:OA)(l2 c2:Nat)(a3:OA)(l3 c3:Nat)(a4:OA)(l4 c4:Nat)(a5:OA)(l5 c5:Nat)(a6:OA)(l6 c6:Nat)(a7:OA)(l7 c7:Nat):List Value:=[Vi X.fb.nw,Vi X.fb.set.wt,Vi X.fb.set.tr,.slice a1 l1 c1,Vi X.fb.op.nx,.slice a2 l2 c2,.slice a3 l3 c3,Vi X.fb.sk,Vi X.fb.re,Vi X.fb.fa,Vi X.fb.se,.slice a4 l4 c4,.slice a5 l5 c5,.slice a6 l6 c6,.slice a7 l7 c7]
end Go.Proofs.YtohikbpolofklaaGreat
