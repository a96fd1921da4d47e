/- Texts that the proof needs, joined: ArgW Tq. -/
import Derived.Test.YtohikbpolofklaaGreatY2
import Derived.Test.YtohikbpolofklaaGreatY7
set_option linter.unusedVariables false
set_option linter.unusedSimpArgs false
namespace Go.Proofs.YtohikbpolofklaaGreat
open Go.ChangeShapes Go.WideShapes Go.ChangeAt Go.RowKit Go.Deep Go.Joins
def lK:List Sh:=[.int,.int,.int,.int,.int,.int,.int]
theorem Ru.of{w:World}{vs:List Value}(h:gn w lK vs):∃ X:Ru,aV w 0 (ac (aR X)) vs:=by
 obtain ⟨hl,h⟩:=h;match vs,hl with
 | [v0,v1,v2,v3,v4,v5,v6],_=>
  obtain ⟨z0,rfl⟩:=h 0 v0 rfl;obtain ⟨z1,rfl⟩:=h 1 v1 rfl;obtain ⟨z2,rfl⟩:=h 2 v2 rfl;obtain ⟨z3,rfl⟩:=h 3 v3 rfl;obtain ⟨z4,rfl⟩:=h 4 v4 rfl;obtain ⟨z5,rfl⟩:=h 5 v5 rfl;obtain ⟨z6,rfl⟩:=h 6 v6 rfl;exact ⟨⟨z0,z1,z2,z3,z4,z5,z6⟩,Ru.back (X:=⟨z0,z1,z2,z3,z4,z5,z6⟩)⟩
def xcSh:List Sh:=[.int,.int,.lst 7 (fun j=>lK.getD j .int)]
def xa:List Sh:=[.int,.int,.int,.int,.int,.int,.lst 1 (fun j=>[Sh.int].getD j .int),.lst 1 (fun j=>[Sh.bool].getD j .int),.int]
theorem VL.of{w:World}{vs:List Value}(h:gn w xa vs):∃ X:VL,aV w 0 (ac (aJ X)) vs:=by
 obtain ⟨hl,h⟩:=h;match vs,hl with
 | [v0,v1,v2,v3,v4,v5,v6,v7,v8],_=>
  obtain ⟨z0,rfl⟩:=h 0 v0 rfl;obtain ⟨z1,rfl⟩:=h 1 v1 rfl;obtain ⟨z2,rfl⟩:=h 2 v2 rfl;obtain ⟨z3,rfl⟩:=h 3 v3 rfl;obtain ⟨z4,rfl⟩:=h 4 v4 rfl;obtain ⟨z5,rfl⟩:=h 5 v5 rfl;obtain ⟨z6,r6⟩:=cM.ints (h 6 v6 rfl) rfl;obtain ⟨a6,c6,e6,_⟩:=r6.shape;subst e6;obtain ⟨z7,r7⟩:=cM.bools (h 7 v7 rfl) rfl;obtain ⟨a7,c7,e7,_⟩:=r7.shape;subst e7;obtain ⟨z8,rfl⟩:=h 8 v8 rfl;exact ⟨⟨z0,z1,z2,⟨z3,z4,z5,z6,z7,z8⟩⟩,VL.back (X:=⟨z0,z1,z2,⟨z3,z4,z5,z6,z7,z8⟩⟩) r6 r7⟩
def tx:List Sh:=[.lst 9 (fun j=>xa.getD j .int),.bool,.int,.int,.int,.int,.int,.int,.lst 1 (fun j=>[Sh.int].getD j .int),.lst 1 (fun j=>[Sh.bool].getD j .int),.int,.int,.int,.int,.int,.int,.int]
theorem VN.of{w:World}{vs:List Value}(h:gn w tx vs):∃ X:VN,aV w 0 (ac (aN X)) vs:=by
 obtain ⟨hl,h⟩:=h;match vs,hl with
 | [v0,v1,v2,v3,v4,v5,v6,v7,v8,v9,v10,v11,v12,v13,v14,v15,v16],_=>
  obtain ⟨n0,z0,r0⟩:=cM.list (T:=aJ) (h 0 v0 rfl) (fun vs h1 h2=>VL.of ⟨h1,h2⟩);obtain ⟨a0,c0,e0,_⟩:=r0.shape;subst e0;obtain ⟨z1,rfl⟩:=h 1 v1 rfl;obtain ⟨z2,rfl⟩:=h 2 v2 rfl;obtain ⟨z3,rfl⟩:=h 3 v3 rfl;obtain ⟨z4,rfl⟩:=h 4 v4 rfl;obtain ⟨z5,rfl⟩:=h 5 v5 rfl;obtain ⟨z6,rfl⟩:=h 6 v6 rfl;obtain ⟨z7,rfl⟩:=h 7 v7 rfl;obtain ⟨z8,r8⟩:=cM.ints (h 8 v8 rfl) rfl;obtain ⟨a8,c8,e8,_⟩:=r8.shape;subst e8;obtain ⟨z9,r9⟩:=cM.bools (h 9 v9 rfl) rfl;obtain ⟨a9,c9,e9,_⟩:=r9.shape;subst e9;obtain ⟨bM,rfl⟩:=h 10 v10 rfl;obtain ⟨cx,rfl⟩:=h 11 v11 rfl;obtain ⟨z12,rfl⟩:=h 12 v12 rfl;obtain ⟨z13,rfl⟩:=h 13 v13 rfl;obtain ⟨z14,rfl⟩:=h 14 v14 rfl;obtain ⟨z15,rfl⟩:=h 15 v15 rfl;obtain ⟨z16,rfl⟩:=h 16 v16 rfl;exact ⟨⟨n0,z0,z1,⟨z2,z3,z4,⟨z5,z6,z7,z8,z9,bM⟩⟩,cx,z12,z13,z14,z15,z16⟩,VN.back (X:=⟨n0,z0,z1,⟨z2,z3,z4,⟨z5,z6,z7,z8,z9,bM⟩⟩,cx,z12,z13,z14,z15,z16⟩) r0 r8 r9⟩
def tA:List Sh:=[.int,.int,.int,.lst 7 (fun j=>lK.getD j .int),.int,.lst 13 (fun j=>tE.getD j .int),.lst 17 (fun j=>tx.getD j .int),.int,.int,.int,.int]
theorem VF.of{w:World}{vs:List Value}(h:gn w tA vs):∃ X:VF,aV w 0 (ac (aX X)) vs:=by
 obtain ⟨hl,h⟩:=h;match vs,hl with
 | [v0,v1,v2,v3,v4,v5,v6,v7,v8,v9,v10],_=>
  obtain ⟨z0,rfl⟩:=h 0 v0 rfl;obtain ⟨z1,rfl⟩:=h 1 v1 rfl;obtain ⟨z2,rfl⟩:=h 2 v2 rfl;obtain ⟨n3,z3,r3⟩:=cM.list (T:=aR) (h 3 v3 rfl) (fun vs h1 h2=>Ru.of ⟨h1,h2⟩);obtain ⟨a3,c3,e3,_⟩:=r3.shape;subst e3;obtain ⟨z4,rfl⟩:=h 4 v4 rfl;obtain ⟨n5,z5,r5⟩:=cM.list (T:=dT) (h 5 v5 rfl) (fun vs h1 h2=>VD.of ⟨h1,h2⟩);obtain ⟨a5,c5,e5,_⟩:=r5.shape;subst e5;obtain ⟨n6,z6,r6⟩:=cM.list (T:=aN) (h 6 v6 rfl) (fun vs h1 h2=>VN.of ⟨h1,h2⟩);obtain ⟨a6,c6,e6,_⟩:=r6.shape;subst e6;obtain ⟨z7,rfl⟩:=h 7 v7 rfl;obtain ⟨z8,rfl⟩:=h 8 v8 rfl;obtain ⟨z9,rfl⟩:=h 9 v9 rfl;obtain ⟨bM,rfl⟩:=h 10 v10 rfl;exact ⟨⟨z0,⟨z1,z2,n3,z3⟩,⟨z4,n5,z5⟩,n6,z6,z7,z8,z9,bM⟩,VF.back (X:=⟨z0,⟨z1,z2,n3,z3⟩,⟨z4,n5,z5⟩,n6,z6,z7,z8,z9,bM⟩) r3 r5 r6⟩
def xdSh:List Sh:=[.lst 1 (fun j=>[Sh.bool].getD j .int),.lst 1 (fun j=>[Sh.bool].getD j .int),.lst 1 (fun j=>[Sh.int].getD j .int),.lst 1 (fun j=>[Sh.int].getD j .int)]
def yb:List Sh:=[.int,.int,.lst 1 (fun j=>[Sh.bool].getD j .int),.lst 1 (fun j=>[Sh.bool].getD j .int),.lst 1 (fun j=>[Sh.int].getD j .int),.lst 1 (fun j=>[Sh.int].getD j .int)]
def yd:List Sh:=[.bool,.int,.int,.int,.int,.int,.int,.lst 1 (fun j=>[Sh.int].getD j .int),.lst 1 (fun j=>[Sh.bool].getD j .int),.int,.int,.int,.int,.int,.lst 1 (fun j=>[Sh.int].getD j .int),.lst 1 (fun j=>[Sh.bool].getD j .int)]
def ye:List Sh:=[.int,.int,.int,.int,.int,.lst 1 (fun j=>[Sh.int].getD j .int),.lst 1 (fun j=>[Sh.bool].getD j .int),.int,.lst 8 (fun j=>vw.getD j .int),.lst 6 (fun j=>vu.getD j .int),.int,.int,.int,.int,.lst 1 (fun j=>[Sh.int].getD j .int),.lst 1 (fun j=>[Sh.bool].getD j .int)]
def yg:List Sh:=[.int,.int,.int,.int,.int,.int,.lst 1 (fun j=>[Sh.int].getD j .int),.lst 1 (fun j=>[Sh.bool].getD j .int),.int,.int,.int,.int,.int,.lst 1 (fun j=>[Sh.int].getD j .int),.lst 1 (fun j=>[Sh.bool].getD j .int)]
def xwSh:List Sh:=[.int,.int,.int,.lst 7 (fun j=>lK.getD j .int),.int,.lst 13 (fun j=>tE.getD j .int),.lst 17 (fun j=>tx.getD j .int),.int,.int,.int,.int,.lst 6 (fun j=>yb.getD j .int),.lst 16 (fun j=>yd.getD j .int),.lst 16 (fun j=>ye.getD j .int),.lst 15 (fun j=>yg.getD j .int)]
theorem qt{H:Type}{enc:TypeId × Value->H}{P:Program}{w:World}{base:Nat}{held:Bool}{r:Reach}{b0:Nat}{t:TypeId}{fs:Array Field}{v:Value}{d:DataW H}{p:List MemPlace}{N:Nat}(hs:P.underlying t=some (.struct fs))(hsh:iQ P N t=some tA)
 (hv:Value.okWide P w r b0 t v)(h:DataW.Trod enc P w base (fun _=>true) held t v d p):
 ∃ (X:VF) (a1:OA) (l1 c1:Nat) (a2:OA) (l2 c2:Nat) (a3:OA) (l3 c3:Nat),v=.agg (aq X a1 l1 c1 a2 l2 c2 a3 l3 c3).toArray/\Rd w 0 (.list 7 X.set.n (fun i=>ac (aR (X.set.f i)))) (.slice a1 l1 c1)/\Rd w 0 (.list 13 X.op.m (fun i=>ac (dT (X.op.f i)))) (.slice a2 l2 c2)/\Rd w 0 (.list 17 X.nl (fun i=>ac (aN (X.lf i)))) (.slice a3 l3 c3):=by
 obtain ⟨cs,rfl,hsz⟩:=okWide_struct hs hv;obtain ⟨fuel,hf⟩:=h;obtain ⟨l⟩:=cs;obtain ⟨X,hX⟩:=VF.of (fX N t _ hsh fuel l _ (by simpa [Value.cells] using hf));have hl:=(fX N t _ hsh fuel l _ (by simpa [Value.cells] using hf)).1;obtain ⟨a1,c1,a2,c2,a3,c3,rfl,r1,r2,r3⟩:=VF.cells hX hl;exact ⟨X,a1,_,c1,a2,_,c2,a3,_,c3,rfl,r1,r2,r3⟩
theorem qu{H:Type}{enc:TypeId × Value->H}{P:Program}{w:World}{base:Nat}{held:Bool}{r:Reach}{b0:Nat}{t e:TypeId}{v:Value}{d:DataW H}{p:List MemPlace}{N:Nat}(hs:P.underlying t=some (.slice e))(hsh:iQ P N t=some [.lst 7 (fun j=>lK.getD j .int)])
 (hv:Value.okWide P w r b0 t v)(h:DataW.Trod enc P w base (fun _=>true) held t v d p):
 ∃ (n:Nat) (f:Nat->Ru) (a:OA) (c:Nat),v=.slice a n c/\Rd w 0 (.list 7 n (fun i=>ac (aR (f i)))) (.slice a n c):=by
 obtain ⟨a,l,c,rfl⟩:=okWide_slice hs hv;obtain ⟨fuel,hf⟩:=h;obtain ⟨hl,hx⟩:=fX N t _ hsh fuel [.slice a l c] _ (by simpa [Value.cells] using hf);obtain ⟨n,f,hr⟩:=cM.list (T:=aR) (hx 0 _ rfl) (fun vs h1 h2=>Ru.of ⟨h1,h2⟩);obtain ⟨a',c',e',_⟩:=hr.shape;simp only [Value.slice.injEq] at e';obtain ⟨rfl,rfl,rfl⟩:=e';exact ⟨_,f,a,c,rfl,hr⟩
end Go.Proofs.YtohikbpolofklaaGreat
namespace Go.Proofs.YtohikbpolofklaaGreat
open Go.RowKit Go.Joins
def RQ(W:World)(n:Nat):List (Tr × Value)->Prop
 | []=>True
 |p:: l=>Rd W n p.1 p.2/\RQ W n l
structure TS(w:World)(t s:TypeId)(A Z:Array Value)(W:World)(O:Array Value)(Q:List (Tr × Value)):Prop where
 b:Below w.heap.size w W
 a:ae W w.heap.size t A
 z:ae W (w.heap.size+1) s Z
 o:ae W (w.heap.size+1+1) s O
 h:w.heap.size+1+1+1<= W.heap.size
 q:RQ W (w.heap.size+1+1+1) Q
theorem TS.new{w W:World}{t s:TypeId}{A Z O:Array Value}(hW:W=((w.alloc (.cells A t)).alloc (.cells Z s)).alloc (.cells O s)):Hid (TS w t s A Z W O []):=by
 subst hW;refine ⟨af (af (aa w _) (aa _ _)) (aa _ _),((ae.new w _ _).below (aa _ _)).below (aa _ _),?_,?_,by simp,trivial⟩
 ·have:=(ae.new (w.alloc (.cells A t)) Z s).below (aa _ (.cells O s))
  simpa using this
 have:=ae.new ((w.alloc (.cells A t)).alloc (.cells Z s)) O s;simpa using this
theorem aM.there{w:World}{g:Nat}{t:TypeId}{s n:Nat}{F:Nat->List Value}(h:aM w g t s n F){k m:Nat}(hk:k<n)(hm:m<= s):w.there g (k*s) m:=fun j hj=>by
 obtain ⟨v,e⟩:=h.ex hk (j:=j) (by omega);exact ⟨by rw [e];rfl,h.fro _⟩
end Go.Proofs.YtohikbpolofklaaGreat
