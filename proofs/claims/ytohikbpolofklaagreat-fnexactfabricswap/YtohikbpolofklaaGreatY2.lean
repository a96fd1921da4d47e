/- Texts that the proof needs, joined: Tr1 ArgTr ArgQ Marks2 Steps Bits Ru1 ArgU ArgC Tr2. -/
import Derived.Test.YtohikbpolofklaaGreatY1
import Derived.Deep.Slices
import Derived.Lib.SmallJoins
import Derived.WalkKit
import Derived.Deep.RegionLaw
set_option linter.unusedVariables false
set_option linter.unusedSimpArgs false
set_option maxHeartbeats 2000000
set_option maxRecDepth 20000
namespace Go.Proofs.YtohikbpolofklaaGreat
open Go.RowKit Go.Joins Go.Proofs.Tryz
theorem Tr.sz_leaf(v:Value):(Tr.leaf v).sz=0:=rfl
structure VQ where
 kd:Int
 pl:Int
 n:Int
 ws:List Int
 bs:List Bool
 wa:Int
instance:Inhabited VQ:=⟨⟨0,0,0,[],[],0⟩⟩
def qT(X:VQ):List Tr:=[.leaf (Vi X.kd),.leaf (Vi X.pl),.leaf (Vi X.n),aw X.ws,ai X.bs,.leaf (Vi X.wa)]
abbrev qL(X:VQ)(a1:OA)(l1 c1:Nat)(a2:OA)(l2 c2:Nat):List Value:=[Vi X.kd,Vi X.pl,Vi X.n,.slice a1 l1 c1,.slice a2 l2 c2,Vi X.wa]
theorem cC(X:VQ):ax 6 (ac (qT X))=X.ws.length+X.bs.length:=by
 simp [ax,ag,ac,qT,Tr.sz_leaf,dV,dE]
structure VA where
 kd:Int
 fl:Int
 pl:Int
 n:Int
 ws:List Int
 bs:List Bool
instance:Inhabited VA:=⟨⟨0,0,0,0,[],[]⟩⟩
def aT(X:VA):List Tr:=[.leaf (Vi X.kd),.leaf (Vi X.fl),.leaf (Vi X.pl),.leaf (Vi X.n),aw X.ws,ai X.bs]
abbrev aL(X:VA)(a1:OA)(l1 c1:Nat)(a2:OA)(l2 c2:Nat):List Value:=[Vi X.kd,Vi X.fl,Vi X.pl,Vi X.n,.slice a1 l1 c1,.slice a2 l2 c2]
theorem VA.cells{w:World}{lo:Nat}{X:VA}{vs:List Value}(h:aV w lo (ac (aT X)) vs)(hl:vs.length=6):∃ a1 c1 a2 c2,vs=aL X a1 (X.ws.length) c1 a2 (X.bs.length) c2/\Rd w lo (aw X.ws) (.slice a1 (X.ws.length) c1)/\Rd w lo (ai X.bs) (.slice a2 (X.bs.length) c2):=by
 match vs,hl with
 | [v0,v1,v2,v3,v4,v5],_=>
  have e0:v0=Vi X.kd:=aV.get h (j:=0) rfl rfl;have e1:v1=Vi X.fl:=aV.get h (j:=1) rfl rfl;have e2:v2=Vi X.pl:=aV.get h (j:=2) rfl rfl;have e3:v3=Vi X.n:=aV.get h (j:=3) rfl rfl;have r1:Rd w lo (aw X.ws) v4:=aV.get h (j:=4) rfl rfl;obtain ⟨a1,c1,e4,_⟩:=r1.shape;have r2:Rd w lo (ai X.bs) v5:=aV.get h (j:=5) rfl rfl;obtain ⟨a2,c2,e5,_⟩:=r2.shape;subst e0 e1 e2 e3 e4 e5;exact ⟨a1,c1,a2,c2,rfl,r1,r2⟩
theorem VA.back{w:World}{lo:Nat}{X:VA}{a1:OA}{l1 c1:Nat}{a2:OA}{l2 c2:Nat}(r1:Rd w lo (aw X.ws) (.slice a1 l1 c1))(r2:Rd w lo (ai X.bs) (.slice a2 l2 c2)):aV w lo (ac (aT X)) (aL X a1 l1 c1 a2 l2 c2):=by
 refine aV.mk (fun j v t hv ht=>?_) (by simp [aT]);match j,hv,ht with
 |0,hv,ht=>
  obtain rfl:=sj hv;obtain rfl:=sj ht;exact rfl
 |1,hv,ht=>
  obtain rfl:=sj hv;obtain rfl:=sj ht;exact rfl
 |2,hv,ht=>
  obtain rfl:=sj hv;obtain rfl:=sj ht;exact rfl
 |3,hv,ht=>
  obtain rfl:=sj hv;obtain rfl:=sj ht;exact rfl
 |4,hv,ht=>
  obtain rfl:=sj hv;obtain rfl:=sj ht;exact r1
 |5,hv,ht=>
  obtain rfl:=sj hv;obtain rfl:=sj ht;exact r2
 |j+6,hv,ht=>simp at hv
theorem db(X:VA):ax 6 (ac (aT X))=X.ws.length+X.bs.length:=by
 simp [ax,ag,ac,aT,Tr.sz_leaf,dV,dE]
structure VP where
 p:Int
 t:Int
 q:VQ
instance:Inhabited VP:=⟨⟨0,0,default⟩⟩
def pT(X:VP):List Tr:=[.leaf (Vi X.p),.leaf (Vi X.t),.leaf (Vi X.q.kd),.leaf (Vi X.q.pl),.leaf (Vi X.q.n),aw X.q.ws,ai X.q.bs,.leaf (Vi X.q.wa)]
abbrev pL(X:VP)(a1:OA)(l1 c1:Nat)(a2:OA)(l2 c2:Nat):List Value:=[Vi X.p,Vi X.t,Vi X.q.kd,Vi X.q.pl,Vi X.q.n,.slice a1 l1 c1,.slice a2 l2 c2,Vi X.q.wa]
theorem VP.cells{w:World}{lo:Nat}{X:VP}{vs:List Value}(h:aV w lo (ac (pT X)) vs)(hl:vs.length=8):∃ a1 c1 a2 c2,vs=pL X a1 (X.q.ws.length) c1 a2 (X.q.bs.length) c2/\Rd w lo (aw X.q.ws) (.slice a1 (X.q.ws.length) c1)/\Rd w lo (ai X.q.bs) (.slice a2 (X.q.bs.length) c2):=by
 match vs,hl with
 | [v0,v1,v2,v3,v4,v5,v6,v7],_=>
  have e0:v0=Vi X.p:=aV.get h (j:=0) rfl rfl;have e1:v1=Vi X.t:=aV.get h (j:=1) rfl rfl;have e2:v2=Vi X.q.kd:=aV.get h (j:=2) rfl rfl;have e3:v3=Vi X.q.pl:=aV.get h (j:=3) rfl rfl;have e4:v4=Vi X.q.n:=aV.get h (j:=4) rfl rfl;have r1:Rd w lo (aw X.q.ws) v5:=aV.get h (j:=5) rfl rfl;obtain ⟨a1,c1,e5,_⟩:=r1.shape;have r2:Rd w lo (ai X.q.bs) v6:=aV.get h (j:=6) rfl rfl;obtain ⟨a2,c2,e6,_⟩:=r2.shape;have e7:v7=Vi X.q.wa:=aV.get h (j:=7) rfl rfl;subst e0 e1 e2 e3 e4 e5 e6 e7;exact ⟨a1,c1,a2,c2,rfl,r1,r2⟩
theorem VP.back{w:World}{lo:Nat}{X:VP}{a1:OA}{l1 c1:Nat}{a2:OA}{l2 c2:Nat}(r1:Rd w lo (aw X.q.ws) (.slice a1 l1 c1))(r2:Rd w lo (ai X.q.bs) (.slice a2 l2 c2)):aV w lo (ac (pT X)) (pL X a1 l1 c1 a2 l2 c2):=by
 refine aV.mk (fun j v t hv ht=>?_) (by simp [pT]);match j,hv,ht with
 |0,hv,ht=>
  obtain rfl:=sj hv;obtain rfl:=sj ht;exact rfl
 |1,hv,ht=>
  obtain rfl:=sj hv;obtain rfl:=sj ht;exact rfl
 |2,hv,ht=>
  obtain rfl:=sj hv;obtain rfl:=sj ht;exact rfl
 |3,hv,ht=>
  obtain rfl:=sj hv;obtain rfl:=sj ht;exact rfl
 |4,hv,ht=>
  obtain rfl:=sj hv;obtain rfl:=sj ht;exact rfl
 |5,hv,ht=>
  obtain rfl:=sj hv;obtain rfl:=sj ht;exact r1
 |6,hv,ht=>
  obtain rfl:=sj hv;obtain rfl:=sj ht;exact r2
 |7,hv,ht=>
  obtain rfl:=sj hv;obtain rfl:=sj ht;exact rfl
 |j+8,hv,ht=>simp at hv
theorem dc(X:VP):ax 8 (ac (pT X))=X.q.ws.length+X.q.bs.length:=by
 simp [ax,ag,ac,pT,Tr.sz_leaf,dV,dE]
structure VD where
 id:Int
 so:Int
 ta:Int
 un:Int
 q:VQ
 np:Nat
 pt:Nat->VP
 hs:List Bool
 nt:Nat
 tl:Nat->VA
instance:Inhabited VD:=⟨⟨0,0,0,0,default,0,fun _=>default,[],0,fun _=>default⟩⟩
def dT(X:VD):List Tr:=[.leaf (Vi X.id),.leaf (Vi X.so),.leaf (Vi X.ta),.leaf (Vi X.un),.leaf (Vi X.q.kd),.leaf (Vi X.q.pl),.leaf (Vi X.q.n),aw X.q.ws,ai X.q.bs,.leaf (Vi X.q.wa),.list 8 X.np (fun i=>ac (pT (X.pt i))),ai X.hs,.list 6 X.nt (fun i=>ac (aT (X.tl i)))]
abbrev dL(X:VD)(a1:OA)(l1 c1:Nat)(a2:OA)(l2 c2:Nat)(a3:OA)(l3 c3:Nat)(a4:OA)(l4 c4:Nat)(a5:OA)(l5 c5:Nat):List Value:=[Vi X.id,Vi X.so,Vi X.ta,Vi X.un,Vi X.q.kd,Vi X.q.pl,Vi X.q.n,.slice a1 l1 c1,.slice a2 l2 c2,Vi X.q.wa,.slice a3 l3 c3,.slice a4 l4 c4,.slice a5 l5 c5]
theorem VD.cells{w:World}{lo:Nat}{X:VD}{vs:List Value}(h:aV w lo (ac (dT X)) vs)(hl:vs.length=13):∃ a1 c1 a2 c2 a3 c3 a4 c4 a5 c5,vs=dL X a1 (X.q.ws.length) c1 a2 (X.q.bs.length) c2 a3 (X.np) c3 a4 (X.hs.length) c4 a5 (X.nt) c5/\Rd w lo (aw X.q.ws) (.slice a1 (X.q.ws.length) c1)/\Rd w lo (ai X.q.bs) (.slice a2 (X.q.bs.length) c2)/\Rd w lo (.list 8 X.np (fun i=>ac (pT (X.pt i)))) (.slice a3 (X.np) c3)/\Rd w lo (ai X.hs) (.slice a4 (X.hs.length) c4)/\Rd w lo (.list 6 X.nt (fun i=>ac (aT (X.tl i)))) (.slice a5 (X.nt) c5):=by
 match vs,hl with
 | [v0,v1,v2,v3,v4,v5,v6,v7,v8,v9,v10,v11,v12],_=>
  have e0:v0=Vi X.id:=aV.get h (j:=0) rfl rfl;have e1:v1=Vi X.so:=aV.get h (j:=1) rfl rfl;have e2:v2=Vi X.ta:=aV.get h (j:=2) rfl rfl;have e3:v3=Vi X.un:=aV.get h (j:=3) rfl rfl;have e4:v4=Vi X.q.kd:=aV.get h (j:=4) rfl rfl;have e5:v5=Vi X.q.pl:=aV.get h (j:=5) rfl rfl;have e6:v6=Vi X.q.n:=aV.get h (j:=6) rfl rfl;have r1:Rd w lo (aw X.q.ws) v7:=aV.get h (j:=7) rfl rfl;obtain ⟨a1,c1,e7,_⟩:=r1.shape;have r2:Rd w lo (ai X.q.bs) v8:=aV.get h (j:=8) rfl rfl;obtain ⟨a2,c2,e8,_⟩:=r2.shape;have e9:v9=Vi X.q.wa:=aV.get h (j:=9) rfl rfl;have r3:Rd w lo (.list 8 X.np (fun i=>ac (pT (X.pt i)))) v10:=aV.get h (j:=10) rfl rfl;obtain ⟨a3,c3,e10,_⟩:=r3.shape;have r4:Rd w lo (ai X.hs) v11:=aV.get h (j:=11) rfl rfl;obtain ⟨a4,c4,e11,_⟩:=r4.shape;have r5:Rd w lo (.list 6 X.nt (fun i=>ac (aT (X.tl i)))) v12:=aV.get h (j:=12) rfl rfl;obtain ⟨a5,c5,e12,_⟩:=r5.shape;subst e0 e1 e2 e3 e4 e5 e6 e7 e8 e9 e10 e11 e12;exact ⟨a1,c1,a2,c2,a3,c3,a4,c4,a5,c5,rfl,r1,r2,r3,r4,r5⟩
theorem VD.back{w:World}{lo:Nat}{X:VD}{a1:OA}{l1 c1:Nat}{a2:OA}{l2 c2:Nat}{a3:OA}{l3 c3:Nat}{a4:OA}{l4 c4:Nat}{a5:OA}{l5 c5:Nat}(r1:Rd w lo (aw X.q.ws) (.slice a1 l1 c1))(r2:Rd w lo (ai X.q.bs) (.slice a2 l2 c2))(r3:Rd w lo (.list 8 X.np (fun i=>ac (pT (X.pt i)))) (.slice a3 l3 c3))(r4:Rd w lo (ai X.hs) (.slice a4 l4 c4))(r5:Rd w lo (.list 6 X.nt (fun i=>ac (aT (X.tl i)))) (.slice a5 l5 c5)):aV w lo (ac (dT X)) (dL X a1 l1 c1 a2 l2 c2 a3 l3 c3 a4 l4 c4 a5 l5 c5):=by
 refine aV.mk (fun j v t hv ht=>?_) (by simp [dT]);match j,hv,ht with
 |0,hv,ht=>
  obtain rfl:=sj hv;obtain rfl:=sj ht;exact rfl
 |1,hv,ht=>
  obtain rfl:=sj hv;obtain rfl:=sj ht;exact rfl
 |2,hv,ht=>
  obtain rfl:=sj hv;obtain rfl:=sj ht;exact rfl
 |3,hv,ht=>
  obtain rfl:=sj hv;obtain rfl:=sj ht;exact rfl
 |4,hv,ht=>
  obtain rfl:=sj hv;obtain rfl:=sj ht;exact rfl
 |5,hv,ht=>
  obtain rfl:=sj hv;obtain rfl:=sj ht;exact rfl
 |6,hv,ht=>
  obtain rfl:=sj hv;obtain rfl:=sj ht;exact rfl
 |7,hv,ht=>
  obtain rfl:=sj hv;obtain rfl:=sj ht;exact r1
 |8,hv,ht=>
  obtain rfl:=sj hv;obtain rfl:=sj ht;exact r2
 |9,hv,ht=>
  obtain rfl:=sj hv;obtain rfl:=sj ht;exact rfl
 |10,hv,ht=>
  obtain rfl:=sj hv;obtain rfl:=sj ht;exact r3
 |11,hv,ht=>
  obtain rfl:=sj hv;obtain rfl:=sj ht;exact r4
 |12,hv,ht=>
  obtain rfl:=sj hv;obtain rfl:=sj ht;exact r5
 |j+13,hv,ht=>simp at hv
theorem dd(X:VD):ax 13 (ac (dT X))=X.q.ws.length+X.q.bs.length+(Tr.list 8 X.np (fun i=>ac (pT (X.pt i)))).sz+X.hs.length+(Tr.list 6 X.nt (fun i=>ac (aT (X.tl i)))).sz:=by
 simp [ax,ag,ac,dT,Tr.sz_leaf,dV,dE]
structure VT where
 nx:Int
 m:Nat
 f:Nat->VD
instance:Inhabited VT:=⟨⟨0,0,fun _=>default⟩⟩
def tT(X:VT):List Tr:=[.leaf (Vi X.nx),.list 13 X.m (fun i=>ac (dT (X.f i)))]
abbrev tL(X:VT)(a1:OA)(l1 c1:Nat):List Value:=[Vi X.nx,.slice a1 l1 c1]
theorem cQ(X:VT):ax 2 (ac (tT X))=(Tr.list 13 X.m (fun i=>ac (dT (X.f i)))).sz:=by
 simp [ax,ag,ac,tT,Tr.sz_leaf,dV,dE]
end Go.Proofs.YtohikbpolofklaaGreat
namespace Go.Proofs.YtohikbpolofklaaGreat
open Go.ChangeShapes Go.WideShapes Go.ChangeAt Go.RowKit Go.Deep Go.Joins Go.Proofs.Tryz
inductive Sh where
 |int
 |bool
 |lst (s:Nat) (f:Nat->Sh)
def cM(w:World):Sh->Value->Prop
 | .int,v=>∃ z,v=Vi z
 | .bool,v=>∃ z,v=.bool z
 | .lst s f,v=>∃ a n c,v=.slice a n c/\n<= c/\n<= maxLen/\(n=0\/∃ (g off:Nat) (F:Nat->List Value),a=some ⟨g,off,none⟩/\g<w.heap.size/\
  ∀ k,k<n->(F k).length=s/\∀ j v,(F k)[j]? = some v->w.cell? ⟨g,off+k*s+j,none⟩=some v/\cM w (f j) v)
def gn(w:World)(S:List Sh)(vs:List Value):Prop:=vs.length=S.length/\∀ j v,vs[j]? = some v->cM w (S.getD j .int) v
def lT(P:Program)(sh:TypeId->Option (List Sh)):List Field->Nat->Option (List Sh)
 | [],_=>some []
 |f:: r,o=>match sh f.type,lT P sh r (o+P.cellsOf f.type) with
  |some l,some l'=>if f.offset=o/\P.cellsOf f.type=l.length then some (l++l') else none
  |_,_=>none
def iQ(P:Program):Nat->TypeId->Option (List Sh)
 |0,_=>none
 |n+1,t=>match P.underlying t with
  |some (.int .i64)=>some [.int]
  |some .bool=>some [.bool]
  |some (.slice e)=>match iQ P n e with
   |some l=>if P.cellsOf e=l.length/\0<l.length then some [.lst l.length (fun j=>l.getD j .int)] else none
   |none=>none
  |some (.struct fs)=>match lT P (iQ P n) fs.toList 0 with
   |some l=>if P.cellsOf t=l.length then some l else none
   |none=>none
  |_=>none
section
variable {H:Type} {enc:TypeId × Value->H} {P:Program} {w:World} {base:Nat} {held:Bool}
theorem ko{sh:TypeId->Option (List Sh)}{cs:List Value}
 (hsh:∀ t S,sh t=some S->∀ (fuel:Nat) cs' (y:DataW H × List MemPlace),DataW.trod enc P w base (fun _=>true) held fuel t cs'=some y->gn w S cs'):
 ∀ (fs:List Field) (o:Nat) (S:List Sh),lT P sh fs o=some S->(∀ (i:Nat) f,fs[i]? = some f->∃ (n:Nat) (y:DataW H × List MemPlace),DataW.trod enc P w base (fun _=>true) held n f.type ((cs.drop f.offset).take (P.cellsOf f.type))=some y) ->
  ∀ j v,j<S.length->cs[o+j]? = some v->cM w (S.getD j .int) v
 | [],o,S,h,_,j,v,hj,hv=>by
  simp only [lT,Option.some.injEq] at h;subst h;simp at hj
 |f:: r,o,S,h,hf,j,v,hj,hv=>by
  unfold lT at h;split at h
  ·rename_i l l' h1 h2
   split at h
   ·rename_i hc
    simp only [Option.some.injEq] at h;subst h;obtain ⟨n,y,hy⟩:=hf 0 f rfl;obtain ⟨q1,q2⟩:=hsh _ _ h1 _ _ _ hy;by_cases e:j<l.length
    ·have:=q2 j v (by
      rw [List.getElem?_take,if_pos (by omega),List.getElem?_drop,hc.1];exact hv)
     rw [List.getD_eq_getElem?_getD] at this ⊢;rw [List.getElem?_append_left e];exact this
    have:=ko hsh r _ l' h2 (fun i f' hf'=>hf (i+1) f' (by simpa using hf')) (j-l.length) v (by simp at hj;omega) (by
     rw [show o+P.cellsOf f.type+(j-l.length)=o+j by omega];exact hv)
    rw [List.getD_eq_getElem?_getD] at this ⊢;rw [List.getElem?_append_right (by omega)];exact this
   simp at h
  simp at h
theorem fX:∀ (n:Nat) (t:TypeId) (S:List Sh),iQ P n t=some S->∀ (fuel:Nat) cs (y:DataW H × List MemPlace),DataW.trod enc P w base (fun _=>true) held fuel t cs=some y->gn w S cs
 |0,t,S,h,_,_,_,_=>by simp [iQ] at h
 |n+1,t,S,h,fuel,cs,y,hy=>by
  unfold iQ at h;split at h
  ·rename_i ht
   simp only [Option.some.injEq] at h;subst h;obtain ⟨z,rfl,_⟩:=DataW.trod_int ht hy;refine ⟨rfl,fun j v hv=>?_⟩
   match j,hv with
   |0,hv=>simp at hv;subst hv;exact ⟨z,rfl⟩
   |j+1,hv=>simp at hv
  ·rename_i ht
   simp only [Option.some.injEq] at h;subst h;obtain ⟨z,rfl,_⟩:=DataW.trod_bool ht hy;refine ⟨rfl,fun j v hv=>?_⟩
   match j,hv with
   |0,hv=>simp at hv;subst hv;exact ⟨z,rfl⟩
   |j+1,hv=>simp at hv
  ·rename_i e ht
   split at h
   ·rename_i l hl
    split at h
    ·rename_i hc
     simp only [Option.some.injEq] at h;subst h;rcases open_slice ht hy with ⟨rfl,_⟩|⟨x,len,c,m,n',D,Pl,rfl,_,hlc,hcm,hmm,_,hx⟩
     ·refine ⟨rfl,fun j v hv=>?_⟩
      match j,hv with
      |0,hv=>simp at hv;subst hv;exact ⟨none,0,0,rfl,Nl,Nat.zero_le _,.inl rfl⟩
      |j+1,hv=>simp at hv
     simp only [if_true] at hmm;subst hmm;rw [hc.1] at hx;obtain ⟨F,hF⟩:=choose_lt (α:=List Value) (p:=fun i cs'=>w.cells? base (x.add (i*l.length)) l.length=some cs'/\DataW.trod enc P w base (fun _=>true) held n' e cs'=some (D i,Pl i)) (fun i hi=>hx i hi);refine ⟨rfl,fun j v hv=>?_⟩
     match j,hv with
     |0,hv=>
      simp at hv;subst hv;refine ⟨some x,len,m,rfl,hlc,by omega,?_⟩
      by_cases e0:len=0
      ·exact .inl e0
      have hc0:=(World.cells?_some (hF 0 (by omega)).1)
      obtain ⟨b,off,spot⟩:=x;have hc9:=hc0.2.2 0 hc.2;obtain ⟨v0,hv0⟩:∃ v,(F 0)[0]? = some v:=⟨(F 0)[0]'(by rw [hc0.2.1];exact hc.2),by simp⟩
      rw [hv0] at hc9;have hspot:spot=none:=by simpa [Addr.add] using World.cell?_spot hc9
      subst hspot;refine .inr ⟨b,off,F,rfl,(by simpa [Addr.add] using World.block_lt_of_cell? _ _ hc9),fun k hk=>?_⟩;have h1:=World.cells?_some (hF k (by omega)).1;obtain ⟨q1,q2⟩:=fX n e l hl _ _ _ (hF k (by omega)).2;refine ⟨q1,fun j v hj=>⟨?_,q2 j v hj⟩⟩
      have h2:=h1.2.2 j (by rw [<- q1];exact (List.getElem?_eq_some_iff.1 hj).1)
      have e1:∀ (o n:Nat),(Addr.mk b o none).add n=⟨b,o+n,none⟩:=fun o n=>by
       by_cases e:n=0
       ·subst e;rfl
       simp [Addr.add,e]
      rw [e1,e1,hj] at h2;exact h2
     |j+1,hv=>simp at hv
    simp at h
   simp at h
  ·rename_i fs ht
   split at h
   ·rename_i l hl
    split at h
    ·rename_i hc
     simp only [Option.some.injEq] at h;subst h;obtain ⟨xs,m,_,hx,hlen,hxl,hg⟩:=DataW.trod_struct ht hy;refine ⟨by rw [hlen,hc],fun j v hv=>?_⟩
     have hj:j<l.length:=by
      have:=(List.getElem?_eq_some_iff.1 hv).1;omega
     exact ko (cs:=cs) (fun t' S' hs=>fX n t' S' hs) fs.toList 0 l hl (fun i f hf=>by
      have hf':fs[i]? = some f:=by simpa using hf
      have:=hg i f hf';have hi:i<xs.length:=by rw [hxl];exact (Array.getElem?_eq_some_iff.1 hf').1
      exact ⟨m,xs[i],by rw [this];simp⟩) j v hj (by rw [Nat.zero_add];exact hv)
    simp at h
   simp at h
  simp at h
end
theorem cM.ints{w:World}{f:Nat->Sh}{v:Value}(h:cM w (.lst 1 f) v)(hf:f 0=.int):∃ ws,Rd w 0 (aw ws) v:=by
 obtain ⟨a,n,c,rfl,h1,h2,h3⟩:=h;rcases h3 with h3|⟨g,off,F,rfl,hg,hF⟩
 ·subst h3
  exact ⟨[],a,c,rfl,h1,h2,.inl rfl⟩
 obtain ⟨z,hz⟩:=choose_lt (α:=Int) (n:=n) (p:=fun k z=>w.cell? ⟨g,off+k,none⟩=some (Vi z)) (fun k hk=>by
  obtain ⟨q1,q2⟩:=hF k hk;obtain ⟨v,hv⟩:∃ v,(F k)[0]? = some v:=⟨(F k)[0]'(by omega),by simp⟩
  obtain ⟨q3,q4⟩:=q2 0 v hv;rw [hf] at q4;obtain ⟨z,rfl⟩:=q4;exact ⟨z,by rw [Nat.mul_one,Nat.add_zero] at q3;exact q3⟩)
 refine ⟨(List.range n).map z,tQ (by simp) h1 h2 (.inr ⟨g,off,rfl,hg,fun i hi=>?_⟩) (fun _ _=>Nat.zero_le _)⟩
 simp at hi;rw [hz i hi];simp [List.getD_eq_getElem?_getD,hi]
theorem cM.bools{w:World}{f:Nat->Sh}{v:Value}(h:cM w (.lst 1 f) v)(hf:f 0=.bool):∃ bs,Rd w 0 (ai bs) v:=by
 obtain ⟨a,n,c,rfl,h1,h2,h3⟩:=h;rcases h3 with h3|⟨g,off,F,rfl,hg,hF⟩
 ·subst h3
  exact ⟨[],a,c,rfl,h1,h2,.inl rfl⟩
 obtain ⟨z,hz⟩:=choose_lt (α:=Bool) (n:=n) (p:=fun k z=>w.cell? ⟨g,off+k,none⟩=some (.bool z)) (fun k hk=>by
  obtain ⟨q1,q2⟩:=hF k hk;obtain ⟨v,hv⟩:∃ v,(F k)[0]? = some v:=⟨(F k)[0]'(by omega),by simp⟩
  obtain ⟨q3,q4⟩:=q2 0 v hv;rw [hf] at q4;obtain ⟨z,rfl⟩:=q4;exact ⟨z,by rw [Nat.mul_one,Nat.add_zero] at q3;exact q3⟩)
 refine ⟨(List.range n).map z,rR (by simp) h1 h2 (.inr ⟨g,off,rfl,hg,fun i hi=>?_⟩) (fun _ _=>Nat.zero_le _)⟩
 simp at hi;rw [hz i hi];simp [List.getD_eq_getElem?_getD,hi]
theorem cM.list{w:World}{s:Nat}{f:Nat->Sh}{v:Value}{α:Type}[Inhabited α]{T:α->List Tr}(h:cM w (.lst s f) v)(hof:∀ vs:List Value,vs.length=s->(∀ j v,vs[j]? = some v->cM w (f j) v)->∃ X:α,aV w 0 (ac (T X)) vs):∃ (n:Nat) (g:Nat->α),Rd w 0 (.list s n (fun i=>ac (T (g i)))) v:=by
 obtain ⟨a,n,c,rfl,h1,h2,h3⟩:=h;rcases h3 with h3|⟨g,off,F,rfl,hg,hF⟩
 ·subst h3
  exact ⟨0,fun _=>default,a,c,rfl,h1,h2,.inl rfl⟩
 obtain ⟨X,hX⟩:=choose_lt (α:=α) (n:=n) (p:=fun k X=>aV w 0 (ac (T X)) (F k)) (fun k hk=>hof _ (hF k hk).1 (fun j v hv=>((hF k hk).2 j v hv).2));exact ⟨n,X,some ⟨g,off,none⟩,c,rfl,h1,h2,.inr ⟨g,off,F,rfl,Nat.zero_le _,hg,fun k hk=>⟨(hF k hk).1,fun j v hv=>⟨((hF k hk).2 j v hv).1,hX k hk j v hv⟩⟩⟩⟩
def qSh:List Sh:=[.int,.int,.int,.lst 1 (fun j=>[Sh.int].getD j .int),.lst 1 (fun j=>[Sh.bool].getD j .int),.int]
def vu:List Sh:=[.int,.int,.int,.int,.lst 1 (fun j=>[Sh.int].getD j .int),.lst 1 (fun j=>[Sh.bool].getD j .int)]
theorem VA.of{w:World}{vs:List Value}(h:gn w vu vs):∃ X:VA,aV w 0 (ac (aT X)) vs:=by
 obtain ⟨hl,h⟩:=h;match vs,hl with
 | [v0,v1,v2,v3,v4,v5],_=>
  obtain ⟨z0,rfl⟩:=h 0 v0 rfl;obtain ⟨z1,rfl⟩:=h 1 v1 rfl;obtain ⟨z2,rfl⟩:=h 2 v2 rfl;obtain ⟨z3,rfl⟩:=h 3 v3 rfl;obtain ⟨z4,r4⟩:=cM.ints (h 4 v4 rfl) rfl;obtain ⟨a4,c4,e4,_⟩:=r4.shape;subst e4;obtain ⟨z5,r5⟩:=cM.bools (h 5 v5 rfl) rfl;obtain ⟨a5,c5,e5,_⟩:=r5.shape;subst e5;exact ⟨⟨z0,z1,z2,z3,z4,z5⟩,VA.back (X:=⟨z0,z1,z2,z3,z4,z5⟩) r4 r5⟩
def vw:List Sh:=[.int,.int,.int,.int,.int,.lst 1 (fun j=>[Sh.int].getD j .int),.lst 1 (fun j=>[Sh.bool].getD j .int),.int]
theorem VP.of{w:World}{vs:List Value}(h:gn w vw vs):∃ X:VP,aV w 0 (ac (pT X)) vs:=by
 obtain ⟨hl,h⟩:=h;match vs,hl with
 | [v0,v1,v2,v3,v4,v5,v6,v7],_=>
  obtain ⟨z0,rfl⟩:=h 0 v0 rfl;obtain ⟨z1,rfl⟩:=h 1 v1 rfl;obtain ⟨z2,rfl⟩:=h 2 v2 rfl;obtain ⟨z3,rfl⟩:=h 3 v3 rfl;obtain ⟨z4,rfl⟩:=h 4 v4 rfl;obtain ⟨z5,r5⟩:=cM.ints (h 5 v5 rfl) rfl;obtain ⟨a5,c5,e5,_⟩:=r5.shape;subst e5;obtain ⟨z6,r6⟩:=cM.bools (h 6 v6 rfl) rfl;obtain ⟨a6,c6,e6,_⟩:=r6.shape;subst e6;obtain ⟨z7,rfl⟩:=h 7 v7 rfl;exact ⟨⟨z0,z1,⟨z2,z3,z4,z5,z6,z7⟩⟩,VP.back (X:=⟨z0,z1,⟨z2,z3,z4,z5,z6,z7⟩⟩) r5 r6⟩
def tE:List Sh:=[.int,.int,.int,.int,.int,.int,.int,.lst 1 (fun j=>[Sh.int].getD j .int),.lst 1 (fun j=>[Sh.bool].getD j .int),.int,.lst 8 (fun j=>vw.getD j .int),.lst 1 (fun j=>[Sh.bool].getD j .int),.lst 6 (fun j=>vu.getD j .int)]
theorem VD.of{w:World}{vs:List Value}(h:gn w tE vs):∃ X:VD,aV w 0 (ac (dT X)) vs:=by
 obtain ⟨hl,h⟩:=h;match vs,hl with
 | [v0,v1,v2,v3,v4,v5,v6,v7,v8,v9,v10,v11,v12],_=>
  obtain ⟨z0,rfl⟩:=h 0 v0 rfl;obtain ⟨z1,rfl⟩:=h 1 v1 rfl;obtain ⟨z2,rfl⟩:=h 2 v2 rfl;obtain ⟨z3,rfl⟩:=h 3 v3 rfl;obtain ⟨z4,rfl⟩:=h 4 v4 rfl;obtain ⟨z5,rfl⟩:=h 5 v5 rfl;obtain ⟨z6,rfl⟩:=h 6 v6 rfl;obtain ⟨z7,r7⟩:=cM.ints (h 7 v7 rfl) rfl;obtain ⟨a7,c7,e7,_⟩:=r7.shape;subst e7;obtain ⟨z8,r8⟩:=cM.bools (h 8 v8 rfl) rfl;obtain ⟨a8,c8,e8,_⟩:=r8.shape;subst e8;obtain ⟨z9,rfl⟩:=h 9 v9 rfl;obtain ⟨n10,bM,r10⟩:=cM.list (T:=pT) (h 10 v10 rfl) (fun vs h1 h2=>VP.of ⟨h1,h2⟩);obtain ⟨a10,c10,e10,_⟩:=r10.shape;subst e10;obtain ⟨cx,r11⟩:=cM.bools (h 11 v11 rfl) rfl;obtain ⟨a11,c11,e11,_⟩:=r11.shape;subst e11;obtain ⟨n12,z12,r12⟩:=cM.list (T:=aT) (h 12 v12 rfl) (fun vs h1 h2=>VA.of ⟨h1,h2⟩);obtain ⟨a12,c12,e12,_⟩:=r12.shape;subst e12;exact ⟨⟨z0,z1,z2,z3,⟨z4,z5,z6,z7,z8,z9⟩,n10,bM,cx,n12,z12⟩,VD.back (X:=⟨z0,z1,z2,z3,⟨z4,z5,z6,z7,z8,z9⟩,n10,bM,cx,n12,z12⟩) r7 r8 r10 r11 r12⟩
def tSh:List Sh:=[.int,.lst 13 (fun j=>tE.getD j .int)]
def xe(w:World)(a:OA)(len:Nat)(zs:List Int):Prop:=zs.length=len/\len<= maxLen/\aZ w a zs/\∀ n ∈ zs,-9223372036854775808<= n/\n<= 9223372036854775807
section
variable {H:Type} {enc:TypeId × Value->H} {P:Program} {w:World} {base:Nat} {held:Bool}
def InReq(w:World)(kd pl nn wa:Int)(a b:OA)(la lb:Nat)(ws:List Int)(bs:List Bool):Prop:=
 xe w a la ws/\xb w b lb bs/\lb<= maxLen/\(Lit.int .i64 kd).wf=true/\(Lit.int .i64 pl).wf=true/\(Lit.int .i64 nn).wf=true/\(Lit.int .i64 wa).wf=true
end
end Go.Proofs.YtohikbpolofklaaGreat
namespace Go.Proofs.YtohikbpolofklaaGreat
open Go.RowKit Go.Proofs.Tryz
def yv(s n:Nat):List Int:=(List.range n).map (fun i:Nat=>((s:Int)+(i:Int)) % 256)
def yj(s:Nat)(w wr:World)(g cap k:Nat):Prop:=
 w.grownBy wr (some g)/\∃ cur,wr.heap[g]? = some (.cells cur 5 (0,0))/\cur.size=cap/\∀ i,i<k->cur[i]? = some (.int .u8 (((s:Int)+(i:Int)) % 256))
end Go.Proofs.YtohikbpolofklaaGreat
namespace Go.Proofs.YtohikbpolofklaaGreat
open Go.Proofs.Tryz
theorem wraps_i64'(n:Int)(h₀:0<= n)(h₁:n<2 ^ 32):IntKind.i64.wrap n=n:=by rw [IntKind.wrap_i64];omega
end Go.Proofs.YtohikbpolofklaaGreat
namespace Go.Proofs.YtohikbpolofklaaGreat
open Go.RowKit Go.Proofs.Tryz
structure Ru where
 u:Int
 s:Int
 lo:Int
 hi:Int
 p:Int
 t:Int
 sh:Int
abbrev cG(r:Ru):List Value:=[Vi r.u,Vi r.s,Vi r.lo,Vi r.hi,Vi r.p,Vi r.t,Vi r.sh]
abbrev bg(r:Ru):Array Value:=#[Vi r.u,Vi r.s,Vi r.lo,Vi r.hi,Vi r.p,Vi r.t,Vi r.sh]
abbrev dU(w:World)(a:OA)(n:Nat)(f:Nat->Ru):Prop:=fd w a 7 n (fun k=>cG (f k))
abbrev aA(w:World)(g n:Nat)(f:Nat->Ru):Prop:=aM w g 61 7 n (fun k=>cG (f k))
theorem dU.seven{w:World}{a:OA}{n:Nat}{f:Nat->Ru}(h:dU w a n f){k:Nat}(hk:k<n):∃ b off,a=some ⟨b,off,none⟩/\b<w.heap.size/\
 w.cell? ⟨b,off+k*7,none⟩=some (Vi (f k).u)/\w.cell? ⟨b,off+k*7+1,none⟩=some (Vi (f k).s)/\w.cell? ⟨b,off+k*7+2,none⟩=some (Vi (f k).lo)/\w.cell? ⟨b,off+k*7+3,none⟩=some (Vi (f k).hi)/\w.cell? ⟨b,off+k*7+4,none⟩=some (Vi (f k).p)/\w.cell? ⟨b,off+k*7+5,none⟩=some (Vi (f k).t)/\w.cell? ⟨b,off+k*7+6,none⟩=some (Vi (f k).sh):=by
 obtain ⟨b,off,ha,hb,hc⟩:=fd.at h hk;exact ⟨b,off,ha,hb,hc 0 (by decide),hc 1 (by decide),hc 2 (by decide),hc 3 (by decide),hc 4 (by decide),hc 5 (by decide),hc 6 (by decide)⟩
theorem aA.seven{w:World}{g n:Nat}{f:Nat->Ru}(h:aA w g n f){k:Nat}(hk:k<n):
 w.cell? ⟨g,k*7,none⟩=some (Vi (f k).u)/\w.cell? ⟨g,k*7+1,none⟩=some (Vi (f k).s)/\w.cell? ⟨g,k*7+2,none⟩=some (Vi (f k).lo)/\w.cell? ⟨g,k*7+3,none⟩=some (Vi (f k).hi)/\w.cell? ⟨g,k*7+4,none⟩=some (Vi (f k).p)/\w.cell? ⟨g,k*7+5,none⟩=some (Vi (f k).t)/\w.cell? ⟨g,k*7+6,none⟩=some (Vi (f k).sh):=
 ⟨h.cell hk (j:=0) (by decide),h.cell hk (j:=1) (by decide),h.cell hk (j:=2) (by decide),h.cell hk (j:=3) (by decide),h.cell hk (j:=4) (by decide),h.cell hk (j:=5) (by decide),h.cell hk (j:=6) (by decide)⟩
theorem Tryz.info61:(prog.info? 61).map (fun i=>(i.zero,i.size,i.bytes))=some (some (.agg (bg ⟨0,0,0,0,0,0,0⟩)),7,56):=by kernel_rfl
theorem pZ(r:Ru)(w:World):
 Calls prog 24 #[.agg (bg r)] w fun e w'=>e=.returned (.agg (bg r))/\Below w.heap.size w w':=by
 go_enter func24,ntmps24
 go_wp2;refine bodyPost_ret (v:=.agg (bg r)) (by simp [results,results24,go_sem]) rfl ⟨rfl,?_⟩;exact (((Below.refl _ w).alloc Nl _).alloc (by simp) _).alloc (by simp;omega) _
theorem ov(r:Ru)(w:World):
 Calls prog 32 #[.agg (bg r),.agg (bg r)] w fun e w'=>e=.returned (.bool true)/\Below w.heap.size w w':=by
 go_enter func32,ntmps32
 go_wp2;go_ret;exact ⟨rfl,((Below.refl _ w).alloc Nl _).alloc (by simp) _⟩
theorem mR(a:OA)(n cap:Nat)(left:Nat)(w:World)(h:n<= left)(hl:left<= 1048576):
 Calls prog 5 #[.slice a n cap,Vi (left:Int)] w fun e w'=>e=.returned (Vi (((left-n:Nat):Nat):Int))/\w'=w:=by
 have h1:¬ ((left:Int)-(n:Int)<0):=by omega
 have h2:IntKind.i64.wrap ((left:Int)-n)=(left:Int)-n:=by rw [IntKind.wrap_i64];omega
 go_enter func5,ntmps5
 go_wp2;go_ret;exact ⟨tN (by omega),rfl⟩
theorem ow(a:OA)(n cap:Nat)(left:Nat)(w:World)(hm:n<= maxLen)(h:¬ n<= left)(hl:left<= 1048576):
 Calls prog 5 #[.slice a n cap,Vi (left:Int)] w fun e w'=>e=.returned (Vi (-1))/\w'=w:=by
 unfold maxLen at hm;have h1:(left:Int)-(n:Int)<0:=by omega
 have h2:IntKind.i64.wrap ((left:Int)-n)=(left:Int)-n:=by rw [IntKind.wrap_i64];omega
 go_enter func5,ntmps5
 go_wp2;go_ret;exact ⟨rfl,rfl⟩
theorem ox(a:OA)(n cap:Nat)(f:Nat->Ru)(w:World)(hs:dU w a n f)(hl:n<= 2000000):
 Calls prog 8 #[.slice a n cap] w fun e w'=>e=.returned (.slice (some ⟨w.heap.size,0,none⟩) n n)/\
  aA w' w.heap.size n f/\Below w.heap.size w w':=by
 have hmk:=ct (P:=prog) 33 61 (.agg (bg ⟨0,0,0,0,0,0,0⟩)) 7 56 underlying33 Tryz.info61 .i64 .i64 n (by omega) (by omega);go_enter func8,ntmps8
 go_wp2;clear hmk;go_loopw [4] (fun i wr=>∃ k:Nat,k<= n/\i=Vi k/\aA wr w.heap.size n (fun i=>if i<k then f i else ⟨0,0,0,0,0,0,0⟩)/\Below w.heap.size w wr) (fun i _=>n-(intOf i).toNat)
 case atStart=>exact ⟨0,Nat.zero_le _,rfl,(aM.made w (cG ⟨0,0,0,0,0,0,0⟩) n _ (by simp)).congr (fun i _=>by simp),Br.alloc Nl _⟩
 case round=>
  obtain ⟨k,hk,rfl,hrow,hb⟩:=hrel;by_cases hlt:k<n
  ·obtain ⟨b,off,rfl,hb0,c0,c1,c2,c3,c4,c5,c6⟩:=dU.seven (fd.below hs hb) hlt
   have hi:(k:Int)<(n:Int):=by omega
   have HR:Hid (aA wr w.heap.size n (fun i=>if i<k then f i else ⟨0,0,0,0,0,0,0⟩)):=hrow;have HB:Hid (Below w.heap.size w wr):=hb;clear hrow hb;go_wp2_with fail
   refine (pZ (f k) _).mono ?_;rintro e w1 ⟨rfl,b1⟩;have R1:=HR.out.below b1;have B1:=ak HB.out b1;obtain ⟨d0,d1,d2,d3,d4,d5,d6⟩:=aA.seven R1 hlt;have f0:=aM.fro R1 (k*7);have f1:=aM.fro R1 (k*7+1);have f2:=aM.fro R1 (k*7+2);have f3:=aM.fro R1 (k*7+3);have f4:=aM.fro R1 (k*7+4);have f5:=aM.fro R1 (k*7+5);have f6:=aM.fro R1 (k*7+6)
   have HR2:Hid (aA (aF w1 w.heap.size (k*7) (cG (f k))) w.heap.size n (fun i=>if i<k+1 then f i else ⟨0,0,0,0,0,0,0⟩)):=by
    refine (aM.set R1 hlt (cG (f k)) rfl).congr (fun i _=>?_);by_cases e:i=k
    ·subst e;simp
    simp only [if_neg e];by_cases h:i<k
    ·rw [if_pos h,if_pos (by omega)]
    rw [if_neg h,if_neg (by omega)]
   have HB2:Hid (Below w.heap.size w (aF w1 w.heap.size (k*7) (cG (f k)))):=aD Nl _ _ _ B1;clear R1 B1 b1 HR HB c0 c1 c2 c3 c4 c5 c6 hs;go_wp2;go_roundw
   case rel=>exact ⟨k+1,by omega,by go_num,HR2.out,HB2.out⟩
   case measure=>simp [intOf];omega
  have R:Hid (aA wr w.heap.size n f):=hrow.congr (fun i hi=>by show cG (if i<k then f i else _)=_;rw [if_pos (by omega)]);clear hrow hs;go_wp2;go_ret;exact ⟨rfl,R.out,hb⟩
theorem mS(a a':OA)(n cap cap':Nat)(f:Nat->Ru)(w:World)(hs:dU w a n f)(hs':dU w a' n f)(hl:n<= 2000000):
 Calls prog 11 #[.slice a n cap,.slice a' n cap'] w fun e w'=>e=.returned (.bool true)/\Below w.heap.size w w':=by
 go_enter func11,ntmps11
 go_wp2;go_loopw [5] (fun i wr=>∃ k:Nat,k<= n/\i=Vi k/\Below w.heap.size w wr) (fun i _=>n-(intOf i).toNat)
 case atStart=>exact ⟨0,Nat.zero_le _,rfl,Br⟩
 case round=>
  obtain ⟨k,hk,rfl,hb⟩:=hrel;by_cases hlt:k<n
  ·obtain ⟨b,off,rfl,hb0,c0,c1,c2,c3,c4,c5,c6⟩:=dU.seven (fd.below hs hb) hlt
   obtain ⟨b',off',rfl,hb0',d0,d1,d2,d3,d4,d5,d6⟩:=dU.seven (fd.below hs' hb) hlt;have hi:(k:Int)<(n:Int):=by omega
   clear hs hs';go_wp2_with fail
   go_region_with (go_at_call 32;refine (ov (f k) _).mono ?_;rintro e w1 ⟨rfl,b1'⟩;have b1:Below wr.heap.size wr w1:=ak (by first|exact Br|exact Br.drew|exact Br.drew.drew) b1';clear b1')
   all_goals (
    have B1:=ak hb b1;clear hb b1 c0 c1 c2 c3 c4 c5 c6 d0 d1 d2 d3 d4 d5 d6;go_wp2;go_roundw
    case rel=>exact ⟨k+1,by omega,by go_num,B1⟩
    case measure=>simp [intOf];omega)
  clear hs hs';go_wp2;go_ret;exact ⟨rfl,hb⟩
end Go.Proofs.YtohikbpolofklaaGreat
namespace Go.Proofs.YtohikbpolofklaaGreat
open Go.ChangeShapes Go.WideShapes Go.ChangeAt Go.RowKit Go.Deep Go.Joins Go.Proofs.Tryz
section
variable {H:Type} {enc:TypeId × Value->H} {P:Program} {w:World} {base:Nat} {held:Bool}
def InRus(w:World)(a:OA)(n:Nat)(f:Nat->Ru):Prop:=n<= maxLen/\dU w a n f/\∀ k,k<n->-9223372036854775808<= (f k).sh/\(f k).sh<= 9223372036854775807
instance:Inhabited Ru:=⟨⟨0,0,0,0,0,0,0⟩⟩
end
section
variable {H:Type} {enc:TypeId × Value->H} {P:Program} {w:World} {base:Nat} {held:Bool}
end
end Go.Proofs.YtohikbpolofklaaGreat
namespace Go.Proofs.YtohikbpolofklaaGreat
open Go.RowKit Go.Joins Go.Proofs.Tryz
theorem iz(ws:List Int)(a:OA)(l c:Nat)(left:Nat)(w:World)(r:Rd w 0 (aw ws) (.slice a l c))(hl:left<= 1048576):
 Calls prog 157 #[.slice a l c,Vi (left:Int)] w fun e w'=>e=.returned (Vi (aH left ws.length))/\Below w.heap.size w w':=by
 obtain ⟨a9,c9,h9,-,hm,-⟩:=r.ints;simp only [Value.slice.injEq] at h9;obtain ⟨-,rfl,-⟩:=h9;obtain ⟨m,e⟩:∃ m,m=ws.length:=⟨_,rfl⟩
 clear r;rw [<- e] at hm ⊢;clear a9 c9 e;unfold maxLen at hm;have w1:IntKind.i64.wrap ((left:Int)-(m:Int))=(left:Int)-(m:Int):=by rw [IntKind.wrap_i64];omega
 by_cases h:m<= left
 ·have h1:¬ ((left:Int)-(m:Int)<0):=by omega
  have HE:Hid (aH left m=(left:Int)-(m:Int)):=by show _=_;unfold aH;rw [if_pos h]
  go_enter func157,ntmps157
  go_wp2;go_ret;exact ⟨by rw [HE.out];rfl,Br⟩
 have h1:((left:Int)-(m:Int)<0):=by omega
 have HE:Hid (aH left m = -1):=by show _=_;unfold aH;rw [if_neg h]
 go_enter func157,ntmps157
 go_wp2;go_ret;exact ⟨by rw [HE.out];rfl,Br⟩
theorem fw(ws:List Bool)(a:OA)(l c:Nat)(left:Nat)(w:World)(r:Rd w 0 (ai ws) (.slice a l c))(hl:left<= 1048576):
 Calls prog 120 #[.slice a l c,Vi (left:Int)] w fun e w'=>e=.returned (Vi (aH left ws.length))/\Below w.heap.size w w':=by
 obtain ⟨a9,c9,h9,-,hm,-⟩:=r.bools;simp only [Value.slice.injEq] at h9;obtain ⟨-,rfl,-⟩:=h9;obtain ⟨m,e⟩:∃ m,m=ws.length:=⟨_,rfl⟩
 clear r;rw [<- e] at hm ⊢;clear a9 c9 e;unfold maxLen at hm;have w1:IntKind.i64.wrap ((left:Int)-(m:Int))=(left:Int)-(m:Int):=by rw [IntKind.wrap_i64];omega
 by_cases h:m<= left
 ·have h1:¬ ((left:Int)-(m:Int)<0):=by omega
  have HE:Hid (aH left m=(left:Int)-(m:Int)):=by show _=_;unfold aH;rw [if_pos h]
  go_enter func120,ntmps120
  go_wp2;go_ret;exact ⟨by rw [HE.out];rfl,Br⟩
 have h1:((left:Int)-(m:Int)<0):=by omega
 have HE:Hid (aH left m = -1):=by show _=_;unfold aH;rw [if_neg h]
 go_enter func120,ntmps120
 go_wp2;go_ret;exact ⟨by rw [HE.out];rfl,Br⟩
theorem ae.tc2{w:World}{g:Nat}{t:TypeId}{v0 v1:Value}(h:ae w g t #[v0,v1]):(w.cell? ⟨g,0,none⟩=some v0/\w.cell? ⟨g,1,none⟩=some v1)/\∀ j,w.frozen? ⟨g,j,none⟩=false:=
 ⟨⟨h.cell 0 rfl,h.cell 1 rfl⟩,h.fro⟩
theorem ae.tc6{w:World}{g:Nat}{t:TypeId}{v0 v1 v2 v3 v4 v5:Value}(h:ae w g t #[v0,v1,v2,v3,v4,v5]):(w.cell? ⟨g,0,none⟩=some v0/\w.cell? ⟨g,1,none⟩=some v1/\w.cell? ⟨g,2,none⟩=some v2/\w.cell? ⟨g,3,none⟩=some v3/\w.cell? ⟨g,4,none⟩=some v4/\w.cell? ⟨g,5,none⟩=some v5)/\∀ j,w.frozen? ⟨g,j,none⟩=false:=
 ⟨⟨h.cell 0 rfl,h.cell 1 rfl,h.cell 2 rfl,h.cell 3 rfl,h.cell 4 rfl,h.cell 5 rfl⟩,h.fro⟩
theorem ae.tc8{w:World}{g:Nat}{t:TypeId}{v0 v1 v2 v3 v4 v5 v6 v7:Value}(h:ae w g t #[v0,v1,v2,v3,v4,v5,v6,v7]):(w.cell? ⟨g,0,none⟩=some v0/\w.cell? ⟨g,1,none⟩=some v1/\w.cell? ⟨g,2,none⟩=some v2/\w.cell? ⟨g,3,none⟩=some v3/\w.cell? ⟨g,4,none⟩=some v4/\w.cell? ⟨g,5,none⟩=some v5/\w.cell? ⟨g,6,none⟩=some v6/\w.cell? ⟨g,7,none⟩=some v7)/\∀ j,w.frozen? ⟨g,j,none⟩=false:=
 ⟨⟨h.cell 0 rfl,h.cell 1 rfl,h.cell 2 rfl,h.cell 3 rfl,h.cell 4 rfl,h.cell 5 rfl,h.cell 6 rfl,h.cell 7 rfl⟩,h.fro⟩
theorem ae.tc13{w:World}{g:Nat}{t:TypeId}{v0 v1 v2 v3 v4 v5 v6 v7 v8 v9 v10 v11 v12:Value}(h:ae w g t #[v0,v1,v2,v3,v4,v5,v6,v7,v8,v9,v10,v11,v12]):(w.cell? ⟨g,0,none⟩=some v0/\w.cell? ⟨g,1,none⟩=some v1/\w.cell? ⟨g,2,none⟩=some v2/\w.cell? ⟨g,3,none⟩=some v3/\w.cell? ⟨g,4,none⟩=some v4/\w.cell? ⟨g,5,none⟩=some v5/\w.cell? ⟨g,6,none⟩=some v6/\w.cell? ⟨g,7,none⟩=some v7/\w.cell? ⟨g,8,none⟩=some v8/\w.cell? ⟨g,9,none⟩=some v9/\w.cell? ⟨g,10,none⟩=some v10/\w.cell? ⟨g,11,none⟩=some v11/\w.cell? ⟨g,12,none⟩=some v12)/\∀ j,w.frozen? ⟨g,j,none⟩=false:=
 ⟨⟨h.cell 0 rfl,h.cell 1 rfl,h.cell 2 rfl,h.cell 3 rfl,h.cell 4 rfl,h.cell 5 rfl,h.cell 6 rfl,h.cell 7 rfl,h.cell 8 rfl,h.cell 9 rfl,h.cell 10 rfl,h.cell 11 rfl,h.cell 12 rfl⟩,h.fro⟩
theorem gy(X:VQ)(a1:OA)(l1 c1:Nat)(a2:OA)(l2 c2:Nat)(left:Nat)(w:World)(r1:Rd w 0 (aw X.ws) (.slice a1 l1 c1))(r2:Rd w 0 (ai X.bs) (.slice a2 l2 c2))(hl:left<= 1048576):
 Calls prog 118 #[.agg (qL X a1 l1 c1 a2 l2 c2).toArray,Vi (left:Int)] w fun e w'=>e=.returned (Vi (aH left (ax 6 (ac (qT X)))))/\Below w.heap.size w w':=by
 have HT:Hid (ax 6 (ac (qT X))=X.ws.length+X.bs.length):=by
  show _=_;simp only [cC];try omega
 obtain ⟨t1,ht1⟩:∃ t:Nat,t=X.ws.length:=⟨_,rfl⟩
 obtain ⟨t2,ht2⟩:∃ t:Nat,t=X.bs.length:=⟨_,rfl⟩
 obtain ⟨W,hW⟩:∃ W,W=w.alloc (.cells (qL X a1 l1 c1 a2 l2 c2).toArray 79):=⟨_,rfl⟩
 have H0:Hid (Below w.heap.size w W/\ae W w.heap.size 79 (qL X a1 l1 c1 a2 l2 c2).toArray/\ax 6 (ac (qT X))=t1+t2/\Rd w 0 (aw X.ws) (.slice a1 l1 c1)/\Rd w 0 (ai X.bs) (.slice a2 l2 c2)):=⟨by rw [hW];exact aa _ _,by rw [hW];exact ae.new _ _ _,by rw [HT.out];omega,r1,r2⟩
 have K1:Hid (t1=X.ws.length):=ht1;have K2:Hid (t2=X.bs.length):=ht2;clear HT r1 r2 ht1 ht2;go_enter func118,ntmps118
 go_upto_region 1 with fail
 rw [<- hW];clear hW;have G0:Hid (Below w.heap.size w W/\ae W w.heap.size 79 (qL X a1 l1 c1 a2 l2 c2).toArray):=⟨H0.out.1,H0.out.2.1⟩
 have Q0:Hid (left<= 1048576/\left=left):=⟨hl,rfl⟩
 obtain ⟨⟨y0,y1,y2,y3,y4,y5⟩,yf⟩:=G0.out.2.tc6;clear yf;by_cases g1:t1<= left
 rotate_left
 ·have E:Hid (aH left (X.ws.length) = -1/\aH left (ax 6 (ac (qT X))) = -1):=by
   have h9:=Q0.out.2;have h8:=H0.out.2.2.1;refine ⟨?_,?_⟩
   ·rw [<- K1.out];unfold aH;rw [if_neg g1]
   rw [h8];unfold aH;rw [if_neg (by omega)]
  go_wp2_with fail
  refine (iz X.ws a1 l1 c1 left _ (H0.out.2.2.2.1.below G0.out.1) Q0.out.1).mono ?_;rintro e w9 ⟨rfl,b9⟩;rw [E.out.1];have B9:=af G0.out.1 b9;clear b9 y0 y1 y2 y3 y4 y5;go_wp2;go_ret;exact ⟨by rw [E.out.2];rfl,B9⟩
 obtain ⟨L1,hL1⟩:∃ m:Nat,m+t1=left:=⟨left-t1,by omega⟩
 have E1:Hid (aH left (X.ws.length)=(L1:Int)):=by
  show _=_;rw [<- K1.out];unfold aH;rw [if_pos g1];omega
 have n1:¬ ((L1:Int)<0):=by omega
 have Q1:Hid (L1<= 1048576/\L1+t1=left):=by
  have h9:=Q0.out;exact ⟨by omega,by omega⟩
 clear hL1 g1;go_wp2_with fail
 refine (iz X.ws a1 l1 c1 left _ (H0.out.2.2.2.1.below G0.out.1) Q0.out.1).mono ?_;rintro e w1 ⟨rfl,b1⟩;rw [E1.out];have G1:Hid (Below w.heap.size w w1/\ae w1 w.heap.size 79 (qL X a1 l1 c1 a2 l2 c2).toArray):=⟨af G0.out.1 b1,G0.out.2.below b1⟩
 clear b1 y0 y1 y2 y3 y4 y5;obtain ⟨⟨y0,y1,y2,y3,y4,y5⟩,yf⟩:=G1.out.2.tc6;clear yf;by_cases g2:t2<= L1
 rotate_left
 ·have E:Hid (aH L1 (X.bs.length) = -1/\aH left (ax 6 (ac (qT X))) = -1):=by
   have h9:=Q1.out.2;have h8:=H0.out.2.2.1;refine ⟨?_,?_⟩
   ·rw [<- K2.out];unfold aH;rw [if_neg g2]
   rw [h8];unfold aH;rw [if_neg (by omega)]
  go_wp2_with fail
  refine (fw X.bs a2 l2 c2 L1 _ (H0.out.2.2.2.2.below G1.out.1) Q1.out.1).mono ?_;rintro e w9 ⟨rfl,b9⟩;rw [E.out.1];have B9:=af G1.out.1 b9;clear b9 y0 y1 y2 y3 y4 y5;go_wp2;go_ret;exact ⟨by rw [E.out.2];rfl,B9⟩
 obtain ⟨L2,hL2⟩:∃ m:Nat,m+t2=L1:=⟨L1-t2,by omega⟩
 have E2:Hid (aH L1 (X.bs.length)=(L2:Int)):=by
  show _=_;rw [<- K2.out];unfold aH;rw [if_pos g2];omega
 have n2:¬ ((L2:Int)<0):=by omega
 have Q2:Hid (L2<= 1048576/\L2+t1+t2=left):=by
  have h9:=Q1.out;exact ⟨by omega,by omega⟩
 clear hL2 g2;go_wp2_with fail
 refine (fw X.bs a2 l2 c2 L1 _ (H0.out.2.2.2.2.below G1.out.1) Q1.out.1).mono ?_;rintro e w2 ⟨rfl,b2⟩;rw [E2.out];have G2:Hid (Below w.heap.size w w2/\ae w2 w.heap.size 79 (qL X a1 l1 c1 a2 l2 c2).toArray):=⟨af G1.out.1 b2,G1.out.2.below b2⟩
 clear b2 y0 y1 y2 y3 y4 y5
 have E:Hid (aH left (ax 6 (ac (qT X)))=(L2:Int)):=by
  have h9:=Q2.out.2;have h8:=H0.out.2.2.1;show _=_;rw [h8];unfold aH;rw [if_pos (by omega)];omega
 go_wp2;go_ret;exact ⟨by rw [E.out];rfl,G2.out.1⟩
theorem mT(X:VA)(a1:OA)(l1 c1:Nat)(a2:OA)(l2 c2:Nat)(left:Nat)(w:World)(r1:Rd w 0 (aw X.ws) (.slice a1 l1 c1))(r2:Rd w 0 (ai X.bs) (.slice a2 l2 c2))(hl:left<= 1048576):
 Calls prog 159 #[.agg (aL X a1 l1 c1 a2 l2 c2).toArray,Vi (left:Int)] w fun e w'=>e=.returned (Vi (aH left (ax 6 (ac (aT X)))))/\Below w.heap.size w w':=by
 have HT:Hid (ax 6 (ac (aT X))=X.ws.length+X.bs.length):=by
  show _=_;simp only [db];try omega
 obtain ⟨t1,ht1⟩:∃ t:Nat,t=X.ws.length:=⟨_,rfl⟩
 obtain ⟨t2,ht2⟩:∃ t:Nat,t=X.bs.length:=⟨_,rfl⟩
 obtain ⟨W,hW⟩:∃ W,W=w.alloc (.cells (aL X a1 l1 c1 a2 l2 c2).toArray 187):=⟨_,rfl⟩
 have H0:Hid (Below w.heap.size w W/\ae W w.heap.size 187 (aL X a1 l1 c1 a2 l2 c2).toArray/\ax 6 (ac (aT X))=t1+t2/\Rd w 0 (aw X.ws) (.slice a1 l1 c1)/\Rd w 0 (ai X.bs) (.slice a2 l2 c2)):=⟨by rw [hW];exact aa _ _,by rw [hW];exact ae.new _ _ _,by rw [HT.out];omega,r1,r2⟩
 have K1:Hid (t1=X.ws.length):=ht1;have K2:Hid (t2=X.bs.length):=ht2;clear HT r1 r2 ht1 ht2;go_enter func159,ntmps159
 go_upto_region 1 with fail
 rw [<- hW];clear hW;have G0:Hid (Below w.heap.size w W/\ae W w.heap.size 187 (aL X a1 l1 c1 a2 l2 c2).toArray):=⟨H0.out.1,H0.out.2.1⟩
 have Q0:Hid (left<= 1048576/\left=left):=⟨hl,rfl⟩
 obtain ⟨⟨y0,y1,y2,y3,y4,y5⟩,yf⟩:=G0.out.2.tc6;clear yf;by_cases g1:t1<= left
 rotate_left
 ·have E:Hid (aH left (X.ws.length) = -1/\aH left (ax 6 (ac (aT X))) = -1):=by
   have h9:=Q0.out.2;have h8:=H0.out.2.2.1;refine ⟨?_,?_⟩
   ·rw [<- K1.out];unfold aH;rw [if_neg g1]
   rw [h8];unfold aH;rw [if_neg (by omega)]
  go_wp2_with fail
  refine (iz X.ws a1 l1 c1 left _ (H0.out.2.2.2.1.below G0.out.1) Q0.out.1).mono ?_;rintro e w9 ⟨rfl,b9⟩;rw [E.out.1];have B9:=af G0.out.1 b9;clear b9 y0 y1 y2 y3 y4 y5;go_wp2;go_ret;exact ⟨by rw [E.out.2];rfl,B9⟩
 obtain ⟨L1,hL1⟩:∃ m:Nat,m+t1=left:=⟨left-t1,by omega⟩
 have E1:Hid (aH left (X.ws.length)=(L1:Int)):=by
  show _=_;rw [<- K1.out];unfold aH;rw [if_pos g1];omega
 have n1:¬ ((L1:Int)<0):=by omega
 have Q1:Hid (L1<= 1048576/\L1+t1=left):=by
  have h9:=Q0.out;exact ⟨by omega,by omega⟩
 clear hL1 g1;go_wp2_with fail
 refine (iz X.ws a1 l1 c1 left _ (H0.out.2.2.2.1.below G0.out.1) Q0.out.1).mono ?_;rintro e w1 ⟨rfl,b1⟩;rw [E1.out];have G1:Hid (Below w.heap.size w w1/\ae w1 w.heap.size 187 (aL X a1 l1 c1 a2 l2 c2).toArray):=⟨af G0.out.1 b1,G0.out.2.below b1⟩
 clear b1 y0 y1 y2 y3 y4 y5;obtain ⟨⟨y0,y1,y2,y3,y4,y5⟩,yf⟩:=G1.out.2.tc6;clear yf;by_cases g2:t2<= L1
 rotate_left
 ·have E:Hid (aH L1 (X.bs.length) = -1/\aH left (ax 6 (ac (aT X))) = -1):=by
   have h9:=Q1.out.2;have h8:=H0.out.2.2.1;refine ⟨?_,?_⟩
   ·rw [<- K2.out];unfold aH;rw [if_neg g2]
   rw [h8];unfold aH;rw [if_neg (by omega)]
  go_wp2_with fail
  refine (fw X.bs a2 l2 c2 L1 _ (H0.out.2.2.2.2.below G1.out.1) Q1.out.1).mono ?_;rintro e w9 ⟨rfl,b9⟩;rw [E.out.1];have B9:=af G1.out.1 b9;clear b9 y0 y1 y2 y3 y4 y5;go_wp2;go_ret;exact ⟨by rw [E.out.2];rfl,B9⟩
 obtain ⟨L2,hL2⟩:∃ m:Nat,m+t2=L1:=⟨L1-t2,by omega⟩
 have E2:Hid (aH L1 (X.bs.length)=(L2:Int)):=by
  show _=_;rw [<- K2.out];unfold aH;rw [if_pos g2];omega
 have n2:¬ ((L2:Int)<0):=by omega
 have Q2:Hid (L2<= 1048576/\L2+t1+t2=left):=by
  have h9:=Q1.out;exact ⟨by omega,by omega⟩
 clear hL2 g2;go_wp2_with fail
 refine (fw X.bs a2 l2 c2 L1 _ (H0.out.2.2.2.2.below G1.out.1) Q1.out.1).mono ?_;rintro e w2 ⟨rfl,b2⟩;rw [E2.out];have G2:Hid (Below w.heap.size w w2/\ae w2 w.heap.size 187 (aL X a1 l1 c1 a2 l2 c2).toArray):=⟨af G1.out.1 b2,G1.out.2.below b2⟩
 clear b2 y0 y1 y2 y3 y4 y5
 have E:Hid (aH left (ax 6 (ac (aT X)))=(L2:Int)):=by
  have h9:=Q2.out.2;have h8:=H0.out.2.2.1;show _=_;rw [h8];unfold aH;rw [if_pos (by omega)];omega
 go_wp2;go_ret;exact ⟨by rw [E.out];rfl,G2.out.1⟩
theorem lU(n:Nat)(f:Nat->VA)(a:OA)(n' cap:Nat)(left:Nat)(w:World)(hs:Rd w 0 (.list 6 n (fun k=>ac (aT (f k)))) (.slice a n' cap))(hl:left<= 1048576):
 Calls prog 121 #[.slice a n' cap,Vi (left:Int)] w fun e w'=>e=.returned (Vi (aH left (Tr.list 6 n (fun k=>ac (aT (f k)))).sz))/\Below w.heap.size w w':=by
 obtain ⟨a9,c9,h9,-,hn⟩:=hs.shape;simp only [Value.slice.injEq] at h9;obtain ⟨-,rfl,-⟩:=h9;clear a9 c9;unfold maxLen at hn;have w1:IntKind.i64.wrap ((left:Int)-(n':Int))=(left:Int)-(n':Int):=by rw [IntKind.wrap_i64];omega
 obtain ⟨g,hg⟩:∃ g:Nat->Nat,g=fun k=>ax 6 (ac (aT (f k))):=⟨_,rfl⟩
 have HT:Hid ((Tr.list 6 n' (fun k=>ac (aT (f k)))).sz=n'+ag n' g):=by show _=_;rw [hg];exact Tr.sz_list _ _ _
 have HG:Hid (∀ k,g k=ax 6 (ac (aT (f k)))):=by show ∀ k,g k=_;intro k;rw [hg]
 clear hg;by_cases h0:n'<= left
 ·have h1:¬ ((left:Int)-(n':Int)<0):=by omega
  have HS:Hid (Rd w 0 (.list 6 n' (fun k=>ac (aT (f k)))) (.slice a n' cap)):=hs;have HL:Hid (left<= 1048576):=hl;clear hs hn;go_enter func121,ntmps121
  go_wp2;go_loopw [1,5] (fun lv i wr=>∃ k:Nat,k<= n'/\i=Vi k/\n'+ag k g<= left/\lv=Vi ((left:Int)-(n':Int)-(ag k g:Int))/\Below w.heap.size w wr) (fun _ i _=>n'-(intOf i).toNat)
  case atStart=>exact ⟨0,Nat.zero_le _,rfl,by simp [ag];omega,by simp [ag],Br⟩
  case round=>
   obtain ⟨k,hk,rfl,ht,rfl,hb⟩:=hrel;by_cases hlt:k<n'
   ·have hi:(k:Int)<(n':Int):=by omega
    obtain ⟨b,off,vs,rfl,_,hb0,hlen,hr,hrd⟩:=(HS.out.below hb).at hlt;obtain ⟨a1,c1,a2,c2,rfl,r1,r2⟩:=VA.cells hrd hlen;clear hlen hrd;have d0:wr.cell? ⟨b,off+k*6,none⟩=_:=hr 0 _ rfl;have d1:=hr 1 _ rfl;have d2:=hr 2 _ rfl;have d3:=hr 3 _ rfl;have d4:=hr 4 _ rfl;have d5:=hr 5 _ rfl;obtain ⟨lf,hlf⟩:∃ lf:Nat,(lf:Int)=(left:Int)-(n':Int)-(ag k g:Int):=⟨left-n'-ag k g,by omega⟩
    rw [<- hlf];obtain ⟨x,hx⟩:∃ x,x=g k:=⟨_,rfl⟩
    have HK:Hid ((lf:Int)=(left:Int)-(n':Int)-(ag k g:Int)/\lf<= 1048576/\ag (k+1) g=ag k g+x/\Below w.heap.size w wr/\x=ax 6 (ac (aT (f k)))/\Rd wr 0 (aw (f k).ws) (.slice a1 ((f k).ws.length) c1)/\Rd wr 0 (ai (f k).bs) (.slice a2 ((f k).bs.length) c2)):=⟨hlf,by have:=HL.out;omega,by rw [hx];rfl,hb,by rw [hx];exact HG.out k,r1,r2⟩
    clear hlf hb HS hx hr hb0 r1 r2;by_cases hf:x<= lf
    ·obtain ⟨lg,hlg⟩:∃ m:Nat,m+x=lf:=⟨lf-x,by omega⟩
     have hx0:¬ ((lg:Int)<0):=by omega
     have HF:Hid (aH lf (ax 6 (ac (aT (f k))))=(lg:Int)/\(lg:Int)=(left:Int)-(n':Int)-(ag (k+1) g:Int)/\n'+ag (k+1) g<= left):=by
      have h9:=HK.out;refine ⟨?_,?_,?_⟩
      ·rw [<- h9.2.2.2.2.1];unfold aH;rw [if_pos hf];omega
      ·omega
      omega
     clear ht hf hlg;go_wp2_with fail
     refine (mT (f k) a1 ((f k).ws.length) c1 a2 ((f k).bs.length) c2 lf _ HK.out.2.2.2.2.2.1 HK.out.2.2.2.2.2.2 HK.out.2.1).mono ?_;rintro e w2 ⟨rfl,b2⟩;rw [HF.out.1];have HB:Hid (Below w.heap.size w w2):=af HK.out.2.2.2.1 b2;clear b2 d0 d1 d2 d3 d4 d5;go_wp2;go_roundw
     case rel=>exact ⟨k+1,by omega,by go_num,HF.out.2.2,by rw [HF.out.2.1],HB.out⟩
     case measure=>simp [intOf];omega
    have HF:Hid (aH lf (ax 6 (ac (aT (f k)))) = -1/\aH left (Tr.list 6 n' (fun k=>ac (aT (f k)))).sz = -1):=by
     have h9:=HK.out;have h8:=eH g (show k+1<= n' by omega);have h7:=HT.out;refine ⟨?_,?_⟩
     ·rw [<- h9.2.2.2.2.1];unfold aH;rw [if_neg hf]
     rw [h7];unfold aH;rw [if_neg (by omega)]
    clear ht hf;go_wp2_with fail
    refine (mT (f k) a1 ((f k).ws.length) c1 a2 ((f k).bs.length) c2 lf _ HK.out.2.2.2.2.2.1 HK.out.2.2.2.2.2.2 HK.out.2.1).mono ?_;rintro e w2 ⟨rfl,b2⟩;rw [HF.out.1];have HB:Hid (Below w.heap.size w w2):=af HK.out.2.2.2.1 b2;clear b2 d0 d1 d2 d3 d4 d5;go_wp2;go_ret;exact ⟨(by rw [HF.out.2];rfl),HB.out⟩
   have hi:¬ (k:Int)<(n':Int):=by omega
   have e9:k=n':=by omega
   subst e9
   have HE:Hid (aH left (Tr.list 6 k (fun k=>ac (aT (f k)))).sz=(left:Int)-(k:Int)-(ag k g:Int)):=by
    show _=_;rw [HT.out];unfold aH;rw [if_pos ht];omega
   clear ht;go_wp2;go_ret;exact ⟨(by rw [HE.out];rfl),hb⟩
 have h1:(left:Int)-(n':Int)<0:=by omega
 have HE:Hid (aH left (Tr.list 6 n' (fun k=>ac (aT (f k)))).sz = -1):=by
  show _=_;rw [HT.out];unfold aH;rw [if_neg (by omega)]
 clear hs hn hl;go_enter func121,ntmps121
 go_wp2;go_ret;exact ⟨(by rw [HE.out];rfl),Br⟩
theorem mU(X:VP)(a1:OA)(l1 c1:Nat)(a2:OA)(l2 c2:Nat)(left:Nat)(w:World)(r1:Rd w 0 (aw X.q.ws) (.slice a1 l1 c1))(r2:Rd w 0 (ai X.q.bs) (.slice a2 l2 c2))(hl:left<= 1048576):
 Calls prog 158 #[.agg (pL X a1 l1 c1 a2 l2 c2).toArray,Vi (left:Int)] w fun e w'=>e=.returned (Vi (aH left (ax 8 (ac (pT X)))))/\Below w.heap.size w w':=by
 have HT:Hid (ax 8 (ac (pT X))=ax 6 (ac (qT X.q))):=by
  show _=_;simp only [dc,cC];try omega
 obtain ⟨t1,ht1⟩:∃ t:Nat,t=ax 6 (ac (qT X.q)):=⟨_,rfl⟩
 obtain ⟨W,hW⟩:∃ W,W=w.alloc (.cells (pL X a1 l1 c1 a2 l2 c2).toArray 185):=⟨_,rfl⟩
 have H0:Hid (Below w.heap.size w W/\ae W w.heap.size 185 (pL X a1 l1 c1 a2 l2 c2).toArray/\ax 8 (ac (pT X))=t1/\Rd w 0 (aw X.q.ws) (.slice a1 l1 c1)/\Rd w 0 (ai X.q.bs) (.slice a2 l2 c2)):=⟨by rw [hW];exact aa _ _,by rw [hW];exact ae.new _ _ _,by rw [HT.out];omega,r1,r2⟩
 have K1:Hid (t1=ax 6 (ac (qT X.q))):=ht1;clear HT r1 r2 ht1;go_enter func158,ntmps158
 go_upto_region 1 with fail
 rw [<- hW];clear hW;have G0:Hid (Below w.heap.size w W/\ae W w.heap.size 185 (pL X a1 l1 c1 a2 l2 c2).toArray):=⟨H0.out.1,H0.out.2.1⟩
 have Q0:Hid (left<= 1048576/\left=left):=⟨hl,rfl⟩
 obtain ⟨⟨y0,y1,y2,y3,y4,y5,y6,y7⟩,yf⟩:=G0.out.2.tc8;clear yf;by_cases g1:t1<= left
 rotate_left
 ·have E:Hid (aH left (ax 6 (ac (qT X.q))) = -1/\aH left (ax 8 (ac (pT X))) = -1):=by
   have h9:=Q0.out.2;have h8:=H0.out.2.2.1;refine ⟨?_,?_⟩
   ·rw [<- K1.out];unfold aH;rw [if_neg g1]
   rw [h8];unfold aH;rw [if_neg (by omega)]
  go_wp2_with fail
  refine (gy X.q a1 l1 c1 a2 l2 c2 left _ (H0.out.2.2.2.1.below G0.out.1) (H0.out.2.2.2.2.below G0.out.1) Q0.out.1).mono ?_;rintro e w9 ⟨rfl,b9⟩;rw [E.out.1];have B9:=af G0.out.1 b9;clear b9 y0 y1 y2 y3 y4 y5 y6 y7;go_wp2;go_ret;exact ⟨by rw [E.out.2];rfl,B9⟩
 obtain ⟨L1,hL1⟩:∃ m:Nat,m+t1=left:=⟨left-t1,by omega⟩
 have E1:Hid (aH left (ax 6 (ac (qT X.q)))=(L1:Int)):=by
  show _=_;rw [<- K1.out];unfold aH;rw [if_pos g1];omega
 have n1:¬ ((L1:Int)<0):=by omega
 have Q1:Hid (L1<= 1048576/\L1+t1=left):=by
  have h9:=Q0.out;exact ⟨by omega,by omega⟩
 clear hL1 g1;go_wp2_with fail
 refine (gy X.q a1 l1 c1 a2 l2 c2 left _ (H0.out.2.2.2.1.below G0.out.1) (H0.out.2.2.2.2.below G0.out.1) Q0.out.1).mono ?_;rintro e w1 ⟨rfl,b1⟩;rw [E1.out];have G1:Hid (Below w.heap.size w w1/\ae w1 w.heap.size 185 (pL X a1 l1 c1 a2 l2 c2).toArray):=⟨af G0.out.1 b1,G0.out.2.below b1⟩
 clear b1 y0 y1 y2 y3 y4 y5 y6 y7
 have E:Hid (aH left (ax 8 (ac (pT X)))=(L1:Int)):=by
  have h9:=Q1.out.2;have h8:=H0.out.2.2.1;show _=_;rw [h8];unfold aH;rw [if_pos (by omega)];omega
 go_wp2;go_ret;exact ⟨by rw [E.out];rfl,G1.out.1⟩
theorem lV(n:Nat)(f:Nat->VP)(a:OA)(n' cap:Nat)(left:Nat)(w:World)(hs:Rd w 0 (.list 8 n (fun k=>ac (pT (f k)))) (.slice a n' cap))(hl:left<= 1048576):
 Calls prog 119 #[.slice a n' cap,Vi (left:Int)] w fun e w'=>e=.returned (Vi (aH left (Tr.list 8 n (fun k=>ac (pT (f k)))).sz))/\Below w.heap.size w w':=by
 obtain ⟨a9,c9,h9,-,hn⟩:=hs.shape;simp only [Value.slice.injEq] at h9;obtain ⟨-,rfl,-⟩:=h9;clear a9 c9;unfold maxLen at hn;have w1:IntKind.i64.wrap ((left:Int)-(n':Int))=(left:Int)-(n':Int):=by rw [IntKind.wrap_i64];omega
 obtain ⟨g,hg⟩:∃ g:Nat->Nat,g=fun k=>ax 8 (ac (pT (f k))):=⟨_,rfl⟩
 have HT:Hid ((Tr.list 8 n' (fun k=>ac (pT (f k)))).sz=n'+ag n' g):=by show _=_;rw [hg];exact Tr.sz_list _ _ _
 have HG:Hid (∀ k,g k=ax 8 (ac (pT (f k)))):=by show ∀ k,g k=_;intro k;rw [hg]
 clear hg;by_cases h0:n'<= left
 ·have h1:¬ ((left:Int)-(n':Int)<0):=by omega
  have HS:Hid (Rd w 0 (.list 8 n' (fun k=>ac (pT (f k)))) (.slice a n' cap)):=hs;have HL:Hid (left<= 1048576):=hl;clear hs hn;go_enter func119,ntmps119
  go_wp2;go_loopw [1,5] (fun lv i wr=>∃ k:Nat,k<= n'/\i=Vi k/\n'+ag k g<= left/\lv=Vi ((left:Int)-(n':Int)-(ag k g:Int))/\Below w.heap.size w wr) (fun _ i _=>n'-(intOf i).toNat)
  case atStart=>exact ⟨0,Nat.zero_le _,rfl,by simp [ag];omega,by simp [ag],Br⟩
  case round=>
   obtain ⟨k,hk,rfl,ht,rfl,hb⟩:=hrel;by_cases hlt:k<n'
   ·have hi:(k:Int)<(n':Int):=by omega
    obtain ⟨b,off,vs,rfl,_,hb0,hlen,hr,hrd⟩:=(HS.out.below hb).at hlt;obtain ⟨a1,c1,a2,c2,rfl,r1,r2⟩:=VP.cells hrd hlen;clear hlen hrd;have d0:wr.cell? ⟨b,off+k*8,none⟩=_:=hr 0 _ rfl;have d1:=hr 1 _ rfl;have d2:=hr 2 _ rfl;have d3:=hr 3 _ rfl;have d4:=hr 4 _ rfl;have d5:=hr 5 _ rfl;have d6:=hr 6 _ rfl;have d7:=hr 7 _ rfl;obtain ⟨lf,hlf⟩:∃ lf:Nat,(lf:Int)=(left:Int)-(n':Int)-(ag k g:Int):=⟨left-n'-ag k g,by omega⟩
    rw [<- hlf];obtain ⟨x,hx⟩:∃ x,x=g k:=⟨_,rfl⟩
    have HK:Hid ((lf:Int)=(left:Int)-(n':Int)-(ag k g:Int)/\lf<= 1048576/\ag (k+1) g=ag k g+x/\Below w.heap.size w wr/\x=ax 8 (ac (pT (f k)))/\Rd wr 0 (aw (f k).q.ws) (.slice a1 ((f k).q.ws.length) c1)/\Rd wr 0 (ai (f k).q.bs) (.slice a2 ((f k).q.bs.length) c2)):=⟨hlf,by have:=HL.out;omega,by rw [hx];rfl,hb,by rw [hx];exact HG.out k,r1,r2⟩
    clear hlf hb HS hx hr hb0 r1 r2;by_cases hf:x<= lf
    ·obtain ⟨lg,hlg⟩:∃ m:Nat,m+x=lf:=⟨lf-x,by omega⟩
     have hx0:¬ ((lg:Int)<0):=by omega
     have HF:Hid (aH lf (ax 8 (ac (pT (f k))))=(lg:Int)/\(lg:Int)=(left:Int)-(n':Int)-(ag (k+1) g:Int)/\n'+ag (k+1) g<= left):=by
      have h9:=HK.out;refine ⟨?_,?_,?_⟩
      ·rw [<- h9.2.2.2.2.1];unfold aH;rw [if_pos hf];omega
      ·omega
      omega
     clear ht hf hlg;go_wp2_with fail
     refine (mU (f k) a1 ((f k).q.ws.length) c1 a2 ((f k).q.bs.length) c2 lf _ HK.out.2.2.2.2.2.1 HK.out.2.2.2.2.2.2 HK.out.2.1).mono ?_;rintro e w2 ⟨rfl,b2⟩;rw [HF.out.1];have HB:Hid (Below w.heap.size w w2):=af HK.out.2.2.2.1 b2;clear b2 d0 d1 d2 d3 d4 d5 d6 d7;go_wp2;go_roundw
     case rel=>exact ⟨k+1,by omega,by go_num,HF.out.2.2,by rw [HF.out.2.1],HB.out⟩
     case measure=>simp [intOf];omega
    have HF:Hid (aH lf (ax 8 (ac (pT (f k)))) = -1/\aH left (Tr.list 8 n' (fun k=>ac (pT (f k)))).sz = -1):=by
     have h9:=HK.out;have h8:=eH g (show k+1<= n' by omega);have h7:=HT.out;refine ⟨?_,?_⟩
     ·rw [<- h9.2.2.2.2.1];unfold aH;rw [if_neg hf]
     rw [h7];unfold aH;rw [if_neg (by omega)]
    clear ht hf;go_wp2_with fail
    refine (mU (f k) a1 ((f k).q.ws.length) c1 a2 ((f k).q.bs.length) c2 lf _ HK.out.2.2.2.2.2.1 HK.out.2.2.2.2.2.2 HK.out.2.1).mono ?_;rintro e w2 ⟨rfl,b2⟩;rw [HF.out.1];have HB:Hid (Below w.heap.size w w2):=af HK.out.2.2.2.1 b2;clear b2 d0 d1 d2 d3 d4 d5 d6 d7;go_wp2;go_ret;exact ⟨(by rw [HF.out.2];rfl),HB.out⟩
   have hi:¬ (k:Int)<(n':Int):=by omega
   have e9:k=n':=by omega
   subst e9
   have HE:Hid (aH left (Tr.list 8 k (fun k=>ac (pT (f k)))).sz=(left:Int)-(k:Int)-(ag k g:Int)):=by
    show _=_;rw [HT.out];unfold aH;rw [if_pos ht];omega
   clear ht;go_wp2;go_ret;exact ⟨(by rw [HE.out];rfl),hb⟩
 have h1:(left:Int)-(n':Int)<0:=by omega
 have HE:Hid (aH left (Tr.list 8 n' (fun k=>ac (pT (f k)))).sz = -1):=by
  show _=_;rw [HT.out];unfold aH;rw [if_neg (by omega)]
 clear hs hn hl;go_enter func119,ntmps119
 go_wp2;go_ret;exact ⟨(by rw [HE.out];rfl),Br⟩
theorem mV(X:VD)(a1:OA)(l1 c1:Nat)(a2:OA)(l2 c2:Nat)(a3:OA)(l3 c3:Nat)(a4:OA)(l4 c4:Nat)(a5:OA)(l5 c5:Nat)(left:Nat)(w:World)(r1:Rd w 0 (aw X.q.ws) (.slice a1 l1 c1))(r2:Rd w 0 (ai X.q.bs) (.slice a2 l2 c2))(r3:Rd w 0 (.list 8 X.np (fun i=>ac (pT (X.pt i)))) (.slice a3 l3 c3))(r4:Rd w 0 (ai X.hs) (.slice a4 l4 c4))(r5:Rd w 0 (.list 6 X.nt (fun i=>ac (aT (X.tl i)))) (.slice a5 l5 c5))(hl:left<= 1048576):
 Calls prog 77 #[.agg (dL X a1 l1 c1 a2 l2 c2 a3 l3 c3 a4 l4 c4 a5 l5 c5).toArray,Vi (left:Int)] w fun e w'=>e=.returned (Vi (aH left (ax 13 (ac (dT X)))))/\Below w.heap.size w w':=by
 have HT:Hid (ax 13 (ac (dT X))=ax 6 (ac (qT X.q))+(Tr.list 8 X.np (fun i=>ac (pT (X.pt i)))).sz+X.hs.length+(Tr.list 6 X.nt (fun i=>ac (aT (X.tl i)))).sz):=by
  show _=_;simp only [dd,cC];try omega
 obtain ⟨t1,ht1⟩:∃ t:Nat,t=ax 6 (ac (qT X.q)):=⟨_,rfl⟩
 obtain ⟨t2,ht2⟩:∃ t:Nat,t=(Tr.list 8 X.np (fun i=>ac (pT (X.pt i)))).sz:=⟨_,rfl⟩
 obtain ⟨t3,ht3⟩:∃ t:Nat,t=X.hs.length:=⟨_,rfl⟩
 obtain ⟨t4,ht4⟩:∃ t:Nat,t=(Tr.list 6 X.nt (fun i=>ac (aT (X.tl i)))).sz:=⟨_,rfl⟩
 obtain ⟨W,hW⟩:∃ W,W=w.alloc (.cells (dL X a1 l1 c1 a2 l2 c2 a3 l3 c3 a4 l4 c4 a5 l5 c5).toArray 116):=⟨_,rfl⟩
 have H0:Hid (Below w.heap.size w W/\ae W w.heap.size 116 (dL X a1 l1 c1 a2 l2 c2 a3 l3 c3 a4 l4 c4 a5 l5 c5).toArray/\ax 13 (ac (dT X))=t1+t2+t3+t4/\Rd w 0 (aw X.q.ws) (.slice a1 l1 c1)/\Rd w 0 (ai X.q.bs) (.slice a2 l2 c2)/\Rd w 0 (.list 8 X.np (fun i=>ac (pT (X.pt i)))) (.slice a3 l3 c3)/\Rd w 0 (ai X.hs) (.slice a4 l4 c4)/\Rd w 0 (.list 6 X.nt (fun i=>ac (aT (X.tl i)))) (.slice a5 l5 c5)):=⟨by rw [hW];exact aa _ _,by rw [hW];exact ae.new _ _ _,by rw [HT.out];omega,r1,r2,r3,r4,r5⟩
 have K1:Hid (t1=ax 6 (ac (qT X.q))):=ht1;have K2:Hid (t2=(Tr.list 8 X.np (fun i=>ac (pT (X.pt i)))).sz):=ht2;have K3:Hid (t3=X.hs.length):=ht3;have K4:Hid (t4=(Tr.list 6 X.nt (fun i=>ac (aT (X.tl i)))).sz):=ht4;clear HT r1 r2 r3 r4 r5 ht1 ht2 ht3 ht4;go_enter func77,ntmps77
 go_upto_region 1 with fail
 rw [<- hW];clear hW;have G0:Hid (Below w.heap.size w W/\ae W w.heap.size 116 (dL X a1 l1 c1 a2 l2 c2 a3 l3 c3 a4 l4 c4 a5 l5 c5).toArray):=⟨H0.out.1,H0.out.2.1⟩
 have Q0:Hid (left<= 1048576/\left=left):=⟨hl,rfl⟩
 obtain ⟨⟨y0,y1,y2,y3,y4,y5,y6,y7,y8,y9,y10,y11,y12⟩,yf⟩:=G0.out.2.tc13;clear yf;by_cases g1:t1<= left
 rotate_left
 ·have E:Hid (aH left (ax 6 (ac (qT X.q))) = -1/\aH left (ax 13 (ac (dT X))) = -1):=by
   have h9:=Q0.out.2;have h8:=H0.out.2.2.1;refine ⟨?_,?_⟩
   ·rw [<- K1.out];unfold aH;rw [if_neg g1]
   rw [h8];unfold aH;rw [if_neg (by omega)]
  go_wp2_with fail
  refine (gy X.q a1 l1 c1 a2 l2 c2 left _ (H0.out.2.2.2.1.below G0.out.1) (H0.out.2.2.2.2.1.below G0.out.1) Q0.out.1).mono ?_;rintro e w9 ⟨rfl,b9⟩;rw [E.out.1];have B9:=af G0.out.1 b9;clear b9 y0 y1 y2 y3 y4 y5 y6 y7 y8 y9 y10 y11 y12;go_wp2;go_ret;exact ⟨by rw [E.out.2];rfl,B9⟩
 obtain ⟨L1,hL1⟩:∃ m:Nat,m+t1=left:=⟨left-t1,by omega⟩
 have E1:Hid (aH left (ax 6 (ac (qT X.q)))=(L1:Int)):=by
  show _=_;rw [<- K1.out];unfold aH;rw [if_pos g1];omega
 have n1:¬ ((L1:Int)<0):=by omega
 have Q1:Hid (L1<= 1048576/\L1+t1=left):=by
  have h9:=Q0.out;exact ⟨by omega,by omega⟩
 clear hL1 g1;go_wp2_with fail
 refine (gy X.q a1 l1 c1 a2 l2 c2 left _ (H0.out.2.2.2.1.below G0.out.1) (H0.out.2.2.2.2.1.below G0.out.1) Q0.out.1).mono ?_;rintro e w1 ⟨rfl,b1⟩;rw [E1.out];have G1:Hid (Below w.heap.size w w1/\ae w1 w.heap.size 116 (dL X a1 l1 c1 a2 l2 c2 a3 l3 c3 a4 l4 c4 a5 l5 c5).toArray):=⟨af G0.out.1 b1,G0.out.2.below b1⟩
 clear b1 y0 y1 y2 y3 y4 y5 y6 y7 y8 y9 y10 y11 y12;obtain ⟨⟨y0,y1,y2,y3,y4,y5,y6,y7,y8,y9,y10,y11,y12⟩,yf⟩:=G1.out.2.tc13;clear yf;by_cases g2:t2<= L1
 rotate_left
 ·have E:Hid (aH L1 ((Tr.list 8 X.np (fun i=>ac (pT (X.pt i)))).sz) = -1/\aH left (ax 13 (ac (dT X))) = -1):=by
   have h9:=Q1.out.2;have h8:=H0.out.2.2.1;refine ⟨?_,?_⟩
   ·rw [<- K2.out];unfold aH;rw [if_neg g2]
   rw [h8];unfold aH;rw [if_neg (by omega)]
  go_wp2_with fail
  refine (lV X.np X.pt a3 l3 c3 L1 _ (H0.out.2.2.2.2.2.1.below G1.out.1) Q1.out.1).mono ?_;rintro e w9 ⟨rfl,b9⟩;rw [E.out.1];have B9:=af G1.out.1 b9;clear b9 y0 y1 y2 y3 y4 y5 y6 y7 y8 y9 y10 y11 y12;go_wp2;go_ret;exact ⟨by rw [E.out.2];rfl,B9⟩
 obtain ⟨L2,hL2⟩:∃ m:Nat,m+t2=L1:=⟨L1-t2,by omega⟩
 have E2:Hid (aH L1 ((Tr.list 8 X.np (fun i=>ac (pT (X.pt i)))).sz)=(L2:Int)):=by
  show _=_;rw [<- K2.out];unfold aH;rw [if_pos g2];omega
 have n2:¬ ((L2:Int)<0):=by omega
 have Q2:Hid (L2<= 1048576/\L2+t1+t2=left):=by
  have h9:=Q1.out;exact ⟨by omega,by omega⟩
 clear hL2 g2;go_wp2_with fail
 refine (lV X.np X.pt a3 l3 c3 L1 _ (H0.out.2.2.2.2.2.1.below G1.out.1) Q1.out.1).mono ?_;rintro e w2 ⟨rfl,b2⟩;rw [E2.out];have G2:Hid (Below w.heap.size w w2/\ae w2 w.heap.size 116 (dL X a1 l1 c1 a2 l2 c2 a3 l3 c3 a4 l4 c4 a5 l5 c5).toArray):=⟨af G1.out.1 b2,G1.out.2.below b2⟩
 clear b2 y0 y1 y2 y3 y4 y5 y6 y7 y8 y9 y10 y11 y12;obtain ⟨⟨y0,y1,y2,y3,y4,y5,y6,y7,y8,y9,y10,y11,y12⟩,yf⟩:=G2.out.2.tc13;clear yf;by_cases g3:t3<= L2
 rotate_left
 ·have E:Hid (aH L2 (X.hs.length) = -1/\aH left (ax 13 (ac (dT X))) = -1):=by
   have h9:=Q2.out.2;have h8:=H0.out.2.2.1;refine ⟨?_,?_⟩
   ·rw [<- K3.out];unfold aH;rw [if_neg g3]
   rw [h8];unfold aH;rw [if_neg (by omega)]
  go_wp2_with fail
  refine (fw X.hs a4 l4 c4 L2 _ (H0.out.2.2.2.2.2.2.1.below G2.out.1) Q2.out.1).mono ?_;rintro e w9 ⟨rfl,b9⟩;rw [E.out.1];have B9:=af G2.out.1 b9;clear b9 y0 y1 y2 y3 y4 y5 y6 y7 y8 y9 y10 y11 y12;go_wp2;go_ret;exact ⟨by rw [E.out.2];rfl,B9⟩
 obtain ⟨L3,hL3⟩:∃ m:Nat,m+t3=L2:=⟨L2-t3,by omega⟩
 have E3:Hid (aH L2 (X.hs.length)=(L3:Int)):=by
  show _=_;rw [<- K3.out];unfold aH;rw [if_pos g3];omega
 have n3:¬ ((L3:Int)<0):=by omega
 have Q3:Hid (L3<= 1048576/\L3+t1+t2+t3=left):=by
  have h9:=Q2.out;exact ⟨by omega,by omega⟩
 clear hL3 g3;go_wp2_with fail
 refine (fw X.hs a4 l4 c4 L2 _ (H0.out.2.2.2.2.2.2.1.below G2.out.1) Q2.out.1).mono ?_;rintro e w3 ⟨rfl,b3⟩;rw [E3.out];have G3:Hid (Below w.heap.size w w3/\ae w3 w.heap.size 116 (dL X a1 l1 c1 a2 l2 c2 a3 l3 c3 a4 l4 c4 a5 l5 c5).toArray):=⟨af G2.out.1 b3,G2.out.2.below b3⟩
 clear b3 y0 y1 y2 y3 y4 y5 y6 y7 y8 y9 y10 y11 y12;obtain ⟨⟨y0,y1,y2,y3,y4,y5,y6,y7,y8,y9,y10,y11,y12⟩,yf⟩:=G3.out.2.tc13;clear yf;by_cases g4:t4<= L3
 rotate_left
 ·have E:Hid (aH L3 ((Tr.list 6 X.nt (fun i=>ac (aT (X.tl i)))).sz) = -1/\aH left (ax 13 (ac (dT X))) = -1):=by
   have h9:=Q3.out.2;have h8:=H0.out.2.2.1;refine ⟨?_,?_⟩
   ·rw [<- K4.out];unfold aH;rw [if_neg g4]
   rw [h8];unfold aH;rw [if_neg (by omega)]
  go_wp2_with fail
  refine (lU X.nt X.tl a5 l5 c5 L3 _ (H0.out.2.2.2.2.2.2.2.below G3.out.1) Q3.out.1).mono ?_;rintro e w9 ⟨rfl,b9⟩;rw [E.out.1];have B9:=af G3.out.1 b9;clear b9 y0 y1 y2 y3 y4 y5 y6 y7 y8 y9 y10 y11 y12;go_wp2;go_ret;exact ⟨by rw [E.out.2];rfl,B9⟩
 obtain ⟨L4,hL4⟩:∃ m:Nat,m+t4=L3:=⟨L3-t4,by omega⟩
 have E4:Hid (aH L3 ((Tr.list 6 X.nt (fun i=>ac (aT (X.tl i)))).sz)=(L4:Int)):=by
  show _=_;rw [<- K4.out];unfold aH;rw [if_pos g4];omega
 have n4:¬ ((L4:Int)<0):=by omega
 have Q4:Hid (L4<= 1048576/\L4+t1+t2+t3+t4=left):=by
  have h9:=Q3.out;exact ⟨by omega,by omega⟩
 clear hL4 g4;go_wp2_with fail
 refine (lU X.nt X.tl a5 l5 c5 L3 _ (H0.out.2.2.2.2.2.2.2.below G3.out.1) Q3.out.1).mono ?_;rintro e w4 ⟨rfl,b4⟩;rw [E4.out];have G4:Hid (Below w.heap.size w w4/\ae w4 w.heap.size 116 (dL X a1 l1 c1 a2 l2 c2 a3 l3 c3 a4 l4 c4 a5 l5 c5).toArray):=⟨af G3.out.1 b4,G3.out.2.below b4⟩
 clear b4 y0 y1 y2 y3 y4 y5 y6 y7 y8 y9 y10 y11 y12
 have E:Hid (aH left (ax 13 (ac (dT X)))=(L4:Int)):=by
  have h9:=Q4.out.2;have h8:=H0.out.2.2.1;show _=_;rw [h8];unfold aH;rw [if_pos (by omega)];omega
 go_wp2;go_ret;exact ⟨by rw [E.out];rfl,G4.out.1⟩
theorem lW(n:Nat)(f:Nat->VD)(a:OA)(n' cap:Nat)(left:Nat)(w:World)(hs:Rd w 0 (.list 13 n (fun k=>ac (dT (f k)))) (.slice a n' cap))(hl:left<= 1048576):
 Calls prog 39 #[.slice a n' cap,Vi (left:Int)] w fun e w'=>e=.returned (Vi (aH left (Tr.list 13 n (fun k=>ac (dT (f k)))).sz))/\Below w.heap.size w w':=by
 obtain ⟨a9,c9,h9,-,hn⟩:=hs.shape;simp only [Value.slice.injEq] at h9;obtain ⟨-,rfl,-⟩:=h9;clear a9 c9;unfold maxLen at hn;have w1:IntKind.i64.wrap ((left:Int)-(n':Int))=(left:Int)-(n':Int):=by rw [IntKind.wrap_i64];omega
 obtain ⟨g,hg⟩:∃ g:Nat->Nat,g=fun k=>ax 13 (ac (dT (f k))):=⟨_,rfl⟩
 have HT:Hid ((Tr.list 13 n' (fun k=>ac (dT (f k)))).sz=n'+ag n' g):=by show _=_;rw [hg];exact Tr.sz_list _ _ _
 have HG:Hid (∀ k,g k=ax 13 (ac (dT (f k)))):=by show ∀ k,g k=_;intro k;rw [hg]
 clear hg;by_cases h0:n'<= left
 ·have h1:¬ ((left:Int)-(n':Int)<0):=by omega
  have HS:Hid (Rd w 0 (.list 13 n' (fun k=>ac (dT (f k)))) (.slice a n' cap)):=hs;have HL:Hid (left<= 1048576):=hl;clear hs hn;go_enter func39,ntmps39
  go_wp2;go_loopw [1,5] (fun lv i wr=>∃ k:Nat,k<= n'/\i=Vi k/\n'+ag k g<= left/\lv=Vi ((left:Int)-(n':Int)-(ag k g:Int))/\Below w.heap.size w wr) (fun _ i _=>n'-(intOf i).toNat)
  case atStart=>exact ⟨0,Nat.zero_le _,rfl,by simp [ag];omega,by simp [ag],Br⟩
  case round=>
   obtain ⟨k,hk,rfl,ht,rfl,hb⟩:=hrel;by_cases hlt:k<n'
   ·have hi:(k:Int)<(n':Int):=by omega
    obtain ⟨b,off,vs,rfl,_,hb0,hlen,hr,hrd⟩:=(HS.out.below hb).at hlt;obtain ⟨a1,c1,a2,c2,a3,c3,a4,c4,a5,c5,rfl,r1,r2,r3,r4,r5⟩:=VD.cells hrd hlen;clear hlen hrd;have d0:wr.cell? ⟨b,off+k*13,none⟩=_:=hr 0 _ rfl;have d1:=hr 1 _ rfl;have d2:=hr 2 _ rfl;have d3:=hr 3 _ rfl;have d4:=hr 4 _ rfl;have d5:=hr 5 _ rfl;have d6:=hr 6 _ rfl;have d7:=hr 7 _ rfl;have d8:=hr 8 _ rfl;have d9:=hr 9 _ rfl;have d10:=hr 10 _ rfl;have d11:=hr 11 _ rfl;have d12:=hr 12 _ rfl;obtain ⟨lf,hlf⟩:∃ lf:Nat,(lf:Int)=(left:Int)-(n':Int)-(ag k g:Int):=⟨left-n'-ag k g,by omega⟩
    rw [<- hlf];obtain ⟨x,hx⟩:∃ x,x=g k:=⟨_,rfl⟩
    have HK:Hid ((lf:Int)=(left:Int)-(n':Int)-(ag k g:Int)/\lf<= 1048576/\ag (k+1) g=ag k g+x/\Below w.heap.size w wr/\x=ax 13 (ac (dT (f k)))/\Rd wr 0 (aw (f k).q.ws) (.slice a1 ((f k).q.ws.length) c1)/\Rd wr 0 (ai (f k).q.bs) (.slice a2 ((f k).q.bs.length) c2)/\Rd wr 0 (.list 8 (f k).np (fun i=>ac (pT ((f k).pt i)))) (.slice a3 ((f k).np) c3)/\Rd wr 0 (ai (f k).hs) (.slice a4 ((f k).hs.length) c4)/\Rd wr 0 (.list 6 (f k).nt (fun i=>ac (aT ((f k).tl i)))) (.slice a5 ((f k).nt) c5)):=⟨hlf,by have:=HL.out;omega,by rw [hx];rfl,hb,by rw [hx];exact HG.out k,r1,r2,r3,r4,r5⟩
    clear hlf hb HS hx hr hb0 r1 r2 r3 r4 r5;by_cases hf:x<= lf
    ·obtain ⟨lg,hlg⟩:∃ m:Nat,m+x=lf:=⟨lf-x,by omega⟩
     have hx0:¬ ((lg:Int)<0):=by omega
     have HF:Hid (aH lf (ax 13 (ac (dT (f k))))=(lg:Int)/\(lg:Int)=(left:Int)-(n':Int)-(ag (k+1) g:Int)/\n'+ag (k+1) g<= left):=by
      have h9:=HK.out;refine ⟨?_,?_,?_⟩
      ·rw [<- h9.2.2.2.2.1];unfold aH;rw [if_pos hf];omega
      ·omega
      omega
     clear ht hf hlg;go_wp2_with fail
     refine (mV (f k) a1 ((f k).q.ws.length) c1 a2 ((f k).q.bs.length) c2 a3 ((f k).np) c3 a4 ((f k).hs.length) c4 a5 ((f k).nt) c5 lf _ HK.out.2.2.2.2.2.1 HK.out.2.2.2.2.2.2.1 HK.out.2.2.2.2.2.2.2.1 HK.out.2.2.2.2.2.2.2.2.1 HK.out.2.2.2.2.2.2.2.2.2 HK.out.2.1).mono ?_;rintro e w2 ⟨rfl,b2⟩;rw [HF.out.1];have HB:Hid (Below w.heap.size w w2):=af HK.out.2.2.2.1 b2;clear b2 d0 d1 d2 d3 d4 d5 d6 d7 d8 d9 d10 d11 d12;go_wp2;go_roundw
     case rel=>exact ⟨k+1,by omega,by go_num,HF.out.2.2,by rw [HF.out.2.1],HB.out⟩
     case measure=>simp [intOf];omega
    have HF:Hid (aH lf (ax 13 (ac (dT (f k)))) = -1/\aH left (Tr.list 13 n' (fun k=>ac (dT (f k)))).sz = -1):=by
     have h9:=HK.out;have h8:=eH g (show k+1<= n' by omega);have h7:=HT.out;refine ⟨?_,?_⟩
     ·rw [<- h9.2.2.2.2.1];unfold aH;rw [if_neg hf]
     rw [h7];unfold aH;rw [if_neg (by omega)]
    clear ht hf;go_wp2_with fail
    refine (mV (f k) a1 ((f k).q.ws.length) c1 a2 ((f k).q.bs.length) c2 a3 ((f k).np) c3 a4 ((f k).hs.length) c4 a5 ((f k).nt) c5 lf _ HK.out.2.2.2.2.2.1 HK.out.2.2.2.2.2.2.1 HK.out.2.2.2.2.2.2.2.1 HK.out.2.2.2.2.2.2.2.2.1 HK.out.2.2.2.2.2.2.2.2.2 HK.out.2.1).mono ?_;rintro e w2 ⟨rfl,b2⟩;rw [HF.out.1];have HB:Hid (Below w.heap.size w w2):=af HK.out.2.2.2.1 b2;clear b2 d0 d1 d2 d3 d4 d5 d6 d7 d8 d9 d10 d11 d12;go_wp2;go_ret;exact ⟨(by rw [HF.out.2];rfl),HB.out⟩
   have hi:¬ (k:Int)<(n':Int):=by omega
   have e9:k=n':=by omega
   subst e9
   have HE:Hid (aH left (Tr.list 13 k (fun k=>ac (dT (f k)))).sz=(left:Int)-(k:Int)-(ag k g:Int)):=by
    show _=_;rw [HT.out];unfold aH;rw [if_pos ht];omega
   clear ht;go_wp2;go_ret;exact ⟨(by rw [HE.out];rfl),hb⟩
 have h1:(left:Int)-(n':Int)<0:=by omega
 have HE:Hid (aH left (Tr.list 13 n' (fun k=>ac (dT (f k)))).sz = -1):=by
  show _=_;rw [HT.out];unfold aH;rw [if_neg (by omega)]
 clear hs hn hl;go_enter func39,ntmps39
 go_wp2;go_ret;exact ⟨(by rw [HE.out];rfl),Br⟩
theorem lX(X:VT)(a1:OA)(l1 c1:Nat)(left:Nat)(w:World)(r1:Rd w 0 (.list 13 X.m (fun i=>ac (dT (X.f i)))) (.slice a1 l1 c1))(hl:left<= 1048576):
 Calls prog 16 #[.agg (tL X a1 l1 c1).toArray,Vi (left:Int)] w fun e w'=>e=.returned (Vi (aH left (ax 2 (ac (tT X)))))/\Below w.heap.size w w':=by
 have HT:Hid (ax 2 (ac (tT X))=(Tr.list 13 X.m (fun i=>ac (dT (X.f i)))).sz):=by
  show _=_;simp only [cQ];try omega
 obtain ⟨t1,ht1⟩:∃ t:Nat,t=(Tr.list 13 X.m (fun i=>ac (dT (X.f i)))).sz:=⟨_,rfl⟩
 obtain ⟨W,hW⟩:∃ W,W=w.alloc (.cells (tL X a1 l1 c1).toArray 27):=⟨_,rfl⟩
 have H0:Hid (Below w.heap.size w W/\ae W w.heap.size 27 (tL X a1 l1 c1).toArray/\ax 2 (ac (tT X))=t1/\Rd w 0 (.list 13 X.m (fun i=>ac (dT (X.f i)))) (.slice a1 l1 c1)):=⟨by rw [hW];exact aa _ _,by rw [hW];exact ae.new _ _ _,by rw [HT.out];omega,r1⟩
 have K1:Hid (t1=(Tr.list 13 X.m (fun i=>ac (dT (X.f i)))).sz):=ht1;clear HT r1 ht1;go_enter func16,ntmps16
 go_upto_region 1 with fail
 rw [<- hW];clear hW;have G0:Hid (Below w.heap.size w W/\ae W w.heap.size 27 (tL X a1 l1 c1).toArray):=⟨H0.out.1,H0.out.2.1⟩
 have Q0:Hid (left<= 1048576/\left=left):=⟨hl,rfl⟩
 obtain ⟨⟨y0,y1⟩,yf⟩:=G0.out.2.tc2;clear yf;by_cases g1:t1<= left
 rotate_left
 ·have E:Hid (aH left ((Tr.list 13 X.m (fun i=>ac (dT (X.f i)))).sz) = -1/\aH left (ax 2 (ac (tT X))) = -1):=by
   have h9:=Q0.out.2;have h8:=H0.out.2.2.1;refine ⟨?_,?_⟩
   ·rw [<- K1.out];unfold aH;rw [if_neg g1]
   rw [h8];unfold aH;rw [if_neg (by omega)]
  go_wp2_with fail
  refine (lW X.m X.f a1 l1 c1 left _ (H0.out.2.2.2.below G0.out.1) Q0.out.1).mono ?_;rintro e w9 ⟨rfl,b9⟩;rw [E.out.1];have B9:=af G0.out.1 b9;clear b9 y0 y1;go_wp2;go_ret;exact ⟨by rw [E.out.2];rfl,B9⟩
 obtain ⟨L1,hL1⟩:∃ m:Nat,m+t1=left:=⟨left-t1,by omega⟩
 have E1:Hid (aH left ((Tr.list 13 X.m (fun i=>ac (dT (X.f i)))).sz)=(L1:Int)):=by
  show _=_;rw [<- K1.out];unfold aH;rw [if_pos g1];omega
 have n1:¬ ((L1:Int)<0):=by omega
 have Q1:Hid (L1<= 1048576/\L1+t1=left):=by
  have h9:=Q0.out;exact ⟨by omega,by omega⟩
 clear hL1 g1;go_wp2_with fail
 refine (lW X.m X.f a1 l1 c1 left _ (H0.out.2.2.2.below G0.out.1) Q0.out.1).mono ?_;rintro e w1 ⟨rfl,b1⟩;rw [E1.out];have G1:Hid (Below w.heap.size w w1/\ae w1 w.heap.size 27 (tL X a1 l1 c1).toArray):=⟨af G0.out.1 b1,G0.out.2.below b1⟩
 clear b1 y0 y1
 have E:Hid (aH left (ax 2 (ac (tT X)))=(L1:Int)):=by
  have h9:=Q1.out.2;have h8:=H0.out.2.2.1;show _=_;rw [h8];unfold aH;rw [if_pos (by omega)];omega
 go_wp2;go_ret;exact ⟨by rw [E.out];rfl,G1.out.1⟩
end Go.Proofs.YtohikbpolofklaaGreat
