/- Texts that the proof needs, joined: FbA Sw5 Nog Lz. -/
import Derived.Test.YtohikbpolofklaaGreatY26
import Derived.Test.YtohikbpolofklaaGreatY28
import Derived.Test.YtohikbpolofklaaGreatY7
import Derived.Maps.AppendAt
import Derived.Deep.Upon
import Derived.ArgAppend
import Derived.Lib.AppendZeros
import Derived.Test.YtohikbpolofklaaGreatY29
import Derived.Test.YtohikbpolofklaaGreatY17
import Derived.Test.YtohikbpolofklaaGreatY25
import Derived.Test.YtohikbpolofklaaGreatY24
set_option linter.unusedVariables false
set_option linter.unusedSimpArgs false
set_option maxHeartbeats 8000000
set_option maxRecDepth 20000
namespace Go.Proofs.YtohikbpolofklaaGreat
open Go.RowKit Go.Joins Go.Proofs.Tryz
abbrev ie:Array Value:=#[Vi 0,Vi 0,Vi 0,Zs,Vi 0,Zs,Zs,Vi 0,Vi 0,Vi 0,Vi 0]
theorem uS(w:World)(B:Nat)(hB:B<= w.heap.size):(w.alloc (.cells #[] 61)).ownsRow B 61 7 (.slice (some ⟨w.heap.size,0,none⟩) 0 0) 0 []:=
 ⟨rfl,.inr ⟨w.heap.size,0,#[],rfl,hB,ae.new w #[] _,Nl,Nat.zero_le _,rfl,rfl⟩⟩
theorem sY(ty:TypeId)(B ad:Nat)(a:OA)(n c:Nat)(f:Nat->Ru)(w:World)(h:w.ownsRow B 61 7 (.slice (some ⟨ad,0,none⟩) 0 0) 0 [])(hs:dU w a n f)(hn:n<= 2000000)(hB:B<= w.heap.size):
 ∃ v' w',(Builtin.append_ #[33,33] ty #[.slice (some ⟨ad,0,none⟩) 0 0,.slice a n c]).run prog w=.ok v' w'/\w'.ownsRow B 61 7 v' n (fi 7 n (fun k=>cG (f k)))/\Below w.heap.size w w':=by
 obtain ⟨i0,hi0,hzz⟩:=Option.map_eq_some_iff.1 Tryz.info61;simp only [Prod.mk.injEq] at hzz;obtain ⟨hz0,hz1,hz2⟩:=hzz;by_cases n0:n=0
 ·subst n0
  have hr:(Builtin.append_ #[33,33] ty #[.slice (some ⟨ad,0,none⟩) 0 0,.slice a 0 c]).run prog w=.ok (.slice (some ⟨ad,0,none⟩) 0 0) w:=by
   cases a with
   |none=>exact run_append_nothing w 33 33 ty 61 i0 underlying33 hi0 _ 0 0 Nl _ (Src.ofNil w underlying33 c)
   |some a=>exact run_append_room_cells w 33 ty 61 i0 underlying33 hi0 ad 0 0 0 a 0 c [] (by simp) (fun j u hu=>by simp at hu) (fun u hu=>by simp at hu) Nl (fun j hj=>by simp at hj) (fun j hj=>by simp at hj)
  exact ⟨_,_,hr,h,Br⟩
 cases a with
 |none=>
  rcases hs with h0|⟨b,off,e,_⟩
  ·exact absurd h0 n0
  cases e
 |some a=>
  obtain ⟨v',w',hrun,r1,r2⟩:=run_append_arg_grows (P:=prog) w 33 ty 61 i0 _ 7 56 underlying33 hi0 hz0 hz1 hz2 rfl (by decide) ⟨ad,0,none⟩ 0 0 [] rfl (fun j u hj=>by simp at hj) a n c (fi 7 n (fun k=>cG (f k))) (dt _ _ _) (fun j u hu=>by
   rcases hs with h0|⟨b,off,e,_,hc⟩
   ·exact absurd h0 n0
   obtain rfl:=Option.some.inj e;exact lY (s:=7) (F:=fun k=>cG (f k)) (by decide) (fun k _=>rfl) hc j u hu) (by omega) (by unfold maxLen;omega) (by omega)
  refine ⟨v',w',hrun,⟨by rw [dt],?_⟩,rP r2⟩
  rcases r1.2 with ⟨q1,q2⟩|⟨g,cap',cur,q1,q2,q3⟩
  ·exact .inl ⟨q1,by omega⟩
  refine .inr ⟨g,cap',cur,by rw [q1,Nat.zero_add],by omega,?_⟩;rw [Nat.zero_add] at q3;exact q3
theorem sZ(s n:Nat)(F:Nat->List Value)(hs:0<s)(hF:∀ k,k<n->(F k).length=s):fi s n F=(List.range n).flatMap F:=by
 refine List.ext_getElem? fun i=>?_
 by_cases hi:i<n*s
 ·have h1:i / s<n:=Nat.div_lt_of_lt_mul (by rw [Nat.mul_comm];exact hi)
  have h2:i % s<s:=Nat.mod_lt _ hs;have h3:i / s*s+i % s=i:=by rw [Nat.mul_comm];exact Nat.div_add_mod i s
  have e1:=jP (F:=F) h1 h2 (hF _ h1);have e2:=jy F s n hF (i / s) (i % s) h1 h2;rw [h3] at e1 e2;rw [e1,e2]
 rw [List.getElem?_eq_none (by rw [dt];omega),List.getElem?_eq_none (by rw [kh F s n hF];omega)]
theorem s8(w:World)(base:Nat)(v:Value)(X:Ru):ki w base v (aR X) (cG X):=
 ⟨fun _=>.leaf,fun i u hu=>by
  match i,hu with
  |0,hu=>obtain rfl:=sj hu;exact ⟨⟨rfl,rfl⟩,fun b hb=>hb.elim⟩
  |1,hu=>obtain rfl:=sj hu;exact ⟨⟨rfl,rfl⟩,fun b hb=>hb.elim⟩
  |2,hu=>obtain rfl:=sj hu;exact ⟨⟨rfl,rfl⟩,fun b hb=>hb.elim⟩
  |3,hu=>obtain rfl:=sj hu;exact ⟨⟨rfl,rfl⟩,fun b hb=>hb.elim⟩
  |4,hu=>obtain rfl:=sj hu;exact ⟨⟨rfl,rfl⟩,fun b hb=>hb.elim⟩
  |5,hu=>obtain rfl:=sj hu;exact ⟨⟨rfl,rfl⟩,fun b hb=>hb.elim⟩
  |6,hu=>obtain rfl:=sj hu;exact ⟨⟨rfl,rfl⟩,fun b hb=>hb.elim⟩
  |i+7,hu=>simp at hu⟩
theorem s9{w:World}{base n:Nat}{v:Value}{f:Nat->Ru}(h:w.ownsRow base 61 7 v n (fi 7 n (fun k=>cG (f k)))):bE w base 61 7 v n (fun k=>aR (f k)):=by
 rw [sZ 7 n _ (by decide) (fun k _=>rfl)] at h;exact ⟨fun k=>cG (f k),h,fun k _=>⟨rfl,s8 _ _ _ _⟩⟩
def rc(w:World)(v x v':Value)(w':World):Prop:=(Builtin.append_ #[33,33] 33 #[v,x]).run prog w=.ok v' w'
theorem kH{ops:Array Oper}{rest:List Oper}{o:Oper}{a:Act}{w w':World}{Q:Exit->Act->World->Prop}(hgd:o.guard=none)(s x:Operand)(hop:o.op=.call { callee:=.builtin .append,args:=#[s,x],argTypes:=#[33,33] })(hty:o.type=33)(v1 v2 v:Value)(hs:a.eval s=v1)(hx:a.eval x=v2)(hr:rc w v1 v2 v w')(h:wpList prog ops Q rest (a.put o.dst v) w'):wpList prog ops Q (o:: rest) a w:=by
 refine wpList_plain hgd fun K hK=>?_
 unfold rc at hr;unfold Oper.wp execOp;simp only [hop,resolve,invoke,builtin,Sem.run_bind,Sem.run_pure,Result.andThen_ok,List.map_toArray,List.map_cons,List.map_nil,hs,hx,hty,hr];exact hK _ _ h
theorem mh{w:World}{a:OA}{n c:Nat}{f:Nat->Ru}{B:Nat}(r:Rd w 0 (.list 7 n (fun i=>ac (aR (f i)))) (.slice a n c))(hn:n<= 2000000)(hB:B=w.heap.size):
 ∃ b d w',rc (w.alloc (.cells #[] 61)) (.slice (some ⟨B,0,none⟩) 0 0) (.slice a n c) (.slice b n d) w'/\Fl w' B [.list 7 n (fun i=>ac (aR (f i)))] [.slice b n d]/\Below w.heap.size w w':=by
 subst hB;obtain ⟨v,w',h1,h2,h3⟩:=sY 33 w.heap.size w.heap.size a n c f _ (uS w _ Nl) ((r.below (aa w (.cells #[] 61))).slu.2) hn (by simp);have L:=s9 h2;obtain ⟨b,d,rfl⟩:=L.shape;exact ⟨b,d,w',h1,L.fl,af (aa w _) h3⟩
theorem tb(X:VN)(b1:OA)(l1 d1:Nat)(b2:OA)(l2 d2:Nat)(b3:OA)(l3 d3:Nat)(w:World):(Instr.buildSlice 39 1 #[(0,.agg (bj X b1 l1 d1 b2 l2 d2 b3 l3 d3).toArray)]).run prog w=.ok (.slice (some ⟨w.heap.size,0,none⟩) 1 1) (w.alloc (.cells (bj X b1 l1 d1 b2 l2 d2 b3 l3 d3).toArray 90)):=by kernel_rfl
theorem rg(X:VF)(a1:OA)(l1 c1:Nat)(a2:OA)(l2 c2:Nat)(a3:OA)(l3 c3:Nat)(w:World)(r1:Rd w 0 (.list 7 X.set.n (fun i=>ac (aR (X.set.f i)))) (.slice a1 l1 c1))(r2:Rd w 0 (.list 13 X.op.m (fun i=>ac (dT (X.op.f i)))) (.slice a2 l2 c2))(r3:Rd w 0 (.list 17 X.nl (fun i=>ac (aN (X.lf i)))) (.slice a3 l3 c3))(hz:ax 11 (ac (aX X))<= 1048576):
 Calls prog 18 #[.agg (aq X a1 l1 c1 a2 l2 c2 a3 l3 c3).toArray] w fun e w'=>∃ b1 d1 b2 d2 b3 d3,e=.returned (.agg (aq X b1 X.set.n d1 b2 X.op.m d2 b3 X.nl d3).toArray)/\Fl w' w.heap.size (aX X) (aq X b1 X.set.n d1 b2 X.op.m d2 b3 X.nl d3)/\Below w.heap.size w w':=by
 obtain ⟨_,_,h9,-,-⟩:=r1.shape;simp only [Value.slice.injEq] at h9;obtain ⟨-,rfl,-⟩:=h9;obtain ⟨_,_,h9,-,-⟩:=r2.shape;simp only [Value.slice.injEq] at h9;obtain ⟨-,rfl,-⟩:=h9;obtain ⟨_,_,h9,-,hn⟩:=r3.shape;simp only [Value.slice.injEq] at h9;obtain ⟨-,rfl,-⟩:=h9
 have HZ:Hid (X.set.n<= 1048576/\(Tr.list 13 X.op.m (fun i=>ac (dT (X.op.f i)))).sz<= 1048576/\X.nl<= 1048576/\∀ k,k<X.nl->ax 17 (ac (aN (X.lf k)))<= 1048576):=by
  rw [eg,jx] at hz;have hz3:(Tr.list 17 X.nl (fun i=>ac (aN (X.lf i)))).sz<= 1048576:=by omega
  rw [Tr.sz_list] at hz3;refine ⟨by omega,by omega,by omega,fun k hk=>?_⟩
  have:=ci (fun k=>ax 17 (ac (aN (X.lf k)))) hk;omega
 have hn1:=HZ.out.2.2.1;obtain ⟨B,hB⟩:∃ B,B=w.heap.size:=⟨_,rfl⟩
 have HB:Hid (w.heap.size=B):=hB.symm;obtain ⟨W,hW⟩:∃ W,W=((w.alloc (.cells (aq X a1 X.set.n c1 a2 X.op.m c2 a3 X.nl c3).toArray 41)).alloc (.cells ie 41)).alloc (.cells (aq X a1 X.set.n c1 a2 X.op.m c2 a3 X.nl c3).toArray 41):=⟨_,rfl⟩
 have HS:Hid (Rd w 0 (.list 7 X.set.n (fun i=>ac (aR (X.set.f i)))) (.slice a1 X.set.n c1)/\Rd w 0 (.list 13 X.op.m (fun i=>ac (dT (X.op.f i)))) (.slice a2 X.op.m c2)/\Rd w 0 (.list 17 X.nl (fun i=>ac (aN (X.lf i)))) (.slice a3 X.nl c3)/\X.nl<= maxLen):=⟨r1,r2,r3,hn⟩
 have G0:Hid (Below w.heap.size w W/\ae W B 41 (aq X a1 X.set.n c1 a2 X.op.m c2 a3 X.nl c3).toArray/\ae W (B+1) 41 ie/\ae W (B+2) 41 (aq X a1 X.set.n c1 a2 X.op.m c2 a3 X.nl c3).toArray/\W.heap.size=B+3):=by
  refine ⟨?_,?_,?_,?_,?_⟩
  ·rw [hW];exact af (af (aa w _) (aa _ _)) (aa _ _)
  ·rw [hW,hB];exact ((ae.new w _ _).below (aa _ _)).below (aa _ _)
  ·rw [hW,hB];have:=(ae.new (w.alloc (.cells (aq X a1 X.set.n c1 a2 X.op.m c2 a3 X.nl c3).toArray 41)) ie 41).below (aa _ (.cells (aq X a1 X.set.n c1 a2 X.op.m c2 a3 X.nl c3).toArray 41));simpa using this
  ·rw [hW,hB];have:=ae.new ((w.alloc (.cells (aq X a1 X.set.n c1 a2 X.op.m c2 a3 X.nl c3).toArray 41)).alloc (.cells ie 41)) (aq X a1 X.set.n c1 a2 X.op.m c2 a3 X.nl c3).toArray 41;simpa using this
  rw [hW,hB];simp
 obtain ⟨⟨y0,y1,y2,y3,y4,y5,y6,y7,y8,y9,y10⟩,-⟩:=((ae.new w (aq X a1 X.set.n c1 a2 X.op.m c2 a3 X.nl c3).toArray 41).below (aa _ (.cells ie 41))).tc11;clear r1 r2 r3 hz hn;go_enter func18,ntmps18
 go_upto_region 2 with fail
 clear y0 y1 y2 y3 y4 y5 y6 y7 y8 y9 y10;have hB1:w.heap.size+1=B+1:=by omega
 have hB2:w.heap.size+1+1=B+2:=by omega
 rw [<- hW,hB2,hB1,<- hB];clear hW hB hB1 hB2;obtain ⟨b1,d1,w1,h1,o1,hb1⟩:=mh (B:=B+3) (HS.out.1.below G0.out.1) (by have:=HZ.out.1;omega) G0.out.2.2.2.2.symm;have HA:Hid (rc (W.alloc (.cells #[] 61)) (.slice (some ⟨B+3,0,none⟩) 0 0) (.slice a1 X.set.n c1) (.slice b1 X.set.n d1) w1):=h1;obtain ⟨⟨y0,y1,y2,y3,y4,y5,y6,y7,y8,y9,y10⟩,-⟩:=(G0.out.2.1.below (aa W (.cells #[] 61))).tc11;obtain ⟨⟨z0,z1,z2,z3,z4,z5,z6,z7,z8,z9,bM⟩,zf⟩:=(G0.out.2.2.2.1.below hb1).tc11;have g3:=zf 3;have hs3:=G0.out.2.2.2.2;clear h1 zf;go_upto_region 3 with (at_builtin;refine kH rfl (.tmp 6) (.tmp 9) rfl rfl (.slice (some ⟨B+3,0,none⟩) 0 0) (.slice a1 X.set.n c1) (.slice b1 X.set.n d1) rfl rfl HA.out ?_)
 obtain ⟨W1,hX⟩:∃ z,z=aF w1 (B+2) 3 [.slice b1 X.set.n d1]:=⟨_,rfl⟩
 have G1:Hid (Below w.heap.size w W1/\ae W1 B 41 (aq X a1 X.set.n c1 a2 X.op.m c2 a3 X.nl c3).toArray/\ae W1 (B+1) 41 ie/\ae W1 (B+2) 41 (aq X b1 X.set.n d1 a2 X.op.m c2 a3 X.nl c3).toArray/\B+3<= W1.heap.size/\cH W1 (B+3) W1.heap.size [.list 7 X.set.n (fun i=>ac (aR (X.set.f i)))] [.slice b1 X.set.n d1]):=by
  have gs:w1.grownBy W1 (some (B+2)):=by rw [hX];exact bf _ _ _
  have s1:=hb1.size;have s2:=gs.size;have s3:=G0.out.2.2.2.2;have s4:=HB.out;exact ⟨by rw [hX];exact aD (by omega) _ _ _ (af G0.out.1 hb1),by rw [hX];exact ae.stNe (by omega) _ _ (G0.out.2.1.below hb1),by rw [hX];exact ae.stNe (by omega) _ _ (G0.out.2.2.1.below hb1),by rw [hX];exact ae.wr (G0.out.2.2.2.1.below hb1) (by simp [bO]),by omega,(o1.r.grow gs (fun j hj=>.inl (by have:=Option.some.inj hj;omega)) Nl).mono Nl (by omega)⟩
 simp only [aF,Nat.reduceAdd,Nat.zero_add] at hX;rw [<- hX];clear hX y0 y1 y2 y3 y4 y5 y6 y7 y8 y9 y10 z0 z1 z2 z3 z4 z5 z6 z7 z8 z9 bM g3 hs3 HA hb1 o1 G0;obtain ⟨⟨y0,y1,y2,y3,y4,y5,y6,y7,y8,y9,y10⟩,-⟩:=G1.out.2.1.tc11;go_wp2_with fail
 refine (qV X.op.nx X.op.m X.op.f a2 _ c2 _ (HS.out.2.1.below G1.out.1) HZ.out.2.1).mono ?_;rintro e w2 ⟨b2,d2,rfl,q,hb⟩;obtain ⟨⟨z0,z1,z2,z3,z4,z5,z6,z7,z8,z9,bM⟩,zf⟩:=(G1.out.2.2.2.1.below hb).tc11;clear y0 y1 y2 y3 y4 y5 y6 y7 y8 y9 y10;have g4:=zf 4;have g5:=zf 5;obtain ⟨W2,hX⟩:∃ z,z=aF w2 (B+2) 4 [Vi X.op.nx,.slice b2 X.op.m d2]:=⟨_,rfl⟩
 obtain ⟨M,hM⟩:∃ M,M=W2.heap.size:=⟨_,rfl⟩
 have G2:Hid (Below w.heap.size w W2/\ae W2 B 41 (aq X a1 X.set.n c1 a2 X.op.m c2 a3 X.nl c3).toArray/\ae W2 (B+1) 41 ie/\ae W2 (B+2) 41 (aq X b1 X.set.n d1 b2 X.op.m d2 a3 X.nl c3).toArray/\B+3<= M/\M=W2.heap.size/\cH W2 (B+3) M [.list 7 X.set.n (fun i=>ac (aR (X.set.f i)))] [.slice b1 X.set.n d1]/\cH W2 (B+3) M [.list 13 X.op.m (fun i=>ac (dT (X.op.f i)))] [.slice b2 X.op.m d2]):=by
  have gs:w2.grownBy W2 (some (B+2)):=by rw [hX];exact bf _ _ _
  have s1:=hb.size;have s2:=gs.size;have s3:=G1.out.2.2.2.2.1;have s4:=HB.out;have f1:=(G1.out.2.2.2.2.2.below hb Nl).grow gs (fun j hj=>.inl (by have:=Option.some.inj hj;omega)) (by omega);have f2:=((q.fl.mono (lo':=B+3) (by omega)).r.grow gs (fun j hj=>.inl (by have:=Option.some.inj hj;omega)) Nl)
  exact ⟨by rw [hX];exact aD (by omega) _ _ _ (af G1.out.1 hb),by rw [hX];exact ae.stNe (by omega) _ _ (G1.out.2.1.below hb),by rw [hX];exact ae.stNe (by omega) _ _ (G1.out.2.2.1.below hb),by rw [hX];exact ae.wr (G1.out.2.2.2.1.below hb) (by simp [bO]),by omega,hM,f1.mono Nl (by omega),f2.mono Nl (by omega)⟩
 simp only [aF,Nat.reduceAdd,Nat.zero_add] at hX;clear hb q G1;go_upto_region 4 with fail
 rw [<- hX];clear hX zf z0 z1 z2 z3 z4 z5 z6 z7 z8 z9 bM g4 g5;obtain ⟨⟨z0,z1,z2,z3,z4,z5,z6,z7,z8,z9,bM⟩,zf⟩:=(G2.out.2.2.2.1.below (aa W2 (.cells #[] 90))).tc11;have g6:=zf 6;clear zf;go_upto_region 6 with fail
 rw [<- hM];obtain ⟨W3,hX⟩:∃ z,z=aF (W2.alloc (.cells #[] 90)) (B+2) 6 [.slice (some ⟨M,0,none⟩) 0 0]:=⟨_,rfl⟩
 have HH0:Hid (bE W3 M 90 17 (.slice (some ⟨M,0,none⟩) 0 0) 0 (fun i=>aN (X.lf i))/\ae W3 (B+2) 41 (aq X b1 X.set.n d1 b2 X.op.m d2 (some ⟨M,0,none⟩) 0 0).toArray/\ae W3 B 41 (aq X a1 X.set.n c1 a2 X.op.m c2 a3 X.nl c3).toArray/\ae W3 (B+1) 41 ie/\Below w.heap.size w W3/\M<= W3.heap.size/\cH W3 (B+3) M [.list 7 X.set.n (fun i=>ac (aR (X.set.f i)))] [.slice b1 X.set.n d1]/\cH W3 (B+3) M [.list 13 X.op.m (fun i=>ac (dT (X.op.f i)))] [.slice b2 X.op.m d2]):=by
  have b1:Below W2.heap.size W2 (W2.alloc (.cells #[] 90)):=aa _ _;have gs:(W2.alloc (.cells #[] 90)).grownBy W3 (some (B+2)):=by rw [hX];exact bf _ _ _
  have s4:=HB.out;have s5:=G2.out.2.2.2.2.1;have s6:=b1.size;have L0:bE (W2.alloc (.cells #[] 90)) M 90 17 (.slice (some ⟨M,0,none⟩) 0 0) 0 (fun i=>aN (X.lf i)):=by rw [hM];exact bE.new _ _ _ _ _ Nl
  exact ⟨L0.keptLo gs (by omega),by rw [hX];exact ae.wr (G2.out.2.2.2.1.below b1) (by simp [bO]),by rw [hX];exact ae.stNe (by omega) _ _ (G2.out.2.1.below b1),by rw [hX];exact ae.stNe (by omega) _ _ (G2.out.2.2.1.below b1),by rw [hX];exact aD (by omega) _ _ _ (af G2.out.1 b1),by have:=gs.size;omega,(G2.out.2.2.2.2.2.2.1.below b1 (by omega)).grow gs (fun j hj=>.inl (by have:=Option.some.inj hj;omega)) (by omega),(G2.out.2.2.2.2.2.2.2.below b1 (by omega)).grow gs (fun j hj=>.inl (by have:=Option.some.inj hj;omega)) (by omega)⟩
 have HM:Hid (B+3<= M):=G2.out.2.2.2.2.1;simp only [aF,Nat.reduceAdd,Nat.zero_add] at hX;rw [<- hX];clear hX z0 z1 z2 z3 z4 z5 z6 z7 z8 z9 bM g6 hM G2;have hm3:=HM.out;go_wp2;go_loopw [4] (fun i wr=>∃ (k:Nat),k<= X.nl/\i=Vi k/\∃ p3 q3,bE wr M 90 17 (.slice p3 k q3) k (fun i=>aN (X.lf i))/\ae wr (B+2) 41 (aq X b1 X.set.n d1 b2 X.op.m d2 p3 k q3).toArray/\ae wr B 41 (aq X a1 X.set.n c1 a2 X.op.m c2 a3 X.nl c3).toArray/\ae wr (B+1) 41 ie/\Below w.heap.size w wr/\M<= wr.heap.size/\cH wr (B+3) M [.list 7 X.set.n (fun i=>ac (aR (X.set.f i)))] [.slice b1 X.set.n d1]/\cH wr (B+3) M [.list 13 X.op.m (fun i=>ac (dT (X.op.f i)))] [.slice b2 X.op.m d2]) (fun i _=>X.nl-(intOf i).toNat)
 case atStart=>exact ⟨0,Nat.zero_le _,rfl,_,_,HH0.out⟩
 case round=>
  obtain ⟨k,hk,rfl,p3,q3,HH⟩:=hrel;by_cases hlt:k<X.nl
  ·have hi:(k:Int)<(X.nl:Int):=by omega
   obtain ⟨b,off,vs,rfl,_,hb0,hlen,hr,hrd⟩:=(HS.out.2.2.1.below HH.2.2.2.2.1).at hlt;obtain ⟨e1,g1,e2,g2,e3,g3,rfl,r1,r2,r3⟩:=VN.cells hrd hlen;have HR:Hid (wr.rangeAt b (off+k*17) (bj (X.lf k) e1 ((X.lf k).nq) g1 e2 ((X.lf k).c.q.ws.length) g2 e3 ((X.lf k).c.q.bs.length) g3)/\b<wr.heap.size):=⟨hr,hb0⟩
   have HE:Hid (Rd wr 0 (.list 9 (X.lf k).nq (fun i=>ac (aJ ((X.lf k).qf i)))) (.slice e1 ((X.lf k).nq) g1)/\Rd wr 0 (aw (X.lf k).c.q.ws) (.slice e2 ((X.lf k).c.q.ws.length) g2)/\Rd wr 0 (ai (X.lf k).c.q.bs) (.slice e3 ((X.lf k).c.q.bs.length) g3)/\ax 17 (ac (aN (X.lf k)))<= 1048576):=⟨r1,r2,r3,HZ.out.2.2.2 k hlt⟩
   have HK:Hid (_):=HH;obtain ⟨⟨y0,y1,y2,y3,y4,y5,y6,y7,y8,y9,y10⟩,yf⟩:=HH.2.2.1.tc11;clear HH hr hb0 r1 r2 r3 hlen hrd yf HH0;go_upto_region 8 with fail
   clear y0 y1 y2 y3 y4 y5 y6 y7 y8 y9 y10;try go_simp
   refine wp_region_any (by kernel_rfl) ?_
   refine fm 9 (fun u=>Below wr.heap.size wr u) (fun j σ u=>match j with
    |9=>∃ p4 q4 u0,σ 35=.slice p4 (k+1) q4/\bE u M 90 17 (.slice p4 (k+1) q4) (k+1) (fun i=>aN (X.lf i))/\Below wr.heap.size wr u0/\u0.grownBy u (Value.slice p3 k q3).ownBlock
    |10=>(∃ p4 q4 u0,σ 35=.slice p4 (k+1) q4/\bE u M 90 17 (.slice p4 (k+1) q4) (k+1) (fun i=>aN (X.lf i))/\Below wr.heap.size wr u0/\u0.grownBy u (Value.slice p3 k q3).ownBlock)/\σ 36=Vp (B+2) 6
    |_=>∃ p4 q4 u0 u1,bE u1 M 90 17 (.slice p4 (k+1) q4) (k+1) (fun i=>aN (X.lf i))/\Below wr.heap.size wr u0/\u0.grownBy u1 (Value.slice p3 k q3).ownBlock/\u=aF u1 (B+2) 6 [.slice p4 (k+1) q4]) (fun i v u=>match i with
    |0=>v=Vp ((B+2)) 6
    |1=>v=.slice p3 k q3
    |2=>v=Vp B 6
    |3=>v=.slice (some ⟨b,off,none⟩) X.nl c3
    |4=>v=Vi (k:Int)
    |5=>v=Vp b (off+k*17)
    |6=>v=.agg ((bj (X.lf k) e1 ((X.lf k).nq) g1 e2 ((X.lf k).c.q.ws.length) g2 e3 ((X.lf k).c.q.bs.length) g3)).toArray
    |7=>∃ u1 v1 u2 v2 u3 v3,v=.agg (bj (X.lf k) u1 ((X.lf k).nq) v1 u2 ((X.lf k).c.q.ws.length) v2 u3 ((X.lf k).c.q.bs.length) v3).toArray/\Fl u wr.heap.size (aN (X.lf k)) (bj (X.lf k) u1 ((X.lf k).nq) v1 u2 ((X.lf k).c.q.ws.length) v2 u3 ((X.lf k).c.q.bs.length) v3)
    |8=>∃ c u1 v1 u2 v2 u3 v3,v=.slice (some ⟨c,0,none⟩) 1 1/\ae u c 90 (bj (X.lf k) u1 ((X.lf k).nq) v1 u2 ((X.lf k).c.q.ws.length) v2 u3 ((X.lf k).c.q.bs.length) v3).toArray/\Fl u wr.heap.size (aN (X.lf k)) (bj (X.lf k) u1 ((X.lf k).nq) v1 u2 ((X.lf k).c.q.ws.length) v2 u3 ((X.lf k).c.q.bs.length) v3)
    |_=>True) (by kernel_rfl) (by kernel_rfl) (by decide) (by kernel_rfl) (fun u u' h hb=>af h hb) ?_ (by first|exact Br|exact Br.drew) ?_ ?_ ?_ ?_ _ _ rfl (by decide) (fun i=>by simp [Array.getD];try (split <;> rfl))
   ·intro i v u u' h hb
    match i,h with
    |0,h=>exact h
    |1,h=>exact h
    |2,h=>exact h
    |3,h=>exact h
    |4,h=>exact h
    |5,h=>exact h
    |6,h=>exact h
    |7,⟨u1,v1,u2,v2,u3,v3,e,h2⟩=>exact ⟨u1,v1,u2,v2,u3,v3,e,h2.below hb⟩
    |8,⟨c,u1,v1,u2,v2,u3,v3,e,kb,h2⟩=>exact ⟨c,u1,v1,u2,v2,u3,v3,e,kb.below hb,h2.below hb⟩
    |_+9,_=>trivial
   rotate_left
   ·intro u i o ρ hi hR ho hρ hc hf hd
    obtain rfl|rfl|rfl|rfl|rfl|rfl|rfl|rfl|rfl:i=0\/i=1\/i=2\/i=3\/i=4\/i=5\/i=6\/i=7\/i=8:=by omega
    all_goals (simp only [List.getElem?_toArray,List.getElem?_cons_zero,List.getElem?_cons_succ,Option.some.injEq] at ho;subst ho)
    ·have s3:ρ (.tmp 3)=Vp ((B+2)) 0:=(hρ 3 (by kernel_rfl)).trans rfl
     exact .inl ⟨rfl,.inl ⟨Vp ((B+2)) 6,u,ao rfl s3 (by go_simp),rfl,Br⟩⟩
    ·have h0:ρ (.tmp 26)=Vp ((B+2)) 6:=dq hd 0 26
     have y9:u.cell? ⟨(B+2),6,none⟩=some (.slice p3 k q3):=(HK.out.2.1.below hR).rng 6 _ rfl;have hr:(Instr.loadAt 39 (Vp ((B+2)) 6)).run prog u=.ok (.slice p3 k q3) u:=by go_simp
     exact .inl ⟨rfl,.inl ⟨.slice p3 k q3,u,ah rfl h0 hr,rfl,Br⟩⟩
    ·have s1:ρ (.tmp 1)=Vp B 0:=(hρ 1 (by kernel_rfl)).trans rfl
     exact .inl ⟨rfl,.inl ⟨Vp B 6,u,ao rfl s1 (by go_simp),rfl,Br⟩⟩
    ·have h2:ρ (.tmp 28)=Vp B 6:=dq hd 2 28
     have y9:u.cell? ⟨B,6,none⟩=some (.slice (some ⟨b,off,none⟩) X.nl c3):=(HK.out.2.2.1.below hR).rng 6 _ rfl;have hr:(Instr.loadAt 39 (Vp B 6)).run prog u=.ok (.slice (some ⟨b,off,none⟩) X.nl c3) u:=by go_simp
     exact .inl ⟨rfl,.inl ⟨.slice (some ⟨b,off,none⟩) X.nl c3,u,ah rfl h2 hr,rfl,Br⟩⟩
    ·have s4:ρ (.tmp 4)=Vi (k:Int):=(hρ 4 (by kernel_rfl)).trans rfl
     exact .inl ⟨rfl,.inl ⟨_,u,rfl,s4,Br⟩⟩
    ·have h3:ρ (.tmp 29)=.slice (some ⟨b,off,none⟩) X.nl c3:=dq hd 3 29
     have h4:ρ (.tmp 30)=Vi (k:Int):=dq hd 4 30;exact .inl ⟨rfl,.inl ⟨Vp b (off+k*17),u,au rfl h3 h4 (by go_simp),rfl,Br⟩⟩
    ·have h5:ρ (.tmp 31)=Vp b (off+k*17):=dq hd 5 31
     have hr:(Instr.loadAt 90 (Vp b (off+k*17))).run prog u=.ok (.agg ((bj (X.lf k) e1 ((X.lf k).nq) g1 e2 ((X.lf k).c.q.ws.length) g2 e3 ((X.lf k).c.q.bs.length) g3)).toArray) u:=run_loadAt_mid u b (off+k*17) 90 ((bj (X.lf k) e1 ((X.lf k).nq) g1 e2 ((X.lf k).c.q.ws.length) g2 e3 ((X.lf k).c.q.bs.length) g3)) _ (ay HR.out.1 HR.out.2 hR) underlying90 rfl (by kernel_rfl);exact .inl ⟨rfl,.inl ⟨.agg ((bj (X.lf k) e1 ((X.lf k).nq) g1 e2 ((X.lf k).c.q.ws.length) g2 e3 ((X.lf k).c.q.bs.length) g3)).toArray,u,ah rfl h5 hr,rfl,Br⟩⟩
    ·have h6:ρ (.tmp 32)=.agg (bj (X.lf k) e1 ((X.lf k).nq) g1 e2 ((X.lf k).c.q.ws.length) g2 e3 ((X.lf k).c.q.bs.length) g3).toArray:=dq hd 6 32
     refine .inl ⟨rfl,.inr ⟨_,_,bv rfl (hf _) (args:=#[.agg (bj (X.lf k) e1 ((X.lf k).nq) g1 e2 ((X.lf k).c.q.ws.length) g2 e3 ((X.lf k).c.q.bs.length) g3).toArray]) (by simp [h6]) (by kernel_rfl),?_⟩⟩;refine (qW (X.lf k) e1 _ g1 e2 _ g2 e3 _ g3 _ (HE.out.1.below hR) (HE.out.2.1.below hR) (HE.out.2.2.1.below hR) HE.out.2.2.2).mono ?_;rintro e u' ⟨u1,v1,u2,v2,u3,v3,he,o1,b'⟩;exact ⟨_,he,⟨u1,v1,u2,v2,u3,v3,rfl,(o1).mono hR.size⟩,b'⟩
    obtain ⟨u1,v1,u2,v2,u3,v3,h7,ho2⟩:∃ u1 v1 u2 v2 u3 v3,ρ (.tmp 33)=.agg (bj (X.lf k) u1 ((X.lf k).nq) v1 u2 ((X.lf k).c.q.ws.length) v2 u3 ((X.lf k).c.q.bs.length) v3).toArray/\Fl u wr.heap.size (aN (X.lf k)) (bj (X.lf k) u1 ((X.lf k).nq) v1 u2 ((X.lf k).c.q.ws.length) v2 u3 ((X.lf k).c.q.bs.length) v3):=dq hd 7 33;exact .inl ⟨rfl,.inl ⟨_,_,dN rfl (qs:=#[(0,.agg (bj (X.lf k) u1 ((X.lf k).nq) v1 u2 ((X.lf k).c.q.ws.length) v2 u3 ((X.lf k).c.q.bs.length) v3).toArray)]) (by simp [h7]) (tb (X.lf k) u1 _ v1 u2 _ v2 u3 _ v3 u),⟨_,u1,v1,u2,v2,u3,v3,rfl,ae.new _ _ _,ho2.below (aa _ _)⟩,Br.alloc Nl _⟩⟩
   ·intro u o ρ hR ho hρ hc hf hv
    simp only [List.getElem?_toArray,List.getElem?_cons_zero,List.getElem?_cons_succ,Option.some.injEq] at ho;subst ho;have h1:ρ (.tmp 27)=.slice p3 k q3:=hv 1 27 (by decide) rfl;obtain ⟨c,u1,v1,u2,v2,u3,v3,h8,kb,ho2⟩:∃ c u1 v1 u2 v2 u3 v3,ρ (.tmp 34)=.slice (some ⟨c,0,none⟩) 1 1/\ae u c 90 (bj (X.lf k) u1 ((X.lf k).nq) v1 u2 ((X.lf k).c.q.ws.length) v2 u3 ((X.lf k).c.q.bs.length) v3).toArray/\Fl u wr.heap.size (aN (X.lf k)) (bj (X.lf k) u1 ((X.lf k).nq) v1 u2 ((X.lf k).c.q.ws.length) v2 u3 ((X.lf k).c.q.bs.length) v3):=hv 8 34 (by decide) rfl;have hL:=HK.out.1.below hR;have hsz:=hR.size;obtain ⟨v',w',hrun,L',g',k'⟩:=iC 39 39 90 17 184 (.agg #[Zs,.bool false,Vi 0,Vi 0,Vi 0,Vi 0,Vi 0,Vi 0,Zs,Zs,Vi 0,Vi 0,Vi 0,Vi 0,Vi 0,Vi 0,Vi 0]) underlying39 (by kernel_rfl) rfl (by decide) (by decide) M (.slice p3 k q3) k (fun i=>aN (X.lf i)) hL c 1 (bj (X.lf k) u1 ((X.lf k).nq) v1 u2 ((X.lf k).c.q.ws.length) v2 u3 ((X.lf k).c.q.bs.length) v3) rfl (fun j x hx=>kb.cell j (by simpa using hx)) (fun x hx=>by simp at hx;rcases hx with rfl|rfl|rfl|rfl|rfl|rfl|rfl|rfl|rfl|rfl|rfl|rfl|rfl|rfl|rfl|rfl|rfl <;> rfl) (ho2.elG HK.out.2.2.2.2.2.1 (fun j hj=>(HK.out.1.lt j hj).2)) (by omega) (Nat.le_trans HK.out.2.2.2.2.2.1 hsz);obtain ⟨p4,q4,rfl⟩:=L'.shape;exact ⟨rfl,.inl ⟨_,w',gO rfl h1 h8 hrun,p4,q4,u,eM,L',hR,g'⟩⟩
   ·intro u i o ρ hi ho hE hρ hc hf
    have hi2:i+1<12:=by
     have:=(Array.getElem?_eq_some_iff.1 ho).1;simpa using this
    obtain rfl|rfl:i=9\/i=10:=by omega
    all_goals (simp only [List.getElem?_toArray,List.getElem?_cons_zero,List.getElem?_cons_succ,Option.some.injEq] at ho;subst ho)
    ·have s3:ρ (.tmp 3)=Vp (B+2) 0:=(hρ 3 (by kernel_rfl)).trans rfl
     obtain ⟨p4,q4,u0,e1,t1,t2,t3⟩:=hE;exact ⟨rfl,.inl ⟨Vp (B+2) 6,u,ao rfl s3 (by go_simp),⟨p4,q4,u0,(jY (by decide)).trans e1,t1,t2,t3⟩,eM⟩⟩
    obtain ⟨⟨p4,q4,u0,e1,t1,t2,t3⟩,e2⟩:=hE;have e1':ρ (.tmp 35)=.slice p4 (k+1) q4:=e1;have e2':ρ (.tmp 36)=Vp (B+2) 6:=e2;have kF:=bE.blk (HK.out.1.below t2) (HK.out.2.1.below t2) t3 (by decide);have c1:=kF.cell 6 rfl;have f1:=kF.fro 6;have hr:(Instr.storeAt 39 (Vp (B+2) 6) (.slice p4 (k+1) q4)).run prog u=.ok () (aF u (B+2) 6 [.slice p4 (k+1) q4]):=by go_simp;rfl
    exact ⟨rfl,.inr (.inr ⟨rfl,_,bY rfl e2' e1' hr,p4,q4,u0,u,t1,t2,t3,rfl⟩)⟩
   intro vs σ u hE hvs;obtain ⟨p4,q4,u0,u1,t1,t2,t3,rfl⟩:∃ p4 q4 u0 u1,bE u1 M 90 17 (.slice p4 (k+1) q4) (k+1) (fun i=>aN (X.lf i))/\Below wr.heap.size wr u0/\u0.grownBy u1 (Value.slice p3 k q3).ownBlock/\u=aF u1 (B+2) 6 [.slice p4 (k+1) q4]:=hE;have L0:=HK.out.1.below t2;have kF:=bE.blk L0 (HK.out.2.1.below t2) t3 (by decide);have kA:=bE.blk L0 (HK.out.2.2.1.below t2) t3 (by decide);have kR:=bE.blk L0 (HK.out.2.2.2.1.below t2) t3 (by decide);have bl:Below w.heap.size w u1:=(af HK.out.2.2.2.2.1 t2).grown t3 (by have:=HK.out.2.2.2.2.2.1;have:=t2.size;have:=HB.out;omega) (fun j hj=>by have:=(HK.out.1.lt j hj).1;have:=HB.out;omega);have gs:u1.grownBy (aF u1 (B+2) 6 [.slice p4 (k+1) q4]) (some (B+2)):=bf _ _ _;have o9:=HK.out.2.2.2.2.2.2;have s1:=t2.size;have s2:=t3.size;have s3:=HK.out.2.2.2.2.2.1;have s4:=HB.out;have o8:cH (aF u1 (B+2) 6 [.slice p4 (k+1) q4]) (B+3) M [.list 7 X.set.n (fun i=>ac (aR (X.set.f i)))] [.slice b1 X.set.n d1]/\cH (aF u1 (B+2) 6 [.slice p4 (k+1) q4]) (B+3) M [.list 13 X.op.m (fun i=>ac (dT (X.op.f i)))] [.slice b2 X.op.m d2]:=⟨((o9.1.below t2 s3).grow t3 (fun j hj=>.inr (HK.out.1.lt j hj).1) (by omega)).grow gs (fun j hj=>.inl (by have:=Option.some.inj hj;omega)) (by omega),((o9.2.below t2 s3).grow t3 (fun j hj=>.inr (HK.out.1.lt j hj).1) (by omega)).grow gs (fun j hj=>.inl (by have:=Option.some.inj hj;omega)) (by omega)⟩
   obtain ⟨W3,hW3⟩:∃ W3,W3=aF u1 (B+2) 6 [.slice p4 (k+1) q4]:=⟨_,rfl⟩
   have H3:Hid (bE W3 M 90 17 (.slice p4 (k+1) q4) (k+1) (fun i=>aN (X.lf i))/\ae W3 (B+2) 41 (aq X b1 X.set.n d1 b2 X.op.m d2 p4 (k+1) q4).toArray/\ae W3 B 41 (aq X a1 X.set.n c1 a2 X.op.m c2 (some ⟨b,off,none⟩) X.nl c3).toArray/\ae W3 (B+1) 41 ie/\Below w.heap.size w W3/\M<= W3.heap.size/\cH W3 (B+3) M [.list 7 X.set.n (fun i=>ac (aR (X.set.f i)))] [.slice b1 X.set.n d1]/\cH W3 (B+3) M [.list 13 X.op.m (fun i=>ac (dT (X.op.f i)))] [.slice b2 X.op.m d2]):=by
    rw [hW3];exact ⟨t1.keptLo gs (by omega),ae.wr kF (by simp [bO]),ae.stNe (by omega) _ _ kA,ae.stNe (by omega) _ _ kR,aD (by omega) _ _ _ bl,by have:=gs.size;omega,o8⟩
   rw [<- hW3];simp only [bI];clear hW3 kF kA kR bl gs t1 t2 t3 L0 hvs HK HR HE o8 o9 s1 s2 s3;try go_simp
   go_wp2;go_roundw
   case rel=>exact ⟨k+1,by omega,by go_num,p4,q4,H3.out⟩
   case measure=>simp [intOf];omega
  have hi:¬ (k:Int)<(X.nl:Int):=by omega
  have e9:k=X.nl:=by omega
  subst e9;have HK:Hid (_):=HH;obtain ⟨⟨y0,y1,y2,y3,y4,y5,y6,y7,y8,y9,y10⟩,-⟩:=HH.2.2.1.tc11;obtain ⟨V,hV⟩:∃ V,V=aF wr (B+1) 0 (aq X b1 X.set.n d1 b2 X.op.m d2 p3 X.nl q3):=⟨_,rfl⟩
  have gs:wr.grownBy V (some (B+1)):=by rw [hV];exact bf _ _ _
  have H9:Hid (Fl V w.heap.size (aX X) (aq X b1 X.set.n d1 b2 X.op.m d2 p3 X.nl q3)/\Below w.heap.size w V/\ae V (B+1) 41 ((aq X b1 X.set.n d1 b2 X.op.m d2 p3 X.nl q3)).toArray):=by
   have s4:=HB.out;have f1:=(HK.out.1.keptLo gs (by omega)).fl.mono (lo':=w.heap.size) (by omega);have f2:=((HK.out.2.2.2.2.2.2.1.grow gs (fun j hj=>.inl (by have:=Option.some.inj hj;omega)) HK.out.2.2.2.2.2.1).fl).mono (lo':=w.heap.size) (by omega);have f3:=((HK.out.2.2.2.2.2.2.2.grow gs (fun j hj=>.inl (by have:=Option.some.inj hj;omega)) HK.out.2.2.2.2.2.1).fl).mono (lo':=w.heap.size) (by omega);exact ⟨Fl.leaf (Vi X.nw) (Fl.leaf (Vi X.set.wt) (Fl.leaf (Vi X.set.tr) (Fl.app f2 (Fl.leaf (Vi X.op.nx) (Fl.app f3 (Fl.app f1 (Fl.leaf (Vi X.sk) (Fl.leaf (Vi X.re) (Fl.leaf (Vi X.fa) (Fl.leaf (Vi X.se) (Fl.nil _ _))))))))))),by rw [hV];exact aD (by omega) _ _ _ HK.out.2.2.2.2.1,by rw [hV];exact ae.wr HK.out.2.2.2.1 (by simp [bO])⟩
  have hr:wr.rangeAt (B+2) 0 (aq X b1 X.set.n d1 b2 X.op.m d2 p3 X.nl q3):=HH.2.1.all;have ht:=HH.2.2.2.1.there 0 11 (by simp);clear HH gs HH0 HK;go_upto_region 9 with fail
  clear y0 y1 y2 y3 y4 y5 y6 y7 y8 y9 y10;refine wp_region_lit ?_;refine wpList_load_mid rfl 41 (.tmp 3) rfl (B+2) 0 rfl (aq X b1 X.set.n d1 b2 X.op.m d2 p3 X.nl q3) _ hr underlying41 rfl (by kernel_rfl) ?_;refine wpList_store_mid rfl 41 (.tmp 2) (.tmp 37) rfl (B+1) 0 ((aq X b1 X.set.n d1 b2 X.op.m d2 p3 X.nl q3)).toArray rfl rfl ht (by kernel_rfl) (by simp [Value.oneCell']) ?_;rw [bm,<- hV];clear hV hr ht;refine wpList_nil ?_;go_wp2;refine bodyPost_ret (v:=.agg ((aq X b1 X.set.n d1 b2 X.op.m d2 p3 X.nl q3)).toArray) (eG results18 rfl (run_loadVar_mid _ _ _ 41 (aq X b1 X.set.n d1 b2 X.op.m d2 p3 X.nl q3) _ H9.out.2.2.all underlying41 rfl (by kernel_rfl))) rfl ⟨b1,d1,b2,d2,p3,q3,rfl,H9.out.1,H9.out.2.1⟩
def fE(L:La)(l1 l2:Nat):Bool:=if L.bz=true then dw L.c && (aB L.nu 0 65535 && (aB L.du 0 4294967295 && (decide (0<= L.le) && decide (L.le<= L.tr)))) else dj L.c l1 l2 && ((L.nu == 0) && ((L.du == 0) && (L.le == 0)))
def dx(f:Nat->Ca):Nat->Bool
 |0=>true
 |k+1=>dx f k && dw (f k)
theorem py{f:Nat->Ca}{k n:Nat}(hk:k<n)(h:dw (f k)=false):dx f n=false:=by
 induction n with
 |zero=>omega
 |succ n ih=>
  by_cases e:k=n
  ·subst e;simp [dx,h]
  simp [dx,ih (by omega)]
def iE(n:Nat)(f:Nat->Ca)(L:La)(l1 l2:Nat):Bool:=aB L.wt 1 100 && (aB L.tr 0 5 && (decide (n<= 40) && (aB L.nx 0 65535 && (dx f n && fE L l1 l2))))
def iW(w:World)(g o:Nat)(L:La)(n cp:Nat)(a a1 a2:OA)(l1 l2 c1 c2:Nat):Prop:=g<w.heap.size/\w.rangeAt g o (wK L a n cp a1 a2 l1 l2 c1 c2)
theorem iW.below{w w':World}{g o:Nat}{L:La}{n cp:Nat}{a a1 a2:OA}{l1 l2 c1 c2:Nat}(h:iW w g o L n cp a a1 a2 l1 l2 c1 c2)(hb:Below w.heap.size w w'):iW w' g o L n cp a a1 a2 l1 l2 c1 c2:=⟨Nat.lt_of_lt_of_le h.1 hb.size,ay h.2 h.1 hb⟩
theorem iW.svn{w:World}{g o:Nat}{L:La}{n cp:Nat}{a a1 a2:OA}{l1 l2 c1 c2:Nat}(h:iW w g o L n cp a a1 a2 l1 l2 c1 c2):(w.cell? ⟨g,o,none⟩=some (.slice a n cp)/\w.cell? ⟨g,o+1,none⟩=some (.bool L.bz)/\w.cell? ⟨g,o+2,none⟩=some (Vi L.c.id)/\w.cell? ⟨g,o+3,none⟩=some (Vi L.c.pa)/\w.cell? ⟨g,o+4,none⟩=some (Vi L.c.un)/\w.cell? ⟨g,o+5,none⟩=some (Vi L.c.kd)/\w.cell? ⟨g,o+6,none⟩=some (Vi L.c.pl)/\w.cell? ⟨g,o+7,none⟩=some (Vi L.c.n)/\w.cell? ⟨g,o+8,none⟩=some (.slice a1 l1 c1)/\w.cell? ⟨g,o+9,none⟩=some (.slice a2 l2 c2)/\w.cell? ⟨g,o+10,none⟩=some (Vi L.c.wa)/\w.cell? ⟨g,o+11,none⟩=some (Vi L.nu)/\w.cell? ⟨g,o+12,none⟩=some (Vi L.du)/\w.cell? ⟨g,o+13,none⟩=some (Vi L.le)/\w.cell? ⟨g,o+14,none⟩=some (Vi L.nx)/\w.cell? ⟨g,o+15,none⟩=some (Vi L.wt)/\w.cell? ⟨g,o+16,none⟩=some (Vi L.tr))/\True:=⟨⟨h.2 0 _ rfl,h.2 1 _ rfl,h.2 2 _ rfl,h.2 3 _ rfl,h.2 4 _ rfl,h.2 5 _ rfl,h.2 6 _ rfl,h.2 7 _ rfl,h.2 8 _ rfl,h.2 9 _ rfl,h.2 10 _ rfl,h.2 11 _ rfl,h.2 12 _ rfl,h.2 13 _ rfl,h.2 14 _ rfl,h.2 15 _ rfl,h.2 16 _ rfl⟩,trivial⟩
theorem qg(L:La)(g o n cp:Nat)(a a1 a2:OA)(l1 l2 c1 c2:Nat)(w:World)(hB:iW w g o L n cp a a1 a2 l1 l2 c1 c2)(h1:l1=L.c.ws.length)(h2:l2=L.c.bs.length)(s1:aZ w a1 L.c.ws)(s2:be w a2 L.c.bs)(hl1:l1<= 2000000)(hl2:l2<= 2000000):
 Calls prog 147 #[Vp g o] w fun e w'=>e=.returned (.bool (fE L l1 l2))/\Below w.heap.size w w':=by
 have HB:Hid (iW w g o L n cp a a1 a2 l1 l2 c1 c2/\l1=L.c.ws.length/\l2=L.c.bs.length/\aZ w a1 L.c.ws/\be w a2 L.c.bs):=⟨hB,h1,h2,s1,s2⟩
 obtain ⟨⟨y0,y1,y2,y3,y4,y5,y6,y7,y8,y9,y10,y11,y12,y13,y14,y15,y16⟩,_⟩:=hB.svn;obtain ⟨bz,hbz⟩:∃ x,L.bz=x:=⟨_,rfl⟩
 clear hB h1 h2 s1 s2;cases bz
 case false=>
  obtain ⟨x0,hx0⟩:∃ x,dj L.c l1 l2=x:=⟨_,rfl⟩
  obtain ⟨z1,hz1⟩:∃ x,(L.nu == 0)=x:=⟨_,rfl⟩
  obtain ⟨z2,hz2⟩:∃ x,(L.du == 0)=x:=⟨_,rfl⟩
  obtain ⟨z3,hz3⟩:∃ x,(L.le == 0)=x:=⟨_,rfl⟩
  have HE:Hid (fE L l1 l2=(x0 && (z1 && (z2 && z3)))/\dj L.c l1 l2=x0):=⟨by unfold fE;rw [hbz,hx0,hz1,hz2,hz3];rfl,hx0⟩
  rw [HE.out.1];rw [hbz] at y1;clear hx0 hbz;go_enter func147,ntmps147
  go_wp2_with fail
  refine (na L.c g (o+2) a1 a2 l1 l2 c1 c2 _ y2 y3 y4 y5 y6 y7 y8 y9 y10 HB.out.2.1 HB.out.2.2.1 hl1 hl2).mono ?_;rintro e w1 ⟨rfl,b1⟩;rw [HE.out.2];have HC:Hid (Below w.heap.size w w1/\iW w1 g o L n cp a a1 a2 l1 l2 c1 c2):=⟨b1,HB.out.1.below b1⟩
  clear b1 y0 y1 y2 y3 y4 y5 y6 y7 y8 y9 y10 y11 y12 y13 y14 y15 y16;obtain ⟨⟨y0,y1,y2,y3,y4,y5,y6,y7,y8,y9,y10,y11,y12,y13,y14,y15,y16⟩,_⟩:=HC.out.2.svn;cases x0
  case false=>
   go_wp2;go_ret;exact ⟨rfl,HC.out.1⟩
  cases z1
  case false=>
   go_wp2;go_ret;exact ⟨rfl,HC.out.1⟩
  cases z2
  case false=>
   go_wp2;go_ret;exact ⟨rfl,HC.out.1⟩
  cases z3
  all_goals (
   go_wp2;go_ret;exact ⟨rfl,HC.out.1⟩)
 obtain ⟨x0,hx0⟩:∃ x,dw L.c=x:=⟨_,rfl⟩
 obtain ⟨z1,hz1⟩:∃ x,aB L.nu 0 65535=x:=⟨_,rfl⟩
 obtain ⟨z2,hz2⟩:∃ x,aB L.du 0 4294967295=x:=⟨_,rfl⟩
 obtain ⟨z3,hz3⟩:∃ x,decide (0<= L.le)=x:=⟨_,rfl⟩
 obtain ⟨z4,hz4⟩:∃ x,decide (L.le<= L.tr)=x:=⟨_,rfl⟩
 have HX:Hid (dw L.c=x0/\aB L.nu 0 65535=z1/\aB L.du 0 4294967295=z2/\decide (0<= L.le)=z3/\decide (L.le<= L.tr)=z4):=⟨hx0,hz1,hz2,hz3,hz4⟩
 have he:fE L l1 l2=(x0 && (z1 && (z2 && (z3 && z4)))):=by unfold fE;rw [hbz,hx0,hz1,hz2,hz3,hz4];rfl
 rw [he];rw [hbz] at y1;clear hx0 hz1 hz2 hz3 hz4 hbz he;go_enter func147,ntmps147
 go_upto_region 3 with fail
 clear y0 y1 y2 y3 y4 y5 y6 y7 y8 y9 y10 y11 y12 y13 y14 y15 y16;refine wp_region_any (by kernel_rfl) ?_
 refine bw (fun u=>Below w.heap.size w u) (fun i v u=>match i with
  |0=>v=Vp g o
  |1=>v=Vp g o
  |2=>v=Vp g (o+2)
  |3=>v=.bool x0
  |4=>v=.bool x0
  |5=>v=cond x0 (Vp g o) undef
  |6=>v=cond x0 (Vp g o) undef
  |7=>v=cond x0 (Vp g (o+11)) undef
  |8=>v=cond x0 (Vi L.nu) undef
  |9=>v=cond x0 (.bool z1) undef
  |10=>v=cond x0 (.bool z1) (.bool false)
  |11=>v=cond x0 (.bool z1) (.bool false)
  |12=>v=cond x0 (cond z1 (Vp g o) undef) undef
  |13=>v=cond x0 (cond z1 (Vp g o) undef) undef
  |14=>v=cond x0 (cond z1 (Vp g (o+12)) undef) undef
  |15=>v=cond x0 (cond z1 (Vi L.du) undef) undef
  |16=>v=cond x0 (cond z1 (.bool z2) undef) undef
  |17=>v=cond x0 (cond z1 (.bool z2) (.bool false)) (.bool false)
  |18=>v=cond x0 (cond z1 (.bool z2) (.bool false)) (.bool false)
  |19=>v=cond x0 (cond z1 (cond z2 (Vp g o) undef) undef) undef
  |20=>v=cond x0 (cond z1 (cond z2 (Vp g o) undef) undef) undef
  |21=>v=cond x0 (cond z1 (cond z2 (Vp g (o+13)) undef) undef) undef
  |22=>v=cond x0 (cond z1 (cond z2 (Vi L.le) undef) undef) undef
  |23=>v=cond x0 (cond z1 (cond z2 (.bool z3) undef) undef) undef
  |24=>v=cond x0 (cond z1 (cond z2 (.bool z3) (.bool false)) (.bool false)) (.bool false)
  |25=>v=cond x0 (cond z1 (cond z2 (.bool z3) (.bool false)) (.bool false)) (.bool false)
  |26=>v=cond x0 (cond z1 (cond z2 (cond z3 (Vp g o) undef) undef) undef) undef
  |27=>v=cond x0 (cond z1 (cond z2 (cond z3 (Vp g o) undef) undef) undef) undef
  |28=>v=cond x0 (cond z1 (cond z2 (cond z3 (Vp g (o+13)) undef) undef) undef) undef
  |29=>v=cond x0 (cond z1 (cond z2 (cond z3 (Vi L.le) undef) undef) undef) undef
  |30=>v=cond x0 (cond z1 (cond z2 (cond z3 (Vp g o) undef) undef) undef) undef
  |31=>v=cond x0 (cond z1 (cond z2 (cond z3 (Vp g o) undef) undef) undef) undef
  |32=>v=cond x0 (cond z1 (cond z2 (cond z3 (Vp g (o+16)) undef) undef) undef) undef
  |33=>v=cond x0 (cond z1 (cond z2 (cond z3 (Vi L.tr) undef) undef) undef) undef
  |34=>v=cond x0 (cond z1 (cond z2 (cond z3 (.bool z4) undef) undef) undef) undef
  |35=>v=cond x0 (cond z1 (cond z2 (cond z3 (.bool z4) (.bool false)) (.bool false)) (.bool false)) (.bool false)
  |36=>v=cond x0 (cond z1 (cond z2 (cond z3 (.bool z4) (.bool false)) (.bool false)) (.bool false)) (.bool false)
  |_=>v=undef) (by kernel_rfl) (by kernel_rfl) (fun _ _ _ _ h _=>h) (by first|exact Br|exact Br.drew) ?_ ?_ _ _ rfl (by decide) (fun i=>by simp [Array.getD];try (split <;> rfl))
 ·intro vs u hR hall
  simp only [bI];cases x0
  ·have e36:vs 36=.bool false:=hall 36 (by simp)
   rw [e36];clear hall e36;have B9:=hR;clear HX HB hR;go_simp;go_wp2;go_ret;exact ⟨rfl,B9⟩
  cases z1
  ·have e36:vs 36=.bool false:=hall 36 (by simp)
   rw [e36];clear hall e36;have B9:=hR;clear HX HB hR;go_simp;go_wp2;go_ret;exact ⟨rfl,B9⟩
  cases z2
  ·have e36:vs 36=.bool false:=hall 36 (by simp)
   rw [e36];clear hall e36;have B9:=hR;clear HX HB hR;go_simp;go_wp2;go_ret;exact ⟨rfl,B9⟩
  cases z3
  ·have e36:vs 36=.bool false:=hall 36 (by simp)
   rw [e36];clear hall e36;have B9:=hR;clear HX HB hR;go_simp;go_wp2;go_ret;exact ⟨rfl,B9⟩
  cases z4
  ·have e36:vs 36=.bool false:=hall 36 (by simp)
   rw [e36];clear hall e36;have B9:=hR;clear HX HB hR;go_simp;go_wp2;go_ret;exact ⟨rfl,B9⟩
  have e36:vs 36=.bool true:=hall 36 (by simp);rw [e36];clear hall e36;have B9:=hR;clear HX HB hR;go_simp;go_wp2;go_ret;exact ⟨rfl,B9⟩
 intro u i o ρ hR ho hρ hc hf hd
 have hi:i<37:=by
  have:=(Array.getElem?_eq_some_iff.1 ho).1;simpa using this
 obtain rfl|rfl|rfl|rfl|rfl|rfl|rfl|rfl|rfl|rfl|rfl|rfl|rfl|rfl|rfl|rfl|rfl|rfl|rfl|rfl|rfl|rfl|rfl|rfl|rfl|rfl|rfl|rfl|rfl|rfl|rfl|rfl|rfl|rfl|rfl|rfl|rfl:i=0\/i=1\/i=2\/i=3\/i=4\/i=5\/i=6\/i=7\/i=8\/i=9\/i=10\/i=11\/i=12\/i=13\/i=14\/i=15\/i=16\/i=17\/i=18\/i=19\/i=20\/i=21\/i=22\/i=23\/i=24\/i=25\/i=26\/i=27\/i=28\/i=29\/i=30\/i=31\/i=32\/i=33\/i=34\/i=35\/i=36:=by omega
 all_goals (simp only [List.getElem?_toArray,List.getElem?_cons_zero,List.getElem?_cons_succ,Option.some.injEq] at ho;subst ho)
 ·exact yr rfl (hρ 0 (by kernel_rfl)) hR
 ·exact yr (cE rfl (dq hd 0 33)) rfl hR
 ·exact yr (ao rfl (dq hd 1 34) (by go_simp)) rfl hR
 ·have h2:_=_:=dq hd 2 35
  refine .inl ⟨rfl,.inr ⟨_,_,bv rfl (hf _) (args:=#[Vp g (o+2)]) (by simp [h2]) (by kernel_rfl),?_⟩⟩;refine (iV L.c g (o+2) a1 a2 l1 l2 c1 c2 _ ((HB.out.1.below hR).2 2 _ rfl) ((HB.out.1.below hR).2 3 _ rfl) ((HB.out.1.below hR).2 4 _ rfl) ((HB.out.1.below hR).2 5 _ rfl) ((HB.out.1.below hR).2 6 _ rfl) ((HB.out.1.below hR).2 7 _ rfl) ((HB.out.1.below hR).2 8 _ rfl) ((HB.out.1.below hR).2 9 _ rfl) ((HB.out.1.below hR).2 10 _ rfl) HB.out.2.1 HB.out.2.2.1 (HB.out.2.2.2.1.below hR) (HB.out.2.2.2.2.below hR) hl1 hl2).mono ?_;rintro e u' ⟨he,b'⟩;exact ⟨_,he.trans (by rw [HX.out.1] <;> rfl),rfl,af hR b',b'⟩
 ·exact yr rfl (dq hd 3 36) hR
 ·cases x0
  ·exact aj (.bool false) hd 4 37
  exact yq hd 4 37 rfl (hρ 0 (by kernel_rfl)) hR
 ·cases x0
  ·exact aj (.bool false) hd 4 37
  exact yq hd 4 37 (cE rfl (dq hd 5 38)) rfl hR
 ·cases x0
  ·exact aj (.bool false) hd 4 37
  exact yq hd 4 37 (ao rfl (dq hd 6 39) (by go_simp)) rfl hR
 ·cases x0
  ·exact aj (.bool false) hd 4 37
  have y9:=(HB.out.1.below hR).2 11 _ rfl;exact yq hd 4 37 (ah rfl (dq hd 7 40) (by go_simp)) rfl hR
 ·cases x0
  ·exact aj (.bool false) hd 4 37
  have g4:ρ (.tmp 37)=.bool true:=gq hd 4 37;have h8:_=_:=dq hd 8 41;refine .inl ⟨(by show (match ρ (.tmp 37) with| .bool b=>b == true|_=>false)=true;rw [g4];rfl),.inr ⟨_,_,bv rfl (hf _) (args:=#[Vi L.nu]) (by simp [h8]) (by kernel_rfl),?_⟩⟩;refine (bH _ _ _ HX.out.2.1).mono ?_;rintro e u' ⟨he,rfl⟩;exact ⟨_,he.trans rfl,rfl,hR,Br⟩
 ·cases x0
  ·exact yr (aC rfl (dq hd 4 37)) (by simpa using hc _) hR
  exact yr (aC rfl (dq hd 4 37)) (by simpa using (dq hd 9 42)) hR
 ·exact yr rfl (dq hd 10 43) hR
 ·cases x0
  ·exact aj (.bool false) hd 11 44
  cases z1
  ·exact aj (.bool false) hd 11 44
  exact yq hd 11 44 rfl (hρ 0 (by kernel_rfl)) hR
 ·cases x0
  ·exact aj (.bool false) hd 11 44
  cases z1
  ·exact aj (.bool false) hd 11 44
  exact yq hd 11 44 (cE rfl (dq hd 12 45)) rfl hR
 ·cases x0
  ·exact aj (.bool false) hd 11 44
  cases z1
  ·exact aj (.bool false) hd 11 44
  exact yq hd 11 44 (ao rfl (dq hd 13 46) (by go_simp)) rfl hR
 ·cases x0
  ·exact aj (.bool false) hd 11 44
  cases z1
  ·exact aj (.bool false) hd 11 44
  have y9:=(HB.out.1.below hR).2 12 _ rfl;exact yq hd 11 44 (ah rfl (dq hd 14 47) (by go_simp)) rfl hR
 ·cases x0
  ·exact aj (.bool false) hd 11 44
  cases z1
  ·exact aj (.bool false) hd 11 44
  have g11:ρ (.tmp 44)=.bool true:=gq hd 11 44;have h15:_=_:=dq hd 15 48;refine .inl ⟨(by show (match ρ (.tmp 44) with| .bool b=>b == true|_=>false)=true;rw [g11];rfl),.inr ⟨_,_,bv rfl (hf _) (args:=#[Vi L.du]) (by simp [h15]) (by kernel_rfl),?_⟩⟩;refine (pw _ _ _ HX.out.2.2.1).mono ?_;rintro e u' ⟨he,rfl⟩;exact ⟨_,he.trans rfl,rfl,hR,Br⟩
 ·cases x0
  ·exact yr (aC rfl (dq hd 11 44)) (by simpa using hc _) hR
  cases z1
  ·exact yr (aC rfl (dq hd 11 44)) (by simpa using hc _) hR
  exact yr (aC rfl (dq hd 11 44)) (by simpa using (dq hd 16 49)) hR
 ·exact yr rfl (dq hd 17 50) hR
 ·cases x0
  ·exact aj (.bool false) hd 18 51
  cases z1
  ·exact aj (.bool false) hd 18 51
  cases z2
  ·exact aj (.bool false) hd 18 51
  exact yq hd 18 51 rfl (hρ 0 (by kernel_rfl)) hR
 ·cases x0
  ·exact aj (.bool false) hd 18 51
  cases z1
  ·exact aj (.bool false) hd 18 51
  cases z2
  ·exact aj (.bool false) hd 18 51
  exact yq hd 18 51 (cE rfl (dq hd 19 52)) rfl hR
 ·cases x0
  ·exact aj (.bool false) hd 18 51
  cases z1
  ·exact aj (.bool false) hd 18 51
  cases z2
  ·exact aj (.bool false) hd 18 51
  exact yq hd 18 51 (ao rfl (dq hd 20 53) (by go_simp)) rfl hR
 ·cases x0
  ·exact aj (.bool false) hd 18 51
  cases z1
  ·exact aj (.bool false) hd 18 51
  cases z2
  ·exact aj (.bool false) hd 18 51
  have y9:=(HB.out.1.below hR).2 13 _ rfl;exact yq hd 18 51 (ah rfl (dq hd 21 54) (by go_simp)) rfl hR
 ·cases x0
  ·exact aj (.bool false) hd 18 51
  cases z1
  ·exact aj (.bool false) hd 18 51
  cases z2
  ·exact aj (.bool false) hd 18 51
  cases z3
  ·have t3:¬ (0<= L.le):=of_decide_eq_false HX.out.2.2.2.1
   exact yq hd 18 51 (aG rfl (hc _) (dq hd 22 55) (by go_simp)) rfl hR
  have t3:(0<= L.le):=of_decide_eq_true HX.out.2.2.2.1;exact yq hd 18 51 (aG rfl (hc _) (dq hd 22 55) (by go_simp)) rfl hR
 ·cases x0
  ·exact yr (aC rfl (dq hd 18 51)) (by simpa using hc _) hR
  cases z1
  ·exact yr (aC rfl (dq hd 18 51)) (by simpa using hc _) hR
  cases z2
  ·exact yr (aC rfl (dq hd 18 51)) (by simpa using hc _) hR
  exact yr (aC rfl (dq hd 18 51)) (by simpa using (dq hd 23 56)) hR
 ·exact yr rfl (dq hd 24 57) hR
 ·cases x0
  ·exact aj (.bool false) hd 25 58
  cases z1
  ·exact aj (.bool false) hd 25 58
  cases z2
  ·exact aj (.bool false) hd 25 58
  cases z3
  ·exact aj (.bool false) hd 25 58
  exact yq hd 25 58 rfl (hρ 0 (by kernel_rfl)) hR
 ·cases x0
  ·exact aj (.bool false) hd 25 58
  cases z1
  ·exact aj (.bool false) hd 25 58
  cases z2
  ·exact aj (.bool false) hd 25 58
  cases z3
  ·exact aj (.bool false) hd 25 58
  exact yq hd 25 58 (cE rfl (dq hd 26 59)) rfl hR
 ·cases x0
  ·exact aj (.bool false) hd 25 58
  cases z1
  ·exact aj (.bool false) hd 25 58
  cases z2
  ·exact aj (.bool false) hd 25 58
  cases z3
  ·exact aj (.bool false) hd 25 58
  exact yq hd 25 58 (ao rfl (dq hd 27 60) (by go_simp)) rfl hR
 ·cases x0
  ·exact aj (.bool false) hd 25 58
  cases z1
  ·exact aj (.bool false) hd 25 58
  cases z2
  ·exact aj (.bool false) hd 25 58
  cases z3
  ·exact aj (.bool false) hd 25 58
  have y9:=(HB.out.1.below hR).2 13 _ rfl;exact yq hd 25 58 (ah rfl (dq hd 28 61) (by go_simp)) rfl hR
 ·cases x0
  ·exact aj (.bool false) hd 25 58
  cases z1
  ·exact aj (.bool false) hd 25 58
  cases z2
  ·exact aj (.bool false) hd 25 58
  cases z3
  ·exact aj (.bool false) hd 25 58
  exact yq hd 25 58 rfl (hρ 0 (by kernel_rfl)) hR
 ·cases x0
  ·exact aj (.bool false) hd 25 58
  cases z1
  ·exact aj (.bool false) hd 25 58
  cases z2
  ·exact aj (.bool false) hd 25 58
  cases z3
  ·exact aj (.bool false) hd 25 58
  exact yq hd 25 58 (cE rfl (dq hd 30 63)) rfl hR
 ·cases x0
  ·exact aj (.bool false) hd 25 58
  cases z1
  ·exact aj (.bool false) hd 25 58
  cases z2
  ·exact aj (.bool false) hd 25 58
  cases z3
  ·exact aj (.bool false) hd 25 58
  exact yq hd 25 58 (ao rfl (dq hd 31 64) (by go_simp)) rfl hR
 ·cases x0
  ·exact aj (.bool false) hd 25 58
  cases z1
  ·exact aj (.bool false) hd 25 58
  cases z2
  ·exact aj (.bool false) hd 25 58
  cases z3
  ·exact aj (.bool false) hd 25 58
  have y9:=(HB.out.1.below hR).2 16 _ rfl;exact yq hd 25 58 (ah rfl (dq hd 32 65) (by go_simp)) rfl hR
 ·cases x0
  ·exact aj (.bool false) hd 25 58
  cases z1
  ·exact aj (.bool false) hd 25 58
  cases z2
  ·exact aj (.bool false) hd 25 58
  cases z3
  ·exact aj (.bool false) hd 25 58
  cases z4
  ·have t4:¬ (L.le<= L.tr):=of_decide_eq_false HX.out.2.2.2.2
   exact yq hd 25 58 (aG rfl (dq hd 29 62) (dq hd 33 66) (by go_simp)) rfl hR
  have t4:(L.le<= L.tr):=of_decide_eq_true HX.out.2.2.2.2;exact yq hd 25 58 (aG rfl (dq hd 29 62) (dq hd 33 66) (by go_simp)) rfl hR
 ·cases x0
  ·exact yr (aC rfl (dq hd 25 58)) (by simpa using hc _) hR
  cases z1
  ·exact yr (aC rfl (dq hd 25 58)) (by simpa using hc _) hR
  cases z2
  ·exact yr (aC rfl (dq hd 25 58)) (by simpa using hc _) hR
  cases z3
  ·exact yr (aC rfl (dq hd 25 58)) (by simpa using hc _) hR
  exact yr (aC rfl (dq hd 25 58)) (by simpa using (dq hd 34 67)) hR
 exact yr rfl (dq hd 35 68) hR
theorem oE(L:La)(g o n cp:Nat)(a a1 a2:OA)(l1 l2 c1 c2:Nat)(f:Nat->Ca)(w:World)(hB:iW w g o L n cp a a1 a2 l1 l2 c1 c2)(hs:kG w n f L a a1 a2 l1 l2)(hb:pm n f):
 Calls prog 148 #[Vp g o] w fun e w'=>e=.returned (.bool (decide (n<= 40) && dx f n))/\Below w.heap.size w w':=by
 have HB:Hid (iW w g o L n cp a a1 a2 l1 l2 c1 c2/\mK w a n f/\pm n f):=⟨hB,hs.2.2.1,hb⟩
 obtain ⟨⟨y0,y1,y2,y3,y4,y5,y6,y7,y8,y9,y10,y11,y12,y13,y14,y15,y16⟩,_⟩:=hB.svn;have hn2:=hb.1;clear hB hs hb;by_cases h40:n<= 40
 ·have hg:¬ (40<(n:Int)):=by omega
  rw [decide_eq_true h40];go_enter func148,ntmps148
  go_wp2;clear y0 y1 y2 y3 y4 y5 y6 y7 y8 y9 y10 y11 y12 y13 y14 y15 y16;go_loopw [15] (fun i wr=>∃ k:Nat,k<= n/\i=Vi k/\dx f k=true/\Below w.heap.size w wr) (fun i _=>n-(intOf i).toNat)
  case atStart=>exact ⟨0,Nat.zero_le _,rfl,rfl,Br⟩
  case round=>
   obtain ⟨k,hk,rfl,hall,hbl⟩:=hrel;obtain ⟨⟨y0,y1,y2,y3,y4,y5,y6,y7,y8,y9,y10,y11,y12,y13,y14,y15,y16⟩,_⟩:=(HB.out.1.below hbl).svn;by_cases hlt:k<n
   ·have hi:(k:Int)<(n:Int):=by omega
    obtain ⟨b,off,b1,b2,m1,m2,k1,k2,rfl,hb0,hm1,hm2,⟨d0,d1,d2,d3,d4,d5,d6,d7,d8⟩,s1,s2⟩:=mK.nine (HB.out.2.1.below hbl) hlt;obtain ⟨C,hC⟩:∃ C,C=f k:=⟨_,rfl⟩
    rw [<- hC] at d0 d1 d2 d3 d4 d5 d8 hm1 hm2 s1 s2;obtain ⟨x,hx⟩:∃ x,dw C=x:=⟨_,rfl⟩
    have hbd:=HB.out.2.2.2 k hlt;have HS:Hid (aZ wr b1 C.ws/\be wr b2 C.bs/\m1=C.ws.length/\m2=C.bs.length/\m1<= 2000000/\m2<= 2000000/\C=f k/\dw C=x/\dx f k=true/\Below w.heap.size w wr):=⟨s1,s2,hm1,hm2,by rw [hm1,hC];exact hbd.1,by rw [hm2,hC];exact hbd.2,hC,hx,hall,hbl⟩
    clear s1 s2 hm1 hm2 hC hx hbd hb0 hall hbl;go_wp2_with fail
    refine (iV C b (off+k*9) b1 b2 m1 m2 k1 k2 _ d0 d1 d2 d3 d4 d5 d6 d7 d8 HS.out.2.2.1 HS.out.2.2.2.1 HS.out.1 HS.out.2.1 HS.out.2.2.2.2.1 HS.out.2.2.2.2.2.1).mono ?_;rintro e w1 ⟨rfl,b9⟩;rw [HS.out.2.2.2.2.2.2.2.1];have HW:Hid (Below w.heap.size w w1):=af HS.out.2.2.2.2.2.2.2.2.2 b9;clear b9 d0 d1 d2 d3 d4 d5 d6 d7 d8 y0 y1 y2 y3 y4 y5 y6 y7 y8 y9 y10 y11 y12 y13 y14 y15 y16;cases x
    case false=>
     have HF:Hid (dx f n=false):=py hlt (by rw [<- HS.out.2.2.2.2.2.2.1];exact HS.out.2.2.2.2.2.2.2.1);go_wp2;go_ret;exact ⟨(by rw [HF.out];rfl),HW.out⟩
    have HF:Hid (dx f (k+1)=true):=by show (dx f k && dw (f k))=true;rw [HS.out.2.2.2.2.2.2.2.2.1,<- HS.out.2.2.2.2.2.2.1,HS.out.2.2.2.2.2.2.2.1];rfl
    go_wp2;go_roundw
    case rel=>exact ⟨k+1,by omega,by go_num,HF.out,HW.out⟩
    case measure=>simp [intOf];omega
   have hi:¬ (k:Int)<(n:Int):=by omega
   have e9:k=n:=by omega
   subst e9;have HF:Hid (dx f k=true):=hall;clear hall;go_wp2;go_ret;exact ⟨(by rw [HF.out];rfl),hbl⟩
 have hg:40<(n:Int):=by omega
 rw [decide_eq_false h40];go_enter func148,ntmps148
 go_wp2;go_ret;exact ⟨rfl,Br⟩
theorem qh(L:La)(g o n cp:Nat)(a a1 a2:OA)(l1 l2 c1 c2:Nat)(f:Nat->Ca)(w:World)(hB:iW w g o L n cp a a1 a2 l1 l2 c1 c2)(hs:kG w n f L a a1 a2 l1 l2)(hb:pm n f)(hl1:l1<= 2000000)(hl2:l2<= 2000000):
 Calls prog 99 #[Vp g o] w fun e w'=>e=.returned (.bool (iE n f L l1 l2))/\Below w.heap.size w w':=by
 obtain ⟨x0,hx0⟩:∃ x,aB L.wt 1 100=x:=⟨_,rfl⟩
 obtain ⟨x1,hx1⟩:∃ x,aB L.tr 0 5=x:=⟨_,rfl⟩
 obtain ⟨x2,hx2⟩:∃ x,aB L.nx 0 65535=x:=⟨_,rfl⟩
 obtain ⟨x3,hx3⟩:∃ x,fE L l1 l2=x:=⟨_,rfl⟩
 obtain ⟨x4,hx4⟩:∃ x,(decide (n<= 40) && dx f n)=x:=⟨_,rfl⟩
 have he:iE n f L l1 l2=(x0 && (x1 && (x2 && (x3 && x4)))):=by
  unfold iE;rw [hx0,hx1,hx2,hx3,<- hx4];cases x0 <;> cases x1 <;> cases x2 <;> cases x3 <;> simp
 have HX:Hid (aB L.wt 1 100=x0/\aB L.tr 0 5=x1/\aB L.nx 0 65535=x2/\fE L l1 l2=x3/\(decide (n<= 40) && dx f n)=x4/\iW w g o L n cp a a1 a2 l1 l2 c1 c2/\kG w n f L a a1 a2 l1 l2/\pm n f):=⟨hx0,hx1,hx2,hx3,hx4,hB,hs,hb⟩
 rw [he];obtain ⟨⟨y0,y1,y2,y3,y4,y5,y6,y7,y8,y9,y10,y11,y12,y13,y14,y15,y16⟩,_⟩:=hB.svn;clear hx0 hx1 hx2 hx3 hx4 hB hs hb he;go_enter func99,ntmps99
 go_wp2_with fail
 refine (uR _ _ _ HX.out.1).mono ?_;rintro e w1 ⟨rfl,rfl⟩;cases x0
 case false=>
  go_wp2;go_ret;exact ⟨rfl,Br⟩
 go_wp2_with fail
 refine (sO _ _ _ HX.out.2.1).mono ?_;rintro e w1 ⟨rfl,rfl⟩;cases x1
 case false=>
  go_wp2;go_ret;exact ⟨rfl,Br⟩
 go_wp2_with fail
 refine (bH _ _ _ HX.out.2.2.1).mono ?_;rintro e w1 ⟨rfl,rfl⟩;cases x2
 case false=>
  go_wp2;go_ret;exact ⟨rfl,Br⟩
 go_wp2_with fail
 refine (qg L g o n cp a a1 a2 l1 l2 c1 c2 _ HX.out.2.2.2.2.2.1 HX.out.2.2.2.2.2.2.1.1 HX.out.2.2.2.2.2.2.1.2.1 HX.out.2.2.2.2.2.2.1.2.2.2.1 HX.out.2.2.2.2.2.2.1.2.2.2.2 hl1 hl2).mono ?_;rintro e w1 ⟨rfl,b1⟩;rw [HX.out.2.2.2.1];clear y0 y1 y2 y3 y4 y5 y6 y7 y8 y9 y10 y11 y12 y13 y14 y15 y16;cases x3
 case false=>
  go_wp2;go_ret;exact ⟨rfl,b1⟩
 go_wp2_with fail
 refine (oE L g o n cp a a1 a2 l1 l2 c1 c2 f _ (HX.out.2.2.2.2.2.1.below b1) (HX.out.2.2.2.2.2.2.1.below b1) HX.out.2.2.2.2.2.2.2).mono ?_;rintro e w2 ⟨rfl,b2⟩;rw [HX.out.2.2.2.2.1];have HW:Hid (Below w1.heap.size w1 w2/\Below w2.heap.size w2 w2):=⟨b2,Br⟩
 have B2:=af b1 b2;clear b1 b2;go_wp2;go_ret;exact ⟨rfl,B2⟩
end Go.Proofs.YtohikbpolofklaaGreat
