/- Texts that the proof needs, joined: Sw4. -/
import Derived.Test.YtohikbpolofklaaGreatY16
import Derived.Test.YtohikbpolofklaaGreatY28
import Derived.Test.YtohikbpolofklaaGreatY1
set_option linter.unusedVariables false
set_option linter.unusedSimpArgs false
set_option maxHeartbeats 8000000
set_option maxRecDepth 20000
namespace Go.Proofs.YtohikbpolofklaaGreat
open Go.RowKit Go.Joins Go.Proofs.Tryz
abbrev iD:Array Value:=#[Zs,.bool false,Vi 0,Vi 0,Vi 0,Vi 0,Vi 0,Vi 0,Zs,Zs,Vi 0,Vi 0,Vi 0,Vi 0,Vi 0,Vi 0,Vi 0]
def cH(w:World)(lo hi:Nat)(ts:List Tr)(vs:List Value):Prop:=vs.length=ts.length/\∃ K:Nat->Sk,∀ i u,vs[i]? = some u->aQ w (ac ts i) (K i) u/\∀ b,(K i).bl b->lo<= b/\b<hi
theorem Fl.r{w:World}{lo:Nat}{ts:List Tr}{vs:List Value}(h:Fl w lo ts vs):cH w lo w.heap.size ts vs:=by
 obtain ⟨h0,K,h⟩:=h;exact ⟨h0,K,fun i u hu=>⟨(h i u hu).1,fun b hb=>⟨(h i u hu).2 b hb,(h i u hu).1.lt hb⟩⟩⟩
theorem cH.fl{w:World}{lo hi:Nat}{ts:List Tr}{vs:List Value}(h:cH w lo hi ts vs):Fl w lo ts vs:=by
 obtain ⟨h0,K,h⟩:=h;exact ⟨h0,K,fun i u hu=>⟨(h i u hu).1,fun b hb=>((h i u hu).2 b hb).1⟩⟩
theorem cH.same{w w':World}{lo hi:Nat}{ts:List Tr}{vs:List Value}(h:cH w lo hi ts vs)(hs:w.heap.size<= w'.heap.size)(hb:∀ b,lo<= b->b<hi->w'.heap[b]? = w.heap[b]?):cH w' lo hi ts vs:=by
 obtain ⟨h0,K,h⟩:=h;exact ⟨h0,K,fun i u hu=>⟨(h i u hu).1.same hs (fun b q=>hb b ((h i u hu).2 b q).1 ((h i u hu).2 b q).2),(h i u hu).2⟩⟩
theorem cH.below{w w':World}{lo hi:Nat}{ts:List Tr}{vs:List Value}(h:cH w lo hi ts vs)(hb:Below w.heap.size w w')(hh:hi<= w.heap.size):cH w' lo hi ts vs:=
 h.same hb.size (fun b _ q=>hb.block b (by omega))
theorem cH.grow{w w':World}{lo hi:Nat}{r:Option Nat}{ts:List Tr}{vs:List Value}(h:cH w lo hi ts vs)(hg:w.grownBy w' r)(hr:∀ j,r=some j->j<lo\/hi<= j)(hh:hi<= w.heap.size):cH w' lo hi ts vs:=
 h.same hg.size (fun b q1 q2=>hg.block b (by omega) (fun e=>by have:=hr b e.symm;omega))
theorem cH.mono{w:World}{lo hi lo' hi':Nat}{ts:List Tr}{vs:List Value}(h:cH w lo hi ts vs)(h1:lo'<= lo)(h2:hi<= hi'):cH w lo' hi' ts vs:=by
 obtain ⟨h0,K,h⟩:=h;exact ⟨h0,K,fun i u hu=>⟨(h i u hu).1,fun b q=>by have:=(h i u hu).2 b q;omega⟩⟩
theorem Fl.nil(w:World)(lo:Nat):Fl w lo [] []:=⟨rfl,fun _=>.leaf,fun i u hu=>by simp at hu⟩
theorem nz(X:VL)(b1:OA)(l1 d1:Nat)(b2:OA)(l2 d2:Nat)(w:World):(Instr.buildSlice 85 1 #[(0,.agg (bh X b1 l1 d1 b2 l2 d2).toArray)]).run prog w=.ok (.slice (some ⟨w.heap.size,0,none⟩) 1 1) (w.alloc (.cells (bh X b1 l1 d1 b2 l2 d2).toArray 88)):=by kernel_rfl
theorem qW(X:VN)(a1:OA)(l1 c1:Nat)(a2:OA)(l2 c2:Nat)(a3:OA)(l3 c3:Nat)(w:World)(r1:Rd w 0 (.list 9 X.nq (fun i=>ac (aJ (X.qf i)))) (.slice a1 l1 c1))(r2:Rd w 0 (aw X.c.q.ws) (.slice a2 l2 c2))(r3:Rd w 0 (ai X.c.q.bs) (.slice a3 l3 c3))(hz:ax 17 (ac (aN X))<= 1048576):
 Calls prog 42 #[.agg (bj X a1 l1 c1 a2 l2 c2 a3 l3 c3).toArray] w fun e w'=>∃ b1 d1 b2 d2 b3 d3,e=.returned (.agg (bj X b1 l1 d1 b2 l2 d2 b3 l3 d3).toArray)/\Fl w' w.heap.size (aN X) (bj X b1 l1 d1 b2 l2 d2 b3 l3 d3)/\Below w.heap.size w w':=by
 obtain ⟨_,_,h9,-,hn⟩:=r1.shape;simp only [Value.slice.injEq] at h9;obtain ⟨-,rfl,-⟩:=h9;obtain ⟨_,_,h9,-,-,-⟩:=r2.ints;simp only [Value.slice.injEq] at h9;obtain ⟨-,rfl,-⟩:=h9;obtain ⟨_,_,h9,-,-,-⟩:=r3.bools;simp only [Value.slice.injEq] at h9;obtain ⟨-,rfl,-⟩:=h9
 have HZ:Hid (ax 9 (ac (aJ X.c))<= 1048576/\X.nq<= 1048576/\∀ k,k<X.nq->ax 9 (ac (aJ (X.qf k)))<= 1048576):=by
  rw [eT] at hz;rw [Tr.sz_list] at hz;refine ⟨?_,by omega,fun k hk=>?_⟩
  ·simp only [dy]
   omega
  have:=ci (fun k=>ax 9 (ac (aJ (X.qf k)))) hk;omega
 have hn1:=HZ.out.2.1;obtain ⟨B,hB⟩:∃ B,B=w.heap.size:=⟨_,rfl⟩
 have HB:Hid (w.heap.size=B):=hB.symm;obtain ⟨W,hW⟩:∃ W,W=((w.alloc (.cells (bj X a1 X.nq c1 a2 X.c.q.ws.length c2 a3 X.c.q.bs.length c3).toArray 90)).alloc (.cells iD 90)).alloc (.cells (bj X a1 X.nq c1 a2 X.c.q.ws.length c2 a3 X.c.q.bs.length c3).toArray 90):=⟨_,rfl⟩
 have HS:Hid (Rd w 0 (.list 9 X.nq (fun i=>ac (aJ (X.qf i)))) (.slice a1 X.nq c1)/\Rd w 0 (aw X.c.q.ws) (.slice a2 X.c.q.ws.length c2)/\Rd w 0 (ai X.c.q.bs) (.slice a3 X.c.q.bs.length c3)/\X.nq<= maxLen):=⟨r1,r2,r3,hn⟩
 have G0:Hid (Below w.heap.size w W/\ae W B 90 (bj X a1 X.nq c1 a2 X.c.q.ws.length c2 a3 X.c.q.bs.length c3).toArray/\ae W (B+1) 90 iD/\ae W (B+2) 90 (bj X a1 X.nq c1 a2 X.c.q.ws.length c2 a3 X.c.q.bs.length c3).toArray/\W.heap.size=B+3):=by
  refine ⟨?_,?_,?_,?_,?_⟩
  ·rw [hW];exact af (af (aa w _) (aa _ _)) (aa _ _)
  ·rw [hW,hB];exact ((ae.new w _ _).below (aa _ _)).below (aa _ _)
  ·rw [hW,hB];have:=(ae.new (w.alloc (.cells (bj X a1 X.nq c1 a2 X.c.q.ws.length c2 a3 X.c.q.bs.length c3).toArray 90)) iD 90).below (aa _ (.cells (bj X a1 X.nq c1 a2 X.c.q.ws.length c2 a3 X.c.q.bs.length c3).toArray 90));simpa using this
  ·rw [hW,hB];have:=ae.new ((w.alloc (.cells (bj X a1 X.nq c1 a2 X.c.q.ws.length c2 a3 X.c.q.bs.length c3).toArray 90)).alloc (.cells iD 90)) (bj X a1 X.nq c1 a2 X.c.q.ws.length c2 a3 X.c.q.bs.length c3).toArray 90;simpa using this
  rw [hW,hB];simp
 obtain ⟨⟨y0,y1,y2,y3,y4,y5,y6,y7,y8,y9,y10,y11,y12,y13,y14,y15,y16⟩,-⟩:=((ae.new w (bj X a1 X.nq c1 a2 X.c.q.ws.length c2 a3 X.c.q.bs.length c3).toArray 90).below (aa _ (.cells iD 90))).tc17;clear r1 r2 r3 hz hn;go_enter func42,ntmps42
 go_upto_region 2 with fail
 clear y0 y1 y2 y3 y4 y5 y6 y7 y8 y9 y10 y11 y12 y13 y14 y15 y16;have hB1:w.heap.size+1=B+1:=by omega
 have hB2:w.heap.size+1+1=B+2:=by omega
 rw [<- hW,hB2,hB1,<- hB];clear hW hB hB1 hB2;obtain ⟨⟨y0,y1,y2,y3,y4,y5,y6,y7,y8,y9,y10,y11,y12,y13,y14,y15,y16⟩,-⟩:=G0.out.2.1.tc17;go_wp2_with fail
 refine (iO X.c a2 _ c2 a3 _ c3 _ (HS.out.2.1.below G0.out.1) (HS.out.2.2.1.below G0.out.1) HZ.out.1).mono ?_;rintro e w1 ⟨b2,d2,b3,d3,rfl,q,hb⟩;obtain ⟨⟨z0,z1,z2,z3,z4,z5,z6,z7,z8,z9,bM,cx,z12,z13,z14,z15,z16⟩,zf⟩:=(G0.out.2.2.2.1.below hb).tc17;clear y0 y1 y2 y3 y4 y5 y6 y7 y8 y9 y10 y11 y12 y13 y14 y15 y16;have g2:=zf 2;have g3:=zf 3;have g4:=zf 4;have g5:=zf 5;have g6:=zf 6;have g7:=zf 7;have g8:=zf 8;have g9:=zf 9;have g10:=zf 10;obtain ⟨W1,hX⟩:∃ z,z=aF w1 (B+2) 2 [Vi X.c.id,Vi X.c.pa,Vi X.c.un,Vi X.c.q.kd,Vi X.c.q.pl,Vi X.c.q.n,.slice b2 X.c.q.ws.length d2,.slice b3 X.c.q.bs.length d3,Vi X.c.q.wa]:=⟨_,rfl⟩
 obtain ⟨M,hM⟩:∃ M,M=W1.heap.size:=⟨_,rfl⟩
 have G1:Hid (Below w.heap.size w W1/\ae W1 B 90 (bj X a1 X.nq c1 a2 X.c.q.ws.length c2 a3 X.c.q.bs.length c3).toArray/\ae W1 (B+1) 90 iD/\ae W1 (B+2) 90 (bj X a1 X.nq c1 b2 X.c.q.ws.length d2 b3 X.c.q.bs.length d3).toArray/\B+3<= M/\M=W1.heap.size/\cH W1 (B+3) M (aJ X.c) (bh X.c b2 X.c.q.ws.length d2 b3 X.c.q.bs.length d3)):=by
  have gs:w1.grownBy W1 (some (B+2)):=by rw [hX];exact bf _ _ _
  have s1:=hb.size;have s2:=gs.size;have s3:=G0.out.2.2.2.2;have s4:=HB.out;have f1:=(q.fl.mono (lo':=B+3) (by omega)).r;exact ⟨by rw [hX];exact aD (by omega) _ _ _ (af G0.out.1 hb),by rw [hX];exact ae.stNe (by omega) _ _ (G0.out.2.1.below hb),by rw [hX];exact ae.stNe (by omega) _ _ (G0.out.2.2.1.below hb),by rw [hX];exact ae.wr (G0.out.2.2.2.1.below hb) (by simp [bO]),by omega,hM,(f1.grow gs (fun j hj=>.inl (by have:=Option.some.inj hj;omega)) Nl).mono Nl (by omega)⟩
 simp only [aF,Nat.reduceAdd,Nat.zero_add] at hX;clear hb q G0;go_upto_region 3 with fail
 rw [<- hX];clear hX zf z0 z1 z2 z3 z4 z5 z6 z7 z8 z9 bM cx z12 z13 z14 z15 z16 g2 g3 g4 g5 g6 g7 g8 g9 g10;obtain ⟨⟨z0,z1,z2,z3,z4,z5,z6,z7,z8,z9,bM,cx,z12,z13,z14,z15,z16⟩,zf⟩:=(G1.out.2.2.2.1.below (aa W1 (.cells #[] 88))).tc17;have g0:=zf 0;clear zf;go_upto_region 5 with fail
 rw [<- hM];obtain ⟨W2,hX⟩:∃ z,z=aF (W1.alloc (.cells #[] 88)) (B+2) 0 [.slice (some ⟨M,0,none⟩) 0 0]:=⟨_,rfl⟩
 have HH0:Hid (bE W2 M 88 9 (.slice (some ⟨M,0,none⟩) 0 0) 0 (fun i=>aJ (X.qf i))/\ae W2 (B+2) 90 (bj X (some ⟨M,0,none⟩) 0 0 b2 X.c.q.ws.length d2 b3 X.c.q.bs.length d3).toArray/\ae W2 B 90 (bj X a1 X.nq c1 a2 X.c.q.ws.length c2 a3 X.c.q.bs.length c3).toArray/\ae W2 (B+1) 90 iD/\Below w.heap.size w W2/\M<= W2.heap.size/\cH W2 (B+3) M (aJ X.c) (bh X.c b2 X.c.q.ws.length d2 b3 X.c.q.bs.length d3)):=by
  have b1:Below W1.heap.size W1 (W1.alloc (.cells #[] 88)):=aa _ _;have gs:(W1.alloc (.cells #[] 88)).grownBy W2 (some (B+2)):=by rw [hX];exact bf _ _ _
  have s4:=HB.out;have s5:=G1.out.2.2.2.2.1;have L0:bE (W1.alloc (.cells #[] 88)) M 88 9 (.slice (some ⟨M,0,none⟩) 0 0) 0 (fun i=>aJ (X.qf i)):=by rw [hM];exact bE.new _ _ _ _ _ Nl
  exact ⟨L0.keptLo gs (by omega),by rw [hX];exact ae.wr (G1.out.2.2.2.1.below b1) (by simp [bO]),by rw [hX];exact ae.stNe (by omega) _ _ (G1.out.2.1.below b1),by rw [hX];exact ae.stNe (by omega) _ _ (G1.out.2.2.1.below b1),by rw [hX];exact aD (by omega) _ _ _ (af G1.out.1 b1),by have:=gs.size;have:=b1.size;omega,((G1.out.2.2.2.2.2.2.below b1 (by omega)).grow gs (fun j hj=>.inl (by have:=Option.some.inj hj;omega)) (by have:=b1.size;omega))⟩
 have HM:Hid (B+3<= M):=G1.out.2.2.2.2.1;simp only [aF,Nat.reduceAdd,Nat.zero_add] at hX;rw [<- hX];clear hX z0 z1 z2 z3 z4 z5 z6 z7 z8 z9 bM cx z12 z13 z14 z15 z16 g0 hM G1;have hm3:=HM.out;go_wp2;go_loopw [4] (fun i wr=>∃ (k:Nat),k<= X.nq/\i=Vi k/\∃ p3 q3,bE wr M 88 9 (.slice p3 k q3) k (fun i=>aJ (X.qf i))/\ae wr (B+2) 90 (bj X p3 k q3 b2 X.c.q.ws.length d2 b3 X.c.q.bs.length d3).toArray/\ae wr B 90 (bj X a1 X.nq c1 a2 X.c.q.ws.length c2 a3 X.c.q.bs.length c3).toArray/\ae wr (B+1) 90 iD/\Below w.heap.size w wr/\M<= wr.heap.size/\cH wr (B+3) M (aJ X.c) (bh X.c b2 X.c.q.ws.length d2 b3 X.c.q.bs.length d3)) (fun i _=>X.nq-(intOf i).toNat)
 case atStart=>exact ⟨0,Nat.zero_le _,rfl,_,_,HH0.out⟩
 case round=>
  obtain ⟨k,hk,rfl,p3,q3,HH⟩:=hrel;by_cases hlt:k<X.nq
  ·have hi:(k:Int)<(X.nq:Int):=by omega
   obtain ⟨b,off,vs,rfl,_,hb0,hlen,hr,hrd⟩:=(HS.out.1.below HH.2.2.2.2.1).at hlt;obtain ⟨e1,g1,e2,g2,rfl,r1,r2⟩:=VL.cells hrd hlen;have HR:Hid (wr.rangeAt b (off+k*9) (bh (X.qf k) e1 ((X.qf k).q.ws.length) g1 e2 ((X.qf k).q.bs.length) g2)/\b<wr.heap.size):=⟨hr,hb0⟩
   have HE:Hid (Rd wr 0 (aw (X.qf k).q.ws) (.slice e1 ((X.qf k).q.ws.length) g1)/\Rd wr 0 (ai (X.qf k).q.bs) (.slice e2 ((X.qf k).q.bs.length) g2)/\ax 9 (ac (aJ (X.qf k)))<= 1048576):=⟨r1,r2,HZ.out.2.2 k hlt⟩
   have HK:Hid (_):=HH;obtain ⟨⟨y0,y1,y2,y3,y4,y5,y6,y7,y8,y9,y10,y11,y12,y13,y14,y15,y16⟩,yf⟩:=HH.2.2.1.tc17;clear HH hr hb0 r1 r2 hlen hrd yf HH0;go_upto_region 7 with fail
   clear y0 y1 y2 y3 y4 y5 y6 y7 y8 y9 y10 y11 y12 y13 y14 y15 y16;try go_simp
   refine wp_region_any (by kernel_rfl) ?_
   refine fm 9 (fun u=>Below wr.heap.size wr u) (fun j σ u=>match j with
    |9=>∃ p4 q4 u0,σ 28=.slice p4 (k+1) q4/\bE u M 88 9 (.slice p4 (k+1) q4) (k+1) (fun i=>aJ (X.qf i))/\Below wr.heap.size wr u0/\u0.grownBy u (Value.slice p3 k q3).ownBlock
    |10=>(∃ p4 q4 u0,σ 28=.slice p4 (k+1) q4/\bE u M 88 9 (.slice p4 (k+1) q4) (k+1) (fun i=>aJ (X.qf i))/\Below wr.heap.size wr u0/\u0.grownBy u (Value.slice p3 k q3).ownBlock)/\σ 29=Vp (B+2) 0
    |_=>∃ p4 q4 u0 u1,bE u1 M 88 9 (.slice p4 (k+1) q4) (k+1) (fun i=>aJ (X.qf i))/\Below wr.heap.size wr u0/\u0.grownBy u1 (Value.slice p3 k q3).ownBlock/\u=aF u1 (B+2) 0 [.slice p4 (k+1) q4]) (fun i v u=>match i with
    |0=>v=Vp ((B+2)) 0
    |1=>v=.slice p3 k q3
    |2=>v=Vp B 0
    |3=>v=.slice (some ⟨b,off,none⟩) X.nq c1
    |4=>v=Vi (k:Int)
    |5=>v=Vp b (off+k*9)
    |6=>v=.agg ((bh (X.qf k) e1 ((X.qf k).q.ws.length) g1 e2 ((X.qf k).q.bs.length) g2)).toArray
    |7=>∃ u1 v1 u2 v2,v=.agg (bh (X.qf k) u1 ((X.qf k).q.ws.length) v1 u2 ((X.qf k).q.bs.length) v2).toArray/\Fl u wr.heap.size (aJ (X.qf k)) (bh (X.qf k) u1 ((X.qf k).q.ws.length) v1 u2 ((X.qf k).q.bs.length) v2)
    |8=>∃ c u1 v1 u2 v2,v=.slice (some ⟨c,0,none⟩) 1 1/\ae u c 88 (bh (X.qf k) u1 ((X.qf k).q.ws.length) v1 u2 ((X.qf k).q.bs.length) v2).toArray/\Fl u wr.heap.size (aJ (X.qf k)) (bh (X.qf k) u1 ((X.qf k).q.ws.length) v1 u2 ((X.qf k).q.bs.length) v2)
    |_=>True) (by kernel_rfl) (by kernel_rfl) (by decide) (by kernel_rfl) (fun u u' h hb=>af h hb) ?_ (by first|exact Br|exact Br.drew) ?_ ?_ ?_ ?_ _ _ rfl (by decide) (fun i=>by simp [Array.getD];try (split <;> rfl))
   ·intro i v u u' h hb
    match i,h with
    |0,h=>exact h
    |1,h=>exact h
    |2,h=>exact h
    |3,h=>exact h
    |4,h=>exact h
    |5,h=>exact h
    |6,h=>exact h
    |7,⟨u1,v1,u2,v2,e,h2⟩=>exact ⟨u1,v1,u2,v2,e,h2.below hb⟩
    |8,⟨c,u1,v1,u2,v2,e,kb,h2⟩=>exact ⟨c,u1,v1,u2,v2,e,kb.below hb,h2.below hb⟩
    |_+9,_=>trivial
   rotate_left
   ·intro u i o ρ hi hR ho hρ hc hf hd
    obtain rfl|rfl|rfl|rfl|rfl|rfl|rfl|rfl|rfl:i=0\/i=1\/i=2\/i=3\/i=4\/i=5\/i=6\/i=7\/i=8:=by omega
    all_goals (simp only [List.getElem?_toArray,List.getElem?_cons_zero,List.getElem?_cons_succ,Option.some.injEq] at ho;subst ho)
    ·have s3:ρ (.tmp 3)=Vp ((B+2)) 0:=(hρ 3 (by kernel_rfl)).trans rfl
     exact .inl ⟨rfl,.inl ⟨Vp ((B+2)) 0,u,ao rfl s3 (by go_simp),rfl,Br⟩⟩
    ·have h0:ρ (.tmp 19)=Vp ((B+2)) 0:=dq hd 0 19
     have y9:u.cell? ⟨(B+2),0,none⟩=some (.slice p3 k q3):=(HK.out.2.1.below hR).rng 0 _ rfl;have hr:(Instr.loadAt 85 (Vp ((B+2)) 0)).run prog u=.ok (.slice p3 k q3) u:=by go_simp
     exact .inl ⟨rfl,.inl ⟨.slice p3 k q3,u,ah rfl h0 hr,rfl,Br⟩⟩
    ·have s1:ρ (.tmp 1)=Vp B 0:=(hρ 1 (by kernel_rfl)).trans rfl
     exact .inl ⟨rfl,.inl ⟨Vp B 0,u,ao rfl s1 (by go_simp),rfl,Br⟩⟩
    ·have h2:ρ (.tmp 21)=Vp B 0:=dq hd 2 21
     have y9:u.cell? ⟨B,0,none⟩=some (.slice (some ⟨b,off,none⟩) X.nq c1):=(HK.out.2.2.1.below hR).rng 0 _ rfl;have hr:(Instr.loadAt 85 (Vp B 0)).run prog u=.ok (.slice (some ⟨b,off,none⟩) X.nq c1) u:=by go_simp
     exact .inl ⟨rfl,.inl ⟨.slice (some ⟨b,off,none⟩) X.nq c1,u,ah rfl h2 hr,rfl,Br⟩⟩
    ·have s4:ρ (.tmp 4)=Vi (k:Int):=(hρ 4 (by kernel_rfl)).trans rfl
     exact .inl ⟨rfl,.inl ⟨_,u,rfl,s4,Br⟩⟩
    ·have h3:ρ (.tmp 22)=.slice (some ⟨b,off,none⟩) X.nq c1:=dq hd 3 22
     have h4:ρ (.tmp 23)=Vi (k:Int):=dq hd 4 23;exact .inl ⟨rfl,.inl ⟨Vp b (off+k*9),u,au rfl h3 h4 (by go_simp),rfl,Br⟩⟩
    ·have h5:ρ (.tmp 24)=Vp b (off+k*9):=dq hd 5 24
     have hr:(Instr.loadAt 88 (Vp b (off+k*9))).run prog u=.ok (.agg ((bh (X.qf k) e1 ((X.qf k).q.ws.length) g1 e2 ((X.qf k).q.bs.length) g2)).toArray) u:=run_loadAt_mid u b (off+k*9) 88 ((bh (X.qf k) e1 ((X.qf k).q.ws.length) g1 e2 ((X.qf k).q.bs.length) g2)) _ (ay HR.out.1 HR.out.2 hR) underlying88 rfl (by kernel_rfl);exact .inl ⟨rfl,.inl ⟨.agg ((bh (X.qf k) e1 ((X.qf k).q.ws.length) g1 e2 ((X.qf k).q.bs.length) g2)).toArray,u,ah rfl h5 hr,rfl,Br⟩⟩
    ·have h6:ρ (.tmp 25)=.agg (bh (X.qf k) e1 ((X.qf k).q.ws.length) g1 e2 ((X.qf k).q.bs.length) g2).toArray:=dq hd 6 25
     refine .inl ⟨rfl,.inr ⟨_,_,bv rfl (hf _) (args:=#[.agg (bh (X.qf k) e1 ((X.qf k).q.ws.length) g1 e2 ((X.qf k).q.bs.length) g2).toArray]) (by simp [h6]) (by kernel_rfl),?_⟩⟩;refine (iO (X.qf k) e1 _ g1 e2 _ g2 _ (HE.out.1.below hR) (HE.out.2.1.below hR) HE.out.2.2).mono ?_;rintro e u' ⟨u1,v1,u2,v2,he,o1,b'⟩;exact ⟨_,he,⟨u1,v1,u2,v2,rfl,(o1.fl).mono hR.size⟩,b'⟩
    obtain ⟨u1,v1,u2,v2,h7,ho2⟩:∃ u1 v1 u2 v2,ρ (.tmp 26)=.agg (bh (X.qf k) u1 ((X.qf k).q.ws.length) v1 u2 ((X.qf k).q.bs.length) v2).toArray/\Fl u wr.heap.size (aJ (X.qf k)) (bh (X.qf k) u1 ((X.qf k).q.ws.length) v1 u2 ((X.qf k).q.bs.length) v2):=dq hd 7 26;exact .inl ⟨rfl,.inl ⟨_,_,dN rfl (qs:=#[(0,.agg (bh (X.qf k) u1 ((X.qf k).q.ws.length) v1 u2 ((X.qf k).q.bs.length) v2).toArray)]) (by simp [h7]) (nz (X.qf k) u1 _ v1 u2 _ v2 u),⟨_,u1,v1,u2,v2,rfl,ae.new _ _ _,ho2.below (aa _ _)⟩,Br.alloc Nl _⟩⟩
   ·intro u o ρ hR ho hρ hc hf hv
    simp only [List.getElem?_toArray,List.getElem?_cons_zero,List.getElem?_cons_succ,Option.some.injEq] at ho;subst ho;have h1:ρ (.tmp 20)=.slice p3 k q3:=hv 1 20 (by decide) rfl;obtain ⟨c,u1,v1,u2,v2,h8,kb,ho2⟩:∃ c u1 v1 u2 v2,ρ (.tmp 27)=.slice (some ⟨c,0,none⟩) 1 1/\ae u c 88 (bh (X.qf k) u1 ((X.qf k).q.ws.length) v1 u2 ((X.qf k).q.bs.length) v2).toArray/\Fl u wr.heap.size (aJ (X.qf k)) (bh (X.qf k) u1 ((X.qf k).q.ws.length) v1 u2 ((X.qf k).q.bs.length) v2):=hv 8 27 (by decide) rfl;have hL:=HK.out.1.below hR;have hsz:=hR.size;obtain ⟨v',w',hrun,L',g',k'⟩:=iC 85 85 88 9 104 (.agg #[Vi 0,Vi 0,Vi 0,Vi 0,Vi 0,Vi 0,Zs,Zs,Vi 0]) underlying85 (by kernel_rfl) rfl (by decide) (by decide) M (.slice p3 k q3) k (fun i=>aJ (X.qf i)) hL c 1 (bh (X.qf k) u1 ((X.qf k).q.ws.length) v1 u2 ((X.qf k).q.bs.length) v2) rfl (fun j x hx=>kb.cell j (by simpa using hx)) (fun x hx=>by simp at hx;rcases hx with rfl|rfl|rfl|rfl|rfl|rfl|rfl|rfl|rfl <;> rfl) (ho2.elG HK.out.2.2.2.2.2.1 (fun j hj=>(HK.out.1.lt j hj).2)) (by omega) (Nat.le_trans HK.out.2.2.2.2.2.1 hsz);obtain ⟨p4,q4,rfl⟩:=L'.shape;exact ⟨rfl,.inl ⟨_,w',gO rfl h1 h8 hrun,p4,q4,u,eM,L',hR,g'⟩⟩
   ·intro u i o ρ hi ho hE hρ hc hf
    have hi2:i+1<12:=by
     have:=(Array.getElem?_eq_some_iff.1 ho).1;simpa using this
    obtain rfl|rfl:i=9\/i=10:=by omega
    all_goals (simp only [List.getElem?_toArray,List.getElem?_cons_zero,List.getElem?_cons_succ,Option.some.injEq] at ho;subst ho)
    ·have s3:ρ (.tmp 3)=Vp (B+2) 0:=(hρ 3 (by kernel_rfl)).trans rfl
     obtain ⟨p4,q4,u0,e1,t1,t2,t3⟩:=hE;exact ⟨rfl,.inl ⟨Vp (B+2) 0,u,ao rfl s3 (by go_simp),⟨p4,q4,u0,(jY (by decide)).trans e1,t1,t2,t3⟩,eM⟩⟩
    obtain ⟨⟨p4,q4,u0,e1,t1,t2,t3⟩,e2⟩:=hE;have e1':ρ (.tmp 28)=.slice p4 (k+1) q4:=e1;have e2':ρ (.tmp 29)=Vp (B+2) 0:=e2;have kF:=bE.blk (HK.out.1.below t2) (HK.out.2.1.below t2) t3 (by decide);have c1:=kF.cell 0 rfl;have f1:=kF.fro 0;have hr:(Instr.storeAt 85 (Vp (B+2) 0) (.slice p4 (k+1) q4)).run prog u=.ok () (aF u (B+2) 0 [.slice p4 (k+1) q4]):=by go_simp;rfl
    exact ⟨rfl,.inr (.inr ⟨rfl,_,bY rfl e2' e1' hr,p4,q4,u0,u,t1,t2,t3,rfl⟩)⟩
   intro vs σ u hE hvs;obtain ⟨p4,q4,u0,u1,t1,t2,t3,rfl⟩:∃ p4 q4 u0 u1,bE u1 M 88 9 (.slice p4 (k+1) q4) (k+1) (fun i=>aJ (X.qf i))/\Below wr.heap.size wr u0/\u0.grownBy u1 (Value.slice p3 k q3).ownBlock/\u=aF u1 (B+2) 0 [.slice p4 (k+1) q4]:=hE;have L0:=HK.out.1.below t2;have kF:=bE.blk L0 (HK.out.2.1.below t2) t3 (by decide);have kA:=bE.blk L0 (HK.out.2.2.1.below t2) t3 (by decide);have kR:=bE.blk L0 (HK.out.2.2.2.1.below t2) t3 (by decide);have bl:Below w.heap.size w u1:=(af HK.out.2.2.2.2.1 t2).grown t3 (by have:=HK.out.2.2.2.2.2.1;have:=t2.size;have:=HB.out;omega) (fun j hj=>by have:=(HK.out.1.lt j hj).1;have:=HB.out;omega);have gs:u1.grownBy (aF u1 (B+2) 0 [.slice p4 (k+1) q4]) (some (B+2)):=bf _ _ _;have o9:=HK.out.2.2.2.2.2.2;have s1:=t2.size;have s2:=t3.size;have s3:=HK.out.2.2.2.2.2.1;have s4:=HB.out;have o8:cH (aF u1 (B+2) 0 [.slice p4 (k+1) q4]) (B+3) M (aJ X.c) (bh X.c b2 X.c.q.ws.length d2 b3 X.c.q.bs.length d3):=((o9.below t2 s3).grow t3 (fun j hj=>.inr (HK.out.1.lt j hj).1) (by omega)).grow gs (fun j hj=>.inl (by have:=Option.some.inj hj;omega)) (by omega);obtain ⟨W3,hW3⟩:∃ W3,W3=aF u1 (B+2) 0 [.slice p4 (k+1) q4]:=⟨_,rfl⟩
   have H3:Hid (bE W3 M 88 9 (.slice p4 (k+1) q4) (k+1) (fun i=>aJ (X.qf i))/\ae W3 (B+2) 90 (bj X p4 (k+1) q4 b2 X.c.q.ws.length d2 b3 X.c.q.bs.length d3).toArray/\ae W3 B 90 (bj X (some ⟨b,off,none⟩) X.nq c1 a2 X.c.q.ws.length c2 a3 X.c.q.bs.length c3).toArray/\ae W3 (B+1) 90 iD/\Below w.heap.size w W3/\M<= W3.heap.size/\cH W3 (B+3) M (aJ X.c) (bh X.c b2 X.c.q.ws.length d2 b3 X.c.q.bs.length d3)):=by
    rw [hW3];exact ⟨t1.keptLo gs (by omega),ae.wr kF (by simp [bO]),ae.stNe (by omega) _ _ kA,ae.stNe (by omega) _ _ kR,aD (by omega) _ _ _ bl,by have:=gs.size;omega,o8⟩
   rw [<- hW3];simp only [bI];clear hW3 kF kA kR bl gs t1 t2 t3 L0 hvs HK HR HE o8 o9 s1 s2 s3;try go_simp
   go_wp2;go_roundw
   case rel=>exact ⟨k+1,by omega,by go_num,p4,q4,H3.out⟩
   case measure=>simp [intOf];omega
  have hi:¬ (k:Int)<(X.nq:Int):=by omega
  have e9:k=X.nq:=by omega
  subst e9;have HK:Hid (_):=HH;obtain ⟨⟨y0,y1,y2,y3,y4,y5,y6,y7,y8,y9,y10,y11,y12,y13,y14,y15,y16⟩,-⟩:=HH.2.2.1.tc17;obtain ⟨V,hV⟩:∃ V,V=aF wr (B+1) 0 (bj X p3 X.nq q3 b2 X.c.q.ws.length d2 b3 X.c.q.bs.length d3):=⟨_,rfl⟩
  have gs:wr.grownBy V (some (B+1)):=by rw [hV];exact bf _ _ _
  have H9:Hid (Fl V w.heap.size (aN X) (bj X p3 X.nq q3 b2 X.c.q.ws.length d2 b3 X.c.q.bs.length d3)/\Below w.heap.size w V/\ae V (B+1) 90 ((bj X p3 X.nq q3 b2 X.c.q.ws.length d2 b3 X.c.q.bs.length d3)).toArray):=by
   have s4:=HB.out;have f1:=(HK.out.1.keptLo gs (by omega)).fl.mono (lo':=w.heap.size) (by omega);have f2:=((HK.out.2.2.2.2.2.2.grow gs (fun j hj=>.inl (by have:=Option.some.inj hj;omega)) HK.out.2.2.2.2.2.1).fl).mono (lo':=w.heap.size) (by omega);exact ⟨Fl.app f1 (Fl.leaf (.bool X.bz) (Fl.app f2 (Fl.leaf (Vi X.nu) (Fl.leaf (Vi X.du) (Fl.leaf (Vi X.le) (Fl.leaf (Vi X.nx) (Fl.leaf (Vi X.wt) (Fl.leaf (Vi X.tr) (Fl.nil _ _))))))))),by rw [hV];exact aD (by omega) _ _ _ HK.out.2.2.2.2.1,by rw [hV];exact ae.wr HK.out.2.2.2.1 (by simp [bO])⟩
  have hr:wr.rangeAt (B+2) 0 (bj X p3 X.nq q3 b2 X.c.q.ws.length d2 b3 X.c.q.bs.length d3):=HH.2.1.all;have ht:=HH.2.2.2.1.there 0 17 (by simp);clear HH gs HH0 HK;go_upto_region 8 with fail
  clear y0 y1 y2 y3 y4 y5 y6 y7 y8 y9 y10 y11 y12 y13 y14 y15 y16;refine wp_region_lit ?_;refine wpList_load_mid rfl 90 (.tmp 3) rfl (B+2) 0 rfl (bj X p3 X.nq q3 b2 X.c.q.ws.length d2 b3 X.c.q.bs.length d3) _ hr underlying90 rfl (by kernel_rfl) ?_;refine wpList_store_mid rfl 90 (.tmp 2) (.tmp 30) rfl (B+1) 0 ((bj X p3 X.nq q3 b2 X.c.q.ws.length d2 b3 X.c.q.bs.length d3)).toArray rfl rfl ht (by kernel_rfl) (by simp [Value.oneCell']) ?_;rw [bm,<- hV];clear hV hr ht;refine wpList_nil ?_;go_wp2;refine bodyPost_ret (v:=.agg ((bj X p3 X.nq q3 b2 X.c.q.ws.length d2 b3 X.c.q.bs.length d3)).toArray) (eG results42 rfl (run_loadVar_mid _ _ _ 90 (bj X p3 X.nq q3 b2 X.c.q.ws.length d2 b3 X.c.q.bs.length d3) _ H9.out.2.2.all underlying90 rfl (by kernel_rfl))) rfl ⟨p3,q3,b2,d2,b3,d3,rfl,H9.out.1,H9.out.2.1⟩
end Go.Proofs.YtohikbpolofklaaGreat
