/- Texts that the proof needs, joined: Sw3. -/
import Derived.Test.YtohikbpolofklaaGreatY16
import Derived.Test.YtohikbpolofklaaGreatY26
import Derived.Test.YtohikbpolofklaaGreatY1
set_option linter.unusedVariables false
set_option linter.unusedSimpArgs false
set_option maxHeartbeats 8000000
set_option maxRecDepth 20000
namespace Go.Proofs.YtohikbpolofklaaGreat
open Go.RowKit Go.Joins Go.Proofs.Tryz
abbrev qd:Array Value:=#[Zs,.bool false,Vi 0,Vi 0,Vi 0,Vi 0,Vi 0,Vi 0,Zs,Zs,Vi 0,Vi 0,Vi 0,Vi 0,Vi 0,Vi 0,Vi 0]
theorem ni{g:Nat}:∀ (l:List (Nat × List Value)) (w:World),w.grownBy (l.foldl (fun u p=>aF u g p.1 p.2) w) (some g)
 | [],w=>World.grownBy.refl _ _
 |p:: l,w=>(bf p.2 w p.1).trans (ni l _)
theorem ae.stLs{g:Nat}{t:TypeId}:∀ (l:List (Nat × List Value)) {w:World} {cs:Array Value},ae w g t cs->ae (l.foldl (fun u p=>aF u g p.1 p.2) w) g t (l.foldl (fun a p=>bO a p.1 p.2) cs)
 | [],_,_,h=>h
 |p:: l,_,_,h=>ae.stLs l (ae.stL p.2 p.1 h)
theorem ae.stNes{g g':Nat}{t:TypeId}{cs:Array Value}(hne:g≠g'):∀ (l:List (Nat × List Value)) {w:World},ae w g t cs->ae (l.foldl (fun u p=>aF u g' p.1 p.2) w) g t cs
 | [],_,h=>h
 |p:: l,_,h=>ae.stNes hne l (ae.stNe hne p.2 p.1 h)
theorem jE{B g:Nat}{w0:World}(hg:B<= g):∀ (l:List (Nat × List Value)) {w:World},Below B w0 w->Below B w0 (l.foldl (fun u p=>aF u g p.1 p.2) w)
 | [],_,h=>h
 |p:: l,_,h=>jE hg l (aD hg _ _ _ h)
theorem TC.sts{w W w1:World}{t:TypeId}{Z O:Array Value}{ts us:List Tr}{ws xs:List Value}(g:Hid (TC w t Z W O ts ws))(hb:Below W.heap.size W w1)(l:List (Nat × List Value))(O':Array Value)(hR:az w1 W.heap.size w1.heap.size us xs)(hO:O'=l.foldl (fun a p=>bO a p.1 p.2) O:=by simp [bO]):Hid (TC w t Z (l.foldl (fun u p=>aF u w.heap.size p.1 p.2) w1) O' (ts++us) (ws++xs)):=by
 have hg:=ni (g:=w.heap.size) l w1;have h1:=hb.size;have h2:=hg.size;have h3:=g.out.h;have h4:=az.next g.out.q hb hR hg (by omega) h3;subst hO;exact ⟨jE (by omega) l (af g.out.b hb),ae.stLs l (g.out.o.below hb),ae.stNes (by omega) l (g.out.z.below hb),by omega,h4⟩
theorem qe(X:VN)(a1:OA)(l1 c1:Nat)(a2:OA)(l2 c2:Nat)(a3:OA)(l3 c3:Nat)(w:World)(r1:Rd w 0 (.list 9 X.nq (fun i=>ac (aJ (X.qf i)))) (.slice a1 l1 c1))(r2:Rd w 0 (aw X.c.q.ws) (.slice a2 l2 c2))(r3:Rd w 0 (ai X.c.q.bs) (.slice a3 l3 c3))(hz:ax 17 (ac (aN X))<= 1048576):
 Calls prog 57 #[.agg (bj X a1 l1 c1 a2 l2 c2 a3 l3 c3).toArray] w fun e w'=>∃ b1 d1 b2 d2 b3 d3,e=.returned (.agg (bj X b1 l1 d1 b2 l2 d2 b3 l3 d3).toArray)/\az w' w.heap.size w'.heap.size (aN X) (bj X b1 l1 d1 b2 l2 d2 b3 l3 d3)/\Below w.heap.size w w':=by
 have HZ:Hid ((Tr.list 9 X.nq (fun i=>ac (aJ (X.qf i)))).sz<= 1048576/\ax 9 (ac (aJ X.c))<= 1048576):=by
  rw [eT] at hz;show (Tr.list 9 X.nq (fun i=>ac (aJ (X.qf i)))).sz<= 1048576/\ax 9 (ac (aJ X.c))<= 1048576;simp only [dy];omega
 obtain ⟨W,hW⟩:∃ W,W=(w.alloc (.cells (bj X a1 l1 c1 a2 l2 c2 a3 l3 c3).toArray 90)).alloc (.cells qd 90):=⟨_,rfl⟩
 have G0:=TC.new hW;have HR:=dM (And.intro (r1.below G0.out.b) <|And.intro (r2.below G0.out.b) <|r3.below G0.out.b);clear hz r1 r2 r3;go_enter func57,ntmps57
 go_upto_region 1 with fail
 rw [<- hW];clear hW;obtain ⟨⟨y0,y1,y2,y3,y4,y5,y6,y7,y8,y9,y10,y11,y12,y13,y14,y15,y16⟩,-⟩:=G0.out.o.tc17;go_cut [] (fun wx=>∃ b1 d1 b2 d2 b3 d3,Hid (TC w 90 qd wx (bj X b1 l1 d1 b2 l2 d2 b3 l3 d3).toArray ([]++(([.list 9 X.nq (fun i=>ac (aJ (X.qf i)))]++([.bool X.bz]:List Value).map Tr.leaf)++(aJ X.c++([Vi X.nu,Vi X.du,Vi X.le,Vi X.nx,Vi X.wt,Vi X.tr]:List Value).map Tr.leaf))) ([]++(([.slice b1 l1 d1]++[.bool X.bz])++(bh X.c b2 l2 d2 b3 l3 d3++[Vi X.nu,Vi X.du,Vi X.le,Vi X.nx,Vi X.wt,Vi X.tr])))))
 case first=>
  go_region_with (first
   |(go_at_call 92;refine (mN X.nq X.qf a1 l1 c1 _ (HR.out.1.below (by first|exact Br|exact Br.drew|exact Br.drew.drew)) HZ.out.1).mono ?_;rintro e w1 ⟨b1,d1,rfl,q,b⟩;have b8:Below W.heap.size W w1:=af (by first|exact Br|exact Br.drew|exact Br.drew.drew) b;have H1:=dM (And.intro b8 (az.lv (az.one (q.mono (lo':=W.heap.size) Nl)) [.bool X.bz] b8.size));clear q b b8;obtain ⟨⟨z0,z1,z2,z3,z4,z5,z6,z7,z8,z9,bM,cx,z12,z13,z14,z15,z16⟩,xf⟩:=(G0.out.o.below H1.out.1).tc17;clear xf)
   |(go_at_call 93;refine (km X.c a2 l2 c2 a3 l3 c3 _ (HR.out.2.1.below (by first|exact H1.out.1|exact H1.out.1.drew|exact H1.out.1.drew.drew)) (HR.out.2.2.below (by first|exact H1.out.1|exact H1.out.1.drew|exact H1.out.1.drew.drew)) HZ.out.2).mono ?_;rintro e w2 ⟨b2,d2,b3,d3,rfl,q,b⟩;have b8:Below w1.heap.size w1 w2:=af (by first|exact Br|exact Br.drew|exact Br.drew.drew) b;have H2:=dM (And.intro (af H1.out.1 b8) ((H1.out.2.below b8 Nl).app (az.lv (q.mono (lo':=w1.heap.size) Nl Nl) [Vi X.nu,Vi X.du,Vi X.le,Vi X.nx,Vi X.wt,Vi X.tr] b8.size) H1.out.1.size b8.size));clear q b b8;obtain ⟨⟨x0,x1,x2,x3,x4,x5,x6,x7,x8,x9,x10,x11,x12,x13,x14,x15,x16⟩,xf⟩:=(G0.out.o.below H2.out.1).tc17;have xf0:=xf 0;have xf2:=xf 2;have xf3:=xf 3;have xf4:=xf 4;have xf5:=xf 5;have xf6:=xf 6;have xf7:=xf 7;have xf8:=xf 8;have xf9:=xf 9;have xf10:=xf 10;clear xf))
  all_goals (go_wp2_with fail;go_meet;first|exact ⟨b1,d1,b2,d2,b3,d3,TC.sts G0 H2.out.1 [(0,[.slice b1 l1 d1]),(2,[Vi X.c.id,Vi X.c.pa,Vi X.c.un,Vi X.c.q.kd,Vi X.c.q.pl,Vi X.c.q.n,.slice b2 l2 d2,.slice b3 l3 d3,Vi X.c.q.wa])] _ H2.out.2⟩|exact ⟨b1,d1,b2,d2,b3,d3,TC.sts G0 H2.out.1 [(2,[Vi X.c.id,Vi X.c.pa,Vi X.c.un,Vi X.c.q.kd,Vi X.c.q.pl,Vi X.c.q.n,.slice b2 l2 d2,.slice b3 l3 d3,Vi X.c.q.wa]),(0,[.slice b1 l1 d1])] _ H2.out.2⟩)
 case rest=>
 obtain ⟨b1,d1,b2,d2,b3,d3,G1⟩:=hcut;rename World=>u
 clear y0 y1 y2 y3 y4 y5 y6 y7 y8 y9 y10 y11 y12 y13 y14 y15 y16;go_upto_region 2 with fail
 obtain ⟨V,hV⟩:∃ V,V=aF u (w.heap.size+1) 0 (bj X b1 l1 d1 b2 l2 d2 b3 l3 d3):=⟨_,rfl⟩
 have H9:=TC.fin G1 hV;have hr:u.rangeAt w.heap.size 0 (bj X b1 l1 d1 b2 l2 d2 b3 l3 d3):=G1.out.o.all;have ht:=G1.out.z.there 0 17 (by simp);clear G1;refine wp_region_lit ?_;refine wpList_load_mid rfl 90 (.tmp 1) rfl w.heap.size 0 rfl (bj X b1 l1 d1 b2 l2 d2 b3 l3 d3) _ hr underlying90 rfl (by kernel_rfl) ?_;refine wpList_store_mid rfl 90 (.tmp 2) (.tmp 11) rfl (w.heap.size+1) 0 (bj X b1 l1 d1 b2 l2 d2 b3 l3 d3).toArray rfl rfl ht (by kernel_rfl) (by simp [Value.oneCell']) ?_;rw [bm,<- hV];clear hV hr ht;refine wpList_nil ?_;go_wp2;obtain ⟨B,-,O⟩:=H9.out;refine bodyPost_ret (v:=.agg (bj X b1 l1 d1 b2 l2 d2 b3 l3 d3).toArray) (eG results57 rfl (run_loadVar_mid _ _ _ 90 (bj X b1 l1 d1 b2 l2 d2 b3 l3 d3) _ H9.out.2.1.all underlying90 rfl (by kernel_rfl))) rfl ⟨b1,d1,b2,d2,b3,d3,rfl,O,B⟩
theorem nj(n:Nat)(f:Nat->VN)(a:OA)(n' cap:Nat)(w:World)(hs:Rd w 0 (.list 17 n (fun k=>ac (aN (f k)))) (.slice a n' cap))(hz:(Tr.list 17 n (fun k=>ac (aN (f k)))).sz<= 1048576):
 Calls prog 56 #[.slice a n' cap,.func (.func 57) #[] #[]] w fun e w'=>∃ b d,e=.returned (.slice b n' d)/\dk w' w.heap.size (.list 17 n (fun k=>ac (aN (f k)))) (.slice b n' d)/\Below w.heap.size w w':=by
 obtain ⟨a9,c9,h9,-,hn⟩:=hs.shape;simp only [Value.slice.injEq] at h9;obtain ⟨-,rfl,-⟩:=h9;clear a9 c9;have hn1:n'<= 1048576:=by rw [Tr.sz_list] at hz;omega
 have HZ:Hid (∀ k,k<n'->ax 17 (ac (aN (f k)))<= 1048576):=by
  show ∀ k,k<n'->ax 17 (ac (aN (f k)))<= 1048576;intro k hk;rw [Tr.sz_list] at hz;have:=ci (fun k=>ax 17 (ac (aN (f k)))) hk;omega
 have hmk:=ct (P:=prog) 39 90 (.agg qd) 17 184 underlying39 (by kernel_rfl) .i64 .i64 n' (by omega) (by omega);have HS:Hid (Rd w 0 (.list 17 n' (fun k=>ac (aN (f k)))) (.slice a n' cap)/\n'<= maxLen):=⟨hs,hn⟩
 clear hs hz hn;go_enter func56,ntmps56
 go_wp2;clear hmk;go_loopw [13] (fun i wr=>∃ (k:Nat),k<= n'/\i=Vi k/\bU wr w.heap.size 90 17 n' (fun i=>aN (f i)) k/\Below w.heap.size w wr) (fun i _=>n'-(intOf i).toNat)
 case atStart=>exact ⟨0,Nat.zero_le _,rfl,bU.start (aM.made w (qd).toList n' _ (by simp)),Br.alloc Nl _⟩
 case round=>
  obtain ⟨k,hk,rfl,hrow,hb⟩:=hrel;by_cases hlt:k<n'
  ·have hi:(k:Int)<(n':Int):=by omega
   obtain ⟨b,off,vs,rfl,_,hb0,hlen,hr,hrd⟩:=(HS.out.1.below hb).at hlt;obtain ⟨a1,c1,a2,c2,a3,c3,rfl,r1,r2,r3⟩:=VN.cells hrd hlen;clear hlen hrd;have HK:Hid (bU wr w.heap.size 90 17 n' (fun i=>aN (f i)) k/\True/\Below w.heap.size w wr/\Rd wr 0 (.list 9 (f k).nq (fun i=>ac (aJ ((f k).qf i)))) (.slice a1 ((f k).nq) c1)/\Rd wr 0 (aw (f k).c.q.ws) (.slice a2 ((f k).c.q.ws.length) c2)/\Rd wr 0 (ai (f k).c.q.bs) (.slice a3 ((f k).c.q.bs.length) c3)):=⟨hrow,trivial,hb,r1,r2,r3⟩
   clear hrow hb hb0 r1 r2 r3;go_wp2_with (first|(refine wpList_load_mid rfl 90 _ rfl b (off+k*17) rfl _ _ hr underlying90 rfl (by kernel_rfl) ?_)|fail)
   refine (qe (f k) a1 ((f k).nq) c1 a2 ((f k).c.q.ws.length) c2 a3 ((f k).c.q.bs.length) c3 _ (HK.out.2.2.2.1.below (aa _ _)) (HK.out.2.2.2.2.1.below (aa _ _)) (HK.out.2.2.2.2.2.below (aa _ _)) (HZ.out k hlt)).mono ?_;rintro e w1 ⟨b1,d1,b2,d2,b3,d3,rfl,q1,hb1⟩;have hb1:=af (aa wr _) hb1;have q1:=q1.mono (lo':=wr.heap.size) (by simp) Nl;obtain ⟨F1,R1⟩:=(HK.out.1.cg (Cg.ofBelow (S:=fun _=>False) hb1) (fun b h=>h.elim)).row;obtain ⟨W2,hW2⟩:∃ W2,W2=aF w1 w.heap.size (k*17) (bj (f k) b1 ((f k).nq) d1 b2 ((f k).c.q.ws.length) d2 b3 ((f k).c.q.bs.length) d3):=⟨_,rfl⟩
   have H2:Hid (bU W2 w.heap.size 90 17 n' (fun i=>aN (f i)) (k+1)/\Below w.heap.size w W2):=⟨by rw [hW2];exact HK.out.1.step (S:=fun _=>False) hlt (Cg.ofBelow hb1) (fun b h=>h.elim) q1 rfl,by rw [hW2];exact aD Nl _ _ _ (af HK.out.2.2.1 hb1)⟩
   have ht:=R1.there hlt (m:=17) Nl;clear R1 hb1 HK hr q1;go_wp2_with (first|(refine wpList_store_mid rfl 90 _ _ rfl w.heap.size (k*17) (bj (f k) b1 ((f k).nq) d1 b2 ((f k).c.q.ws.length) d2 b3 ((f k).c.q.bs.length) d3).toArray rfl rfl ht (by kernel_rfl) (by simp [Value.oneCell']) ?_;rw [bm,<- hW2];clear hW2 ht)|fail)
   go_roundw
   case rel=>
    exact ⟨k+1,by omega,by go_num,H2.out.1,H2.out.2⟩
   case measure=>simp [intOf];omega
  have hi:¬ (k:Int)<(n':Int):=by omega
  have e9:k=n':=by omega
  subst e9;have HR:Hid (bU wr w.heap.size 90 17 k (fun i=>aN (f i)) k/\Below w.heap.size w wr):=⟨hrow,hb⟩
  clear hrow hb;go_wp2;go_ret;exact ⟨_,_,rfl,HR.out.1.done Nl HS.out.2 (fun _ _=>rfl),HR.out.2⟩
theorem nv(X:VC)(a1:OA)(l1 c1:Nat)(w:World)(r1:Rd w 0 (.list 7 X.n (fun i=>ac (aR (X.f i)))) (.slice a1 l1 c1))(hz:ax 3 (ac (eE X))<= 1048576):
 Calls prog 54 #[.agg (cX X a1 l1 c1).toArray] w fun e w'=>∃ b1 d1,e=.returned (.agg (cX X b1 l1 d1).toArray)/\az w' w.heap.size w'.heap.size (eE X) (cX X b1 l1 d1)/\Below w.heap.size w w':=by
 rw [eS,jx] at hz;obtain ⟨rfl,h1⟩:=r1.slu;obtain ⟨_,_,h9,-,hm⟩:=r1.shape;refine (lq X.wt X.tr a1 X.n c1 X.f w h1 (by omega)).mono ?_;rintro e w' ⟨g,rfl,hr,hg,hb⟩;exact ⟨_,_,rfl,az.leaf (Vi X.wt) (az.leaf (Vi X.tr) (az.one (hr.own hg hm Nl)) hb.size) hb.size,hb⟩
theorem ny(X:VF)(a1:OA)(l1 c1:Nat)(a2:OA)(l2 c2:Nat)(a3:OA)(l3 c3:Nat)(w:World)(r1:Rd w 0 (.list 7 X.set.n (fun i=>ac (aR (X.set.f i)))) (.slice a1 l1 c1))(r2:Rd w 0 (.list 13 X.op.m (fun i=>ac (dT (X.op.f i)))) (.slice a2 l2 c2))(r3:Rd w 0 (.list 17 X.nl (fun i=>ac (aN (X.lf i)))) (.slice a3 l3 c3))(hz:ax 11 (ac (aX X))<= 1048576):
 Calls prog 25 #[.agg (aq X a1 l1 c1 a2 l2 c2 a3 l3 c3).toArray] w fun e w'=>∃ b1 d1 b2 d2 b3 d3,e=.returned (.agg (aq X b1 l1 d1 b2 l2 d2 b3 l3 d3).toArray)/\az w' w.heap.size w'.heap.size (aX X) (aq X b1 l1 d1 b2 l2 d2 b3 l3 d3)/\Below w.heap.size w w':=by
 have HZ:Hid (ax 3 (ac (eE X.set))<= 1048576/\ax 2 (ac (tT X.op))<= 1048576/\(Tr.list 17 X.nl (fun i=>ac (aN (X.lf i)))).sz<= 1048576):=by
  rw [eg] at hz;show ax 3 (ac (eE X.set))<= 1048576/\ax 2 (ac (tT X.op))<= 1048576/\(Tr.list 17 X.nl (fun i=>ac (aN (X.lf i)))).sz<= 1048576;simp only [cQ,eS];omega
 obtain ⟨W,hW⟩:∃ W,W=(w.alloc (.cells (aq X a1 l1 c1 a2 l2 c2 a3 l3 c3).toArray 41)).alloc (.cells #[Vi 0,Vi 0,Vi 0,Zs,Vi 0,Zs,Zs,Vi 0,Vi 0,Vi 0,Vi 0] 41):=⟨_,rfl⟩
 have G0:=TC.new hW;have HR:=dM (And.intro (r1.below G0.out.b) <|And.intro (r2.below G0.out.b) <|r3.below G0.out.b);clear hz r1 r2 r3;go_enter func25,ntmps25
 go_upto_region 1 with fail
 rw [<- hW];clear hW;obtain ⟨⟨y0,y1,y2,y3,y4,y5,y6,y7,y8,y9,y10⟩,-⟩:=G0.out.o.tc11;go_cut [] (fun wx=>∃ b1 d1 b2 d2 b3 d3,Hid (TC w 41 #[Vi 0,Vi 0,Vi 0,Zs,Vi 0,Zs,Zs,Vi 0,Vi 0,Vi 0,Vi 0] wx (aq X b1 l1 d1 b2 l2 d2 b3 l3 d3).toArray ([]++((eE X.set++tT X.op)++([.list 17 X.nl (fun i=>ac (aN (X.lf i)))]++([Vi X.sk,Vi X.re,Vi X.fa,Vi X.se]:List Value).map Tr.leaf))) ([]++((cX X.set b1 l1 d1++tL X.op b2 l2 d2)++([.slice b3 l3 d3]++[Vi X.sk,Vi X.re,Vi X.fa,Vi X.se])))))
 case first=>
  go_region_with (first
   |(go_at_call 54;refine (nv X.set a1 l1 c1 _ (HR.out.1.below (by first|exact Br|exact Br.drew|exact Br.drew.drew)) HZ.out.1).mono ?_;rintro e w1 ⟨b1,d1,rfl,q,b⟩;have b8:Below W.heap.size W w1:=af (by first|exact Br|exact Br.drew|exact Br.drew.drew) b;have H1:=dM (And.intro b8 (q.mono (lo':=W.heap.size) Nl Nl));clear q b b8;obtain ⟨⟨z0,z1,z2,z3,z4,z5,z6,z7,z8,z9,bM⟩,xf⟩:=(G0.out.o.below H1.out.1).tc11;clear xf)
   |(go_at_call 55;refine (oD X.op a2 l2 c2 _ (HR.out.2.1.below (by first|exact H1.out.1|exact H1.out.1.drew|exact H1.out.1.drew.drew)) HZ.out.2.1).mono ?_;rintro e w2 ⟨b2,d2,rfl,q,b⟩;have b8:Below w1.heap.size w1 w2:=af (by first|exact Br|exact Br.drew|exact Br.drew.drew) b;have H2:=dM (And.intro (af H1.out.1 b8) ((H1.out.2.below b8 Nl).app (q.mono (lo':=w1.heap.size) Nl Nl) H1.out.1.size b8.size));clear q b b8;obtain ⟨⟨x0,x1,x2,x3,x4,x5,x6,x7,x8,x9,x10⟩,xf⟩:=(G0.out.o.below H2.out.1).tc11;clear xf)
   |(go_at_call 56;refine (nj X.nl X.lf a3 l3 c3 _ (HR.out.2.2.below (by first|exact H2.out.1|exact H2.out.1.drew|exact H2.out.1.drew.drew)) HZ.out.2.2).mono ?_;rintro e w3 ⟨b3,d3,rfl,q,b⟩;have b8:Below w2.heap.size w2 w3:=af (by first|exact Br|exact Br.drew|exact Br.drew.drew) b;have H3:=dM (And.intro (af H2.out.1 b8) ((H2.out.2.below b8 Nl).app (az.lv (az.one (q.mono (lo':=w2.heap.size) Nl)) [Vi X.sk,Vi X.re,Vi X.fa,Vi X.se] b8.size) H2.out.1.size b8.size));clear q b b8;obtain ⟨⟨v0,v1,v2,v3,v4,v5,v6,v7,v8,v9,v10⟩,xf⟩:=(G0.out.o.below H3.out.1).tc11;have xf1:=xf 1;have xf2:=xf 2;have xf3:=xf 3;have xf4:=xf 4;have xf5:=xf 5;have xf6:=xf 6;clear xf))
  all_goals (go_wp2_with fail;go_meet;first|exact ⟨b1,d1,b2,d2,b3,d3,TC.sts G0 H3.out.1 [(1,[Vi X.set.wt,Vi X.set.tr,.slice b1 l1 d1]),(4,[Vi X.op.nx,.slice b2 l2 d2]),(6,[.slice b3 l3 d3])] _ H3.out.2⟩|exact ⟨b1,d1,b2,d2,b3,d3,TC.sts G0 H3.out.1 [(1,[Vi X.set.wt,Vi X.set.tr,.slice b1 l1 d1]),(6,[.slice b3 l3 d3]),(4,[Vi X.op.nx,.slice b2 l2 d2])] _ H3.out.2⟩|exact ⟨b1,d1,b2,d2,b3,d3,TC.sts G0 H3.out.1 [(4,[Vi X.op.nx,.slice b2 l2 d2]),(1,[Vi X.set.wt,Vi X.set.tr,.slice b1 l1 d1]),(6,[.slice b3 l3 d3])] _ H3.out.2⟩|exact ⟨b1,d1,b2,d2,b3,d3,TC.sts G0 H3.out.1 [(4,[Vi X.op.nx,.slice b2 l2 d2]),(6,[.slice b3 l3 d3]),(1,[Vi X.set.wt,Vi X.set.tr,.slice b1 l1 d1])] _ H3.out.2⟩|exact ⟨b1,d1,b2,d2,b3,d3,TC.sts G0 H3.out.1 [(6,[.slice b3 l3 d3]),(1,[Vi X.set.wt,Vi X.set.tr,.slice b1 l1 d1]),(4,[Vi X.op.nx,.slice b2 l2 d2])] _ H3.out.2⟩|exact ⟨b1,d1,b2,d2,b3,d3,TC.sts G0 H3.out.1 [(6,[.slice b3 l3 d3]),(4,[Vi X.op.nx,.slice b2 l2 d2]),(1,[Vi X.set.wt,Vi X.set.tr,.slice b1 l1 d1])] _ H3.out.2⟩)
 case rest=>
 obtain ⟨b1,d1,b2,d2,b3,d3,G1⟩:=hcut;rename World=>u
 clear y0 y1 y2 y3 y4 y5 y6 y7 y8 y9 y10;go_upto_region 2 with fail
 obtain ⟨V,hV⟩:∃ V,V=aF u (w.heap.size+1) 0 (aq X b1 l1 d1 b2 l2 d2 b3 l3 d3):=⟨_,rfl⟩
 have H9:=TC.fin G1 hV;have hr:u.rangeAt w.heap.size 0 (aq X b1 l1 d1 b2 l2 d2 b3 l3 d3):=G1.out.o.all;have ht:=G1.out.z.there 0 11 (by simp);clear G1;refine wp_region_lit ?_;refine wpList_load_mid rfl 41 (.tmp 1) rfl w.heap.size 0 rfl (aq X b1 l1 d1 b2 l2 d2 b3 l3 d3) _ hr underlying41 rfl (by kernel_rfl) ?_;refine wpList_store_mid rfl 41 (.tmp 2) (.tmp 15) rfl (w.heap.size+1) 0 (aq X b1 l1 d1 b2 l2 d2 b3 l3 d3).toArray rfl rfl ht (by kernel_rfl) (by simp [Value.oneCell']) ?_;rw [bm,<- hV];clear hV hr ht;refine wpList_nil ?_;go_wp2;obtain ⟨B,-,O⟩:=H9.out;refine bodyPost_ret (v:=.agg (aq X b1 l1 d1 b2 l2 d2 b3 l3 d3).toArray) (eG results25 rfl (run_loadVar_mid _ _ _ 41 (aq X b1 l1 d1 b2 l2 d2 b3 l3 d3) _ H9.out.2.1.all underlying41 rfl (by kernel_rfl))) rfl ⟨b1,d1,b2,d2,b3,d3,rfl,(az.leaf (Vi X.nw) O B.size),B⟩
end Go.Proofs.YtohikbpolofklaaGreat
