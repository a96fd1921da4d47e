/- Texts that the proof needs, joined: Tr8. -/
import Derived.Test.YtohikbpolofklaaGreatY3
import Derived.Test.YtohikbpolofklaaGreatY4
set_option linter.unusedVariables false
set_option linter.unusedSimpArgs false
set_option maxHeartbeats 4000000
set_option maxRecDepth 20000
namespace Go.Proofs.YtohikbpolofklaaGreat
open Go.RowKit Go.Joins Go.Proofs.Tryz
theorem mq(n:Nat)(f:Nat->Ru)(a:OA)(n' cap:Nat)(a':OA)(cap':Nat)(w:World)(hs:Rd w 0 (.list 7 n (fun k=>ac (aR (f k)))) (.slice a n' cap))(hs':Rd w 0 (.list 7 n (fun k=>ac (aR (f k)))) (.slice a' n' cap'))(hz:(Tr.list 7 n (fun k=>ac (aR (f k)))).sz<= 1048576):
 Calls prog 11 #[.slice a n' cap,.slice a' n' cap'] w fun e w'=>e=.returned (.bool true)/\Below w.heap.size w w':=by
 obtain ⟨rfl,h1⟩:=hs.slu;obtain ⟨-,h2⟩:=hs'.slu;rw [Tr.sz_list] at hz;exact mS a a' n' cap cap' f w h1 h2 (by omega)
theorem ae.tc3{w:World}{g:Nat}{t:TypeId}{v0 v1 v2:Value}(h:ae w g t #[v0,v1,v2]):(w.cell? ⟨g,0,none⟩=some v0/\w.cell? ⟨g,1,none⟩=some v1/\w.cell? ⟨g,2,none⟩=some v2)/\∀ j,w.frozen? ⟨g,j,none⟩=false:=
 ⟨⟨h.cell 0 rfl,h.cell 1 rfl,h.cell 2 rfl⟩,h.fro⟩
theorem ae.tc9{w:World}{g:Nat}{t:TypeId}{v0 v1 v2 v3 v4 v5 v6 v7 v8:Value}(h:ae w g t #[v0,v1,v2,v3,v4,v5,v6,v7,v8]):(w.cell? ⟨g,0,none⟩=some v0/\w.cell? ⟨g,1,none⟩=some v1/\w.cell? ⟨g,2,none⟩=some v2/\w.cell? ⟨g,3,none⟩=some v3/\w.cell? ⟨g,4,none⟩=some v4/\w.cell? ⟨g,5,none⟩=some v5/\w.cell? ⟨g,6,none⟩=some v6/\w.cell? ⟨g,7,none⟩=some v7/\w.cell? ⟨g,8,none⟩=some v8)/\∀ j,w.frozen? ⟨g,j,none⟩=false:=
 ⟨⟨h.cell 0 rfl,h.cell 1 rfl,h.cell 2 rfl,h.cell 3 rfl,h.cell 4 rfl,h.cell 5 rfl,h.cell 6 rfl,h.cell 7 rfl,h.cell 8 rfl⟩,h.fro⟩
theorem ae.tc11{w:World}{g:Nat}{t:TypeId}{v0 v1 v2 v3 v4 v5 v6 v7 v8 v9 v10:Value}(h:ae w g t #[v0,v1,v2,v3,v4,v5,v6,v7,v8,v9,v10]):(w.cell? ⟨g,0,none⟩=some v0/\w.cell? ⟨g,1,none⟩=some v1/\w.cell? ⟨g,2,none⟩=some v2/\w.cell? ⟨g,3,none⟩=some v3/\w.cell? ⟨g,4,none⟩=some v4/\w.cell? ⟨g,5,none⟩=some v5/\w.cell? ⟨g,6,none⟩=some v6/\w.cell? ⟨g,7,none⟩=some v7/\w.cell? ⟨g,8,none⟩=some v8/\w.cell? ⟨g,9,none⟩=some v9/\w.cell? ⟨g,10,none⟩=some v10)/\∀ j,w.frozen? ⟨g,j,none⟩=false:=
 ⟨⟨h.cell 0 rfl,h.cell 1 rfl,h.cell 2 rfl,h.cell 3 rfl,h.cell 4 rfl,h.cell 5 rfl,h.cell 6 rfl,h.cell 7 rfl,h.cell 8 rfl,h.cell 9 rfl,h.cell 10 rfl⟩,h.fro⟩
theorem ae.tc17{w:World}{g:Nat}{t:TypeId}{v0 v1 v2 v3 v4 v5 v6 v7 v8 v9 v10 v11 v12 v13 v14 v15 v16:Value}(h:ae w g t #[v0,v1,v2,v3,v4,v5,v6,v7,v8,v9,v10,v11,v12,v13,v14,v15,v16]):(w.cell? ⟨g,0,none⟩=some v0/\w.cell? ⟨g,1,none⟩=some v1/\w.cell? ⟨g,2,none⟩=some v2/\w.cell? ⟨g,3,none⟩=some v3/\w.cell? ⟨g,4,none⟩=some v4/\w.cell? ⟨g,5,none⟩=some v5/\w.cell? ⟨g,6,none⟩=some v6/\w.cell? ⟨g,7,none⟩=some v7/\w.cell? ⟨g,8,none⟩=some v8/\w.cell? ⟨g,9,none⟩=some v9/\w.cell? ⟨g,10,none⟩=some v10/\w.cell? ⟨g,11,none⟩=some v11/\w.cell? ⟨g,12,none⟩=some v12/\w.cell? ⟨g,13,none⟩=some v13/\w.cell? ⟨g,14,none⟩=some v14/\w.cell? ⟨g,15,none⟩=some v15/\w.cell? ⟨g,16,none⟩=some v16)/\∀ j,w.frozen? ⟨g,j,none⟩=false:=
 ⟨⟨h.cell 0 rfl,h.cell 1 rfl,h.cell 2 rfl,h.cell 3 rfl,h.cell 4 rfl,h.cell 5 rfl,h.cell 6 rfl,h.cell 7 rfl,h.cell 8 rfl,h.cell 9 rfl,h.cell 10 rfl,h.cell 11 rfl,h.cell 12 rfl,h.cell 13 rfl,h.cell 14 rfl,h.cell 15 rfl,h.cell 16 rfl⟩,h.fro⟩
theorem qr(X:VC)(a1:OA)(l1 c1:Nat)(a1':OA)(c1':Nat)(w:World)(r1:Rd w 0 (.list 7 X.n (fun i=>ac (aR (X.f i)))) (.slice a1 l1 c1))(r1':Rd w 0 (.list 7 X.n (fun i=>ac (aR (X.f i)))) (.slice a1' l1 c1'))(hz:ax 3 (ac (eE X))<= 1048576):
 Calls prog 29 #[.agg (cX X a1 l1 c1).toArray,.agg (cX X a1' l1 c1').toArray] w fun e w'=>e=.returned (.bool true)/\Below w.heap.size w w':=by
 obtain ⟨W,hW⟩:∃ W,W=(w.alloc (.cells (cX X a1 l1 c1).toArray 35)).alloc (.cells (cX X a1' l1 c1').toArray 35):=⟨_,rfl⟩
 have HZ:Hid ((Tr.list 7 X.n (fun i=>ac (aR (X.f i)))).sz<= 1048576):=by
  rw [eS] at hz;show (Tr.list 7 X.n (fun i=>ac (aR (X.f i)))).sz<= 1048576;try simp only [cC,db,dc,dd,cQ,js,eS,dy,eT,eg,true_and]
  omega
 have HR:Hid (Rd w 0 (.list 7 X.n (fun i=>ac (aR (X.f i)))) (.slice a1 l1 c1)/\Rd w 0 (.list 7 X.n (fun i=>ac (aR (X.f i)))) (.slice a1' l1 c1')):=⟨r1,r1'⟩
 have G0:Hid (Below w.heap.size w W/\ae W w.heap.size 35 (cX X a1 l1 c1).toArray/\ae W (w.heap.size+1) 35 (cX X a1' l1 c1').toArray):=⟨by rw [hW];exact af (aa _ _) (aa _ _),by rw [hW];exact (ae.new w _ _).below (aa _ _),by rw [hW];have:=ae.new (w.alloc (.cells (cX X a1 l1 c1).toArray 35)) (cX X a1' l1 c1').toArray 35;simpa using this⟩
 clear hz r1 r1';go_enter func29,ntmps29
 go_upto_region 1 with fail
 rw [<- hW];clear hW;obtain ⟨⟨y0,y1,y2⟩,yf⟩:=G0.out.2.1.tc3;obtain ⟨⟨z0,z1,z2⟩,zf⟩:=G0.out.2.2.tc3;clear yf zf;go_wp2_with fail
 refine (mq X.n X.f a1 l1 c1 a1' c1' _ (HR.out.1.below G0.out.1) (HR.out.2.below G0.out.1) HZ.out).mono ?_;rintro e w1 ⟨rfl,hb1⟩;have G1:Hid (Below w.heap.size w w1/\ae w1 w.heap.size 35 (cX X a1 l1 c1).toArray/\ae w1 (w.heap.size+1) 35 (cX X a1' l1 c1').toArray):=⟨af G0.out.1 hb1,G0.out.2.1.below hb1,G0.out.2.2.below hb1⟩
 clear hb1 y0 y1 y2 z0 z1 z2;go_wp2;go_ret;exact ⟨rfl,G1.out.1⟩
theorem nY(X:VL)(a1:OA)(l1 c1:Nat)(a2:OA)(l2 c2:Nat)(a1':OA)(c1':Nat)(a2':OA)(c2':Nat)(w:World)(r1:Rd w 0 (aw X.q.ws) (.slice a1 l1 c1))(r2:Rd w 0 (ai X.q.bs) (.slice a2 l2 c2))(r1':Rd w 0 (aw X.q.ws) (.slice a1' l1 c1'))(r2':Rd w 0 (ai X.q.bs) (.slice a2' l2 c2'))(hz:ax 9 (ac (aJ X))<= 1048576):
 Calls prog 113 #[.agg (bh X a1 l1 c1 a2 l2 c2).toArray,.agg (bh X a1' l1 c1' a2' l2 c2').toArray] w fun e w'=>e=.returned (.bool true)/\Below w.heap.size w w':=by
 obtain ⟨W,hW⟩:∃ W,W=(w.alloc (.cells (bh X a1 l1 c1 a2 l2 c2).toArray 88)).alloc (.cells (bh X a1' l1 c1' a2' l2 c2').toArray 88):=⟨_,rfl⟩
 have HZ:Hid (ax 6 (ac (qT X.q))<= 1048576):=by
  rw [dy] at hz;show ax 6 (ac (qT X.q))<= 1048576;try simp only [cC,db,dc,dd,cQ,js,eS,dy,eT,eg,true_and]
  omega
 have HR:Hid (Rd w 0 (aw X.q.ws) (.slice a1 l1 c1)/\Rd w 0 (ai X.q.bs) (.slice a2 l2 c2)/\Rd w 0 (aw X.q.ws) (.slice a1' l1 c1')/\Rd w 0 (ai X.q.bs) (.slice a2' l2 c2')):=⟨r1,r2,r1',r2'⟩
 have G0:Hid (Below w.heap.size w W/\ae W w.heap.size 88 (bh X a1 l1 c1 a2 l2 c2).toArray/\ae W (w.heap.size+1) 88 (bh X a1' l1 c1' a2' l2 c2').toArray):=⟨by rw [hW];exact af (aa _ _) (aa _ _),by rw [hW];exact (ae.new w _ _).below (aa _ _),by rw [hW];have:=ae.new (w.alloc (.cells (bh X a1 l1 c1 a2 l2 c2).toArray 88)) (bh X a1' l1 c1' a2' l2 c2').toArray 88;simpa using this⟩
 clear hz r1 r2 r1' r2';go_enter func113,ntmps113
 go_upto_region 1 with fail
 rw [<- hW];clear hW;obtain ⟨⟨y0,y1,y2,y3,y4,y5,y6,y7,y8⟩,yf⟩:=G0.out.2.1.tc9;obtain ⟨⟨z0,z1,z2,z3,z4,z5,z6,z7,z8⟩,zf⟩:=G0.out.2.2.tc9;clear yf zf;go_wp2_with fail
 refine (lu X.q a1 l1 c1 a2 l2 c2 a1' c1' a2' c2' _ (HR.out.1.below G0.out.1) (HR.out.2.1.below G0.out.1) (HR.out.2.2.1.below G0.out.1) (HR.out.2.2.2.below G0.out.1) HZ.out).mono ?_;rintro e w1 ⟨rfl,hb1⟩;have G1:Hid (Below w.heap.size w w1/\ae w1 w.heap.size 88 (bh X a1 l1 c1 a2 l2 c2).toArray/\ae w1 (w.heap.size+1) 88 (bh X a1' l1 c1' a2' l2 c2').toArray):=⟨af G0.out.1 hb1,G0.out.2.1.below hb1,G0.out.2.2.below hb1⟩
 clear hb1 y0 y1 y2 y3 y4 y5 y6 y7 y8 z0 z1 z2 z3 z4 z5 z6 z7 z8;go_wp2;go_ret;exact ⟨rfl,G1.out.1⟩
theorem rN(n:Nat)(f:Nat->VL)(a:OA)(n' cap:Nat)(a':OA)(cap':Nat)(w:World)(hs:Rd w 0 (.list 9 n (fun k=>ac (aJ (f k)))) (.slice a n' cap))(hs':Rd w 0 (.list 9 n (fun k=>ac (aJ (f k)))) (.slice a' n' cap'))(hz:(Tr.list 9 n (fun k=>ac (aJ (f k)))).sz<= 1048576):
 Calls prog 112 #[.slice a n' cap,.slice a' n' cap'] w fun e w'=>e=.returned (.bool true)/\Below w.heap.size w w':=by
 obtain ⟨a9,c9,h9,-,hn⟩:=hs.shape;simp only [Value.slice.injEq] at h9;obtain ⟨-,rfl,-⟩:=h9;clear a9 c9 hn;have hn1:n'<= 1048576:=by rw [Tr.sz_list] at hz;omega
 have HZ:Hid (∀ k,k<n'->ax 9 (ac (aJ (f k)))<= 1048576):=by
  show ∀ k,k<n'->ax 9 (ac (aJ (f k)))<= 1048576;intro k hk;rw [Tr.sz_list] at hz;have:=ci (fun k=>ax 9 (ac (aJ (f k)))) hk;omega
 have HS:Hid (Rd w 0 (.list 9 n' (fun k=>ac (aJ (f k)))) (.slice a n' cap)/\Rd w 0 (.list 9 n' (fun k=>ac (aJ (f k)))) (.slice a' n' cap')):=⟨hs,hs'⟩
 clear hs hs' hz;go_enter func112,ntmps112
 go_wp2;go_loopw [5] (fun i wr=>∃ z:Nat,z<= n'/\i=Vi z/\Below w.heap.size w wr) (fun i _=>n'-(intOf i).toNat)
 case atStart=>exact ⟨0,Nat.zero_le _,rfl,Br⟩
 case round=>
  obtain ⟨k,hk,rfl,hbl⟩:=hrel;by_cases hlt:k<n'
  ·have hi:(k:Int)<(n':Int):=by omega
   obtain ⟨b,off,vs,rfl,_,hb0,hlen,hr,hrd⟩:=(HS.out.1.below hbl).at hlt;obtain ⟨a1,c1,a2,c2,rfl,r1,r2⟩:=VL.cells hrd hlen;clear hlen hrd hb0;obtain ⟨b',off',vs,rfl,_,hb0,hlen,hr',hrd⟩:=(HS.out.2.below hbl).at hlt;obtain ⟨a1',c1',a2',c2',rfl,r1',r2'⟩:=VL.cells hrd hlen;clear hlen hrd hb0;have d09:wr.cell? ⟨b,off+k*9,none⟩=_:=hr 0 _ rfl;have e09:wr.cell? ⟨b',off'+k*9,none⟩=_:=hr' 0 _ rfl;have d19:=hr 1 _ rfl;have e19:=hr' 1 _ rfl;have d29:=hr 2 _ rfl;have e29:=hr' 2 _ rfl;have d39:=hr 3 _ rfl;have e39:=hr' 3 _ rfl;have d49:=hr 4 _ rfl;have e49:=hr' 4 _ rfl;have d59:=hr 5 _ rfl;have e59:=hr' 5 _ rfl;have d69:=hr 6 _ rfl;have e69:=hr' 6 _ rfl;have d79:=hr 7 _ rfl;have e79:=hr' 7 _ rfl;have d89:=hr 8 _ rfl;have e89:=hr' 8 _ rfl;have HK:Hid (Below w.heap.size w wr/\ax 9 (ac (aJ (f k)))<= 1048576/\Rd wr 0 (aw (f k).q.ws) (.slice a1 ((f k).q.ws.length) c1)/\Rd wr 0 (ai (f k).q.bs) (.slice a2 ((f k).q.bs.length) c2)/\Rd wr 0 (aw (f k).q.ws) (.slice a1' ((f k).q.ws.length) c1')/\Rd wr 0 (ai (f k).q.bs) (.slice a2' ((f k).q.bs.length) c2')):=⟨hbl,HZ.out k hlt,r1,r2,r1',r2'⟩
   clear r1 r2 r1' r2' hr hr' hbl;go_wp2_with fail
   go_region_with (go_at_call 113;refine (nY (f k) a1 ((f k).q.ws.length) c1 a2 ((f k).q.bs.length) c2 a1' c1' a2' c2' _ (HK.out.2.2.1.below (by first|exact Br|exact Br.drew|exact Br.drew.drew)) (HK.out.2.2.2.1.below (by first|exact Br|exact Br.drew|exact Br.drew.drew)) (HK.out.2.2.2.2.1.below (by first|exact Br|exact Br.drew|exact Br.drew.drew)) (HK.out.2.2.2.2.2.below (by first|exact Br|exact Br.drew|exact Br.drew.drew)) HK.out.2.1).mono ?_;rintro e w1 ⟨rfl,b1'⟩;have b1:Below wr.heap.size wr w1:=af (by first|exact Br|exact Br.drew|exact Br.drew.drew) b1';clear b1')
   all_goals (
    have B1:=af HK.out.1 b1;clear HK b1 d09 e09 d19 e19 d29 e29 d39 e39 d49 e49 d59 e59 d69 e69 d79 e79 d89 e89;go_wp2;go_roundw
    case rel=>exact ⟨k+1,by omega,by go_num,B1⟩
    case measure=>simp [intOf];omega)
  have hi:¬ (k:Int)<(n':Int):=by omega
  go_wp2;go_ret;exact ⟨rfl,hbl⟩
theorem tw(X:VN)(a1:OA)(l1 c1:Nat)(a2:OA)(l2 c2:Nat)(a3:OA)(l3 c3:Nat)(a1':OA)(c1':Nat)(a2':OA)(c2':Nat)(a3':OA)(c3':Nat)(w:World)(r1:Rd w 0 (.list 9 X.nq (fun i=>ac (aJ (X.qf i)))) (.slice a1 l1 c1))(r2:Rd w 0 (aw X.c.q.ws) (.slice a2 l2 c2))(r3:Rd w 0 (ai X.c.q.bs) (.slice a3 l3 c3))(r1':Rd w 0 (.list 9 X.nq (fun i=>ac (aJ (X.qf i)))) (.slice a1' l1 c1'))(r2':Rd w 0 (aw X.c.q.ws) (.slice a2' l2 c2'))(r3':Rd w 0 (ai X.c.q.bs) (.slice a3' l3 c3'))(hz:ax 17 (ac (aN X))<= 1048576):
 Calls prog 67 #[.agg (bj X a1 l1 c1 a2 l2 c2 a3 l3 c3).toArray,.agg (bj X a1' l1 c1' a2' l2 c2' a3' l3 c3').toArray] w fun e w'=>e=.returned (.bool true)/\Below w.heap.size w w':=by
 obtain ⟨W,hW⟩:∃ W,W=(w.alloc (.cells (bj X a1 l1 c1 a2 l2 c2 a3 l3 c3).toArray 90)).alloc (.cells (bj X a1' l1 c1' a2' l2 c2' a3' l3 c3').toArray 90):=⟨_,rfl⟩
 have HZ:Hid ((Tr.list 9 X.nq (fun i=>ac (aJ (X.qf i)))).sz<= 1048576/\ax 9 (ac (aJ X.c))<= 1048576):=by
  rw [eT] at hz;show (Tr.list 9 X.nq (fun i=>ac (aJ (X.qf i)))).sz<= 1048576/\ax 9 (ac (aJ X.c))<= 1048576;try simp only [cC,db,dc,dd,cQ,js,eS,dy,eT,eg,true_and]
  omega
 have HR:Hid (Rd w 0 (.list 9 X.nq (fun i=>ac (aJ (X.qf i)))) (.slice a1 l1 c1)/\Rd w 0 (aw X.c.q.ws) (.slice a2 l2 c2)/\Rd w 0 (ai X.c.q.bs) (.slice a3 l3 c3)/\Rd w 0 (.list 9 X.nq (fun i=>ac (aJ (X.qf i)))) (.slice a1' l1 c1')/\Rd w 0 (aw X.c.q.ws) (.slice a2' l2 c2')/\Rd w 0 (ai X.c.q.bs) (.slice a3' l3 c3')):=⟨r1,r2,r3,r1',r2',r3'⟩
 have G0:Hid (Below w.heap.size w W/\ae W w.heap.size 90 (bj X a1 l1 c1 a2 l2 c2 a3 l3 c3).toArray/\ae W (w.heap.size+1) 90 (bj X a1' l1 c1' a2' l2 c2' a3' l3 c3').toArray):=⟨by rw [hW];exact af (aa _ _) (aa _ _),by rw [hW];exact (ae.new w _ _).below (aa _ _),by rw [hW];have:=ae.new (w.alloc (.cells (bj X a1 l1 c1 a2 l2 c2 a3 l3 c3).toArray 90)) (bj X a1' l1 c1' a2' l2 c2' a3' l3 c3').toArray 90;simpa using this⟩
 clear hz r1 r2 r3 r1' r2' r3';go_enter func67,ntmps67
 go_upto_region 1 with fail
 rw [<- hW];clear hW;obtain ⟨⟨y0,y1,y2,y3,y4,y5,y6,y7,y8,y9,y10,y11,y12,y13,y14,y15,y16⟩,yf⟩:=G0.out.2.1.tc17;obtain ⟨⟨z0,z1,z2,z3,z4,z5,z6,z7,z8,z9,bM,cx,z12,z13,z14,z15,z16⟩,zf⟩:=G0.out.2.2.tc17;clear yf zf;go_wp2_with fail
 refine (rN X.nq X.qf a1 l1 c1 a1' c1' _ (HR.out.1.below G0.out.1) (HR.out.2.2.2.1.below G0.out.1) HZ.out.1).mono ?_;rintro e w1 ⟨rfl,hb1⟩;have G1:Hid (Below w.heap.size w w1/\ae w1 w.heap.size 90 (bj X a1 l1 c1 a2 l2 c2 a3 l3 c3).toArray/\ae w1 (w.heap.size+1) 90 (bj X a1' l1 c1' a2' l2 c2' a3' l3 c3').toArray):=⟨af G0.out.1 hb1,G0.out.2.1.below hb1,G0.out.2.2.below hb1⟩
 clear hb1 y0 y1 y2 y3 y4 y5 y6 y7 y8 y9 y10 y11 y12 y13 y14 y15 y16 z0 z1 z2 z3 z4 z5 z6 z7 z8 z9 bM cx z12 z13 z14 z15 z16;obtain ⟨⟨y0,y1,y2,y3,y4,y5,y6,y7,y8,y9,y10,y11,y12,y13,y14,y15,y16⟩,yf⟩:=G1.out.2.1.tc17;obtain ⟨⟨z0,z1,z2,z3,z4,z5,z6,z7,z8,z9,bM,cx,z12,z13,z14,z15,z16⟩,zf⟩:=G1.out.2.2.tc17;clear yf zf;go_wp2_with fail
 refine (nY X.c a2 l2 c2 a3 l3 c3 a2' c2' a3' c3' _ (HR.out.2.1.below G1.out.1) (HR.out.2.2.1.below G1.out.1) (HR.out.2.2.2.2.1.below G1.out.1) (HR.out.2.2.2.2.2.below G1.out.1) HZ.out.2).mono ?_;rintro e w2 ⟨rfl,hb2⟩;have G2:Hid (Below w.heap.size w w2/\ae w2 w.heap.size 90 (bj X a1 l1 c1 a2 l2 c2 a3 l3 c3).toArray/\ae w2 (w.heap.size+1) 90 (bj X a1' l1 c1' a2' l2 c2' a3' l3 c3').toArray):=⟨af G1.out.1 hb2,G1.out.2.1.below hb2,G1.out.2.2.below hb2⟩
 clear hb2 y0 y1 y2 y3 y4 y5 y6 y7 y8 y9 y10 y11 y12 y13 y14 y15 y16 z0 z1 z2 z3 z4 z5 z6 z7 z8 z9 bM cx z12 z13 z14 z15 z16;obtain ⟨⟨y0,y1,y2,y3,y4,y5,y6,y7,y8,y9,y10,y11,y12,y13,y14,y15,y16⟩,yf⟩:=G2.out.2.1.tc17;obtain ⟨⟨z0,z1,z2,z3,z4,z5,z6,z7,z8,z9,bM,cx,z12,z13,z14,z15,z16⟩,zf⟩:=G2.out.2.2.tc17;clear yf zf;go_wp2;go_ret;exact ⟨rfl,G2.out.1⟩
theorem rO(n:Nat)(f:Nat->VN)(a:OA)(n' cap:Nat)(a':OA)(cap':Nat)(w:World)(hs:Rd w 0 (.list 17 n (fun k=>ac (aN (f k)))) (.slice a n' cap))(hs':Rd w 0 (.list 17 n (fun k=>ac (aN (f k)))) (.slice a' n' cap'))(hz:(Tr.list 17 n (fun k=>ac (aN (f k)))).sz<= 1048576):
 Calls prog 31 #[.slice a n' cap,.slice a' n' cap'] w fun e w'=>e=.returned (.bool true)/\Below w.heap.size w w':=by
 obtain ⟨a9,c9,h9,-,hn⟩:=hs.shape;simp only [Value.slice.injEq] at h9;obtain ⟨-,rfl,-⟩:=h9;clear a9 c9 hn;have hn1:n'<= 1048576:=by rw [Tr.sz_list] at hz;omega
 have HZ:Hid (∀ k,k<n'->ax 17 (ac (aN (f k)))<= 1048576):=by
  show ∀ k,k<n'->ax 17 (ac (aN (f k)))<= 1048576;intro k hk;rw [Tr.sz_list] at hz;have:=ci (fun k=>ax 17 (ac (aN (f k)))) hk;omega
 have HS:Hid (Rd w 0 (.list 17 n' (fun k=>ac (aN (f k)))) (.slice a n' cap)/\Rd w 0 (.list 17 n' (fun k=>ac (aN (f k)))) (.slice a' n' cap')):=⟨hs,hs'⟩
 clear hs hs' hz;go_enter func31,ntmps31
 go_wp2;go_loopw [5] (fun i wr=>∃ z:Nat,z<= n'/\i=Vi z/\Below w.heap.size w wr) (fun i _=>n'-(intOf i).toNat)
 case atStart=>exact ⟨0,Nat.zero_le _,rfl,Br⟩
 case round=>
  obtain ⟨k,hk,rfl,hbl⟩:=hrel;by_cases hlt:k<n'
  ·have hi:(k:Int)<(n':Int):=by omega
   obtain ⟨b,off,vs,rfl,_,hb0,hlen,hr,hrd⟩:=(HS.out.1.below hbl).at hlt;obtain ⟨a1,c1,a2,c2,a3,c3,rfl,r1,r2,r3⟩:=VN.cells hrd hlen;clear hlen hrd hb0;obtain ⟨b',off',vs,rfl,_,hb0,hlen,hr',hrd⟩:=(HS.out.2.below hbl).at hlt;obtain ⟨a1',c1',a2',c2',a3',c3',rfl,r1',r2',r3'⟩:=VN.cells hrd hlen;clear hlen hrd hb0;have d09:wr.cell? ⟨b,off+k*17,none⟩=_:=hr 0 _ rfl;have e09:wr.cell? ⟨b',off'+k*17,none⟩=_:=hr' 0 _ rfl;have d19:=hr 1 _ rfl;have e19:=hr' 1 _ rfl;have d29:=hr 2 _ rfl;have e29:=hr' 2 _ rfl;have d39:=hr 3 _ rfl;have e39:=hr' 3 _ rfl;have d49:=hr 4 _ rfl;have e49:=hr' 4 _ rfl;have d59:=hr 5 _ rfl;have e59:=hr' 5 _ rfl;have d69:=hr 6 _ rfl;have e69:=hr' 6 _ rfl;have d79:=hr 7 _ rfl;have e79:=hr' 7 _ rfl;have d89:=hr 8 _ rfl;have e89:=hr' 8 _ rfl;have d99:=hr 9 _ rfl;have e99:=hr' 9 _ rfl;have d109:=hr 10 _ rfl;have e109:=hr' 10 _ rfl;have d119:=hr 11 _ rfl;have e119:=hr' 11 _ rfl;have d129:=hr 12 _ rfl;have e129:=hr' 12 _ rfl;have d139:=hr 13 _ rfl;have e139:=hr' 13 _ rfl;have d149:=hr 14 _ rfl;have e149:=hr' 14 _ rfl;have d159:=hr 15 _ rfl;have e159:=hr' 15 _ rfl;have d169:=hr 16 _ rfl;have e169:=hr' 16 _ rfl;have HK:Hid (Below w.heap.size w wr/\ax 17 (ac (aN (f k)))<= 1048576/\Rd wr 0 (.list 9 (f k).nq (fun i=>ac (aJ ((f k).qf i)))) (.slice a1 ((f k).nq) c1)/\Rd wr 0 (aw (f k).c.q.ws) (.slice a2 ((f k).c.q.ws.length) c2)/\Rd wr 0 (ai (f k).c.q.bs) (.slice a3 ((f k).c.q.bs.length) c3)/\Rd wr 0 (.list 9 (f k).nq (fun i=>ac (aJ ((f k).qf i)))) (.slice a1' ((f k).nq) c1')/\Rd wr 0 (aw (f k).c.q.ws) (.slice a2' ((f k).c.q.ws.length) c2')/\Rd wr 0 (ai (f k).c.q.bs) (.slice a3' ((f k).c.q.bs.length) c3')):=⟨hbl,HZ.out k hlt,r1,r2,r3,r1',r2',r3'⟩
   clear r1 r2 r3 r1' r2' r3' hr hr' hbl;go_wp2_with fail
   go_region_with (go_at_call 67;refine (tw (f k) a1 ((f k).nq) c1 a2 ((f k).c.q.ws.length) c2 a3 ((f k).c.q.bs.length) c3 a1' c1' a2' c2' a3' c3' _ (HK.out.2.2.1.below (by first|exact Br|exact Br.drew|exact Br.drew.drew)) (HK.out.2.2.2.1.below (by first|exact Br|exact Br.drew|exact Br.drew.drew)) (HK.out.2.2.2.2.1.below (by first|exact Br|exact Br.drew|exact Br.drew.drew)) (HK.out.2.2.2.2.2.1.below (by first|exact Br|exact Br.drew|exact Br.drew.drew)) (HK.out.2.2.2.2.2.2.1.below (by first|exact Br|exact Br.drew|exact Br.drew.drew)) (HK.out.2.2.2.2.2.2.2.below (by first|exact Br|exact Br.drew|exact Br.drew.drew)) HK.out.2.1).mono ?_;rintro e w1 ⟨rfl,b1'⟩;have b1:Below wr.heap.size wr w1:=af (by first|exact Br|exact Br.drew|exact Br.drew.drew) b1';clear b1')
   all_goals (
    have B1:=af HK.out.1 b1;clear HK b1 d09 e09 d19 e19 d29 e29 d39 e39 d49 e49 d59 e59 d69 e69 d79 e79 d89 e89 d99 e99 d109 e109 d119 e119 d129 e129 d139 e139 d149 e149 d159 e159 d169 e169;go_wp2;go_roundw
    case rel=>exact ⟨k+1,by omega,by go_num,B1⟩
    case measure=>simp [intOf];omega)
  have hi:¬ (k:Int)<(n':Int):=by omega
  go_wp2;go_ret;exact ⟨rfl,hbl⟩
theorem kV(X:VF)(a1:OA)(l1 c1:Nat)(a2:OA)(l2 c2:Nat)(a3:OA)(l3 c3:Nat)(a1':OA)(c1':Nat)(a2':OA)(c2':Nat)(a3':OA)(c3':Nat)(w:World)(r1:Rd w 0 (.list 7 X.set.n (fun i=>ac (aR (X.set.f i)))) (.slice a1 l1 c1))(r2:Rd w 0 (.list 13 X.op.m (fun i=>ac (dT (X.op.f i)))) (.slice a2 l2 c2))(r3:Rd w 0 (.list 17 X.nl (fun i=>ac (aN (X.lf i)))) (.slice a3 l3 c3))(r1':Rd w 0 (.list 7 X.set.n (fun i=>ac (aR (X.set.f i)))) (.slice a1' l1 c1'))(r2':Rd w 0 (.list 13 X.op.m (fun i=>ac (dT (X.op.f i)))) (.slice a2' l2 c2'))(r3':Rd w 0 (.list 17 X.nl (fun i=>ac (aN (X.lf i)))) (.slice a3' l3 c3'))(hz:ax 11 (ac (aX X))<= 1048576):
 Calls prog 10 #[.agg (aq X a1 l1 c1 a2 l2 c2 a3 l3 c3).toArray,.agg (aq X a1' l1 c1' a2' l2 c2' a3' l3 c3').toArray] w fun e w'=>e=.returned (.bool true)/\Below w.heap.size w w':=by
 obtain ⟨W,hW⟩:∃ W,W=(w.alloc (.cells (aq X a1 l1 c1 a2 l2 c2 a3 l3 c3).toArray 41)).alloc (.cells (aq X a1' l1 c1' a2' l2 c2' a3' l3 c3').toArray 41):=⟨_,rfl⟩
 have HZ:Hid (ax 3 (ac (eE X.set))<= 1048576/\ax 2 (ac (tT X.op))<= 1048576/\(Tr.list 17 X.nl (fun i=>ac (aN (X.lf i)))).sz<= 1048576):=by
  rw [eg] at hz;show ax 3 (ac (eE X.set))<= 1048576/\ax 2 (ac (tT X.op))<= 1048576/\(Tr.list 17 X.nl (fun i=>ac (aN (X.lf i)))).sz<= 1048576;try simp only [cC,db,dc,dd,cQ,js,eS,dy,eT,eg,true_and]
  omega
 have HR:Hid (Rd w 0 (.list 7 X.set.n (fun i=>ac (aR (X.set.f i)))) (.slice a1 l1 c1)/\Rd w 0 (.list 13 X.op.m (fun i=>ac (dT (X.op.f i)))) (.slice a2 l2 c2)/\Rd w 0 (.list 17 X.nl (fun i=>ac (aN (X.lf i)))) (.slice a3 l3 c3)/\Rd w 0 (.list 7 X.set.n (fun i=>ac (aR (X.set.f i)))) (.slice a1' l1 c1')/\Rd w 0 (.list 13 X.op.m (fun i=>ac (dT (X.op.f i)))) (.slice a2' l2 c2')/\Rd w 0 (.list 17 X.nl (fun i=>ac (aN (X.lf i)))) (.slice a3' l3 c3')):=⟨r1,r2,r3,r1',r2',r3'⟩
 have G0:Hid (Below w.heap.size w W/\ae W w.heap.size 41 (aq X a1 l1 c1 a2 l2 c2 a3 l3 c3).toArray/\ae W (w.heap.size+1) 41 (aq X a1' l1 c1' a2' l2 c2' a3' l3 c3').toArray):=⟨by rw [hW];exact af (aa _ _) (aa _ _),by rw [hW];exact (ae.new w _ _).below (aa _ _),by rw [hW];have:=ae.new (w.alloc (.cells (aq X a1 l1 c1 a2 l2 c2 a3 l3 c3).toArray 41)) (aq X a1' l1 c1' a2' l2 c2' a3' l3 c3').toArray 41;simpa using this⟩
 clear hz r1 r2 r3 r1' r2' r3';go_enter func10,ntmps10
 go_upto_region 1 with fail
 rw [<- hW];clear hW;obtain ⟨⟨y0,y1,y2,y3,y4,y5,y6,y7,y8,y9,y10⟩,yf⟩:=G0.out.2.1.tc11;obtain ⟨⟨z0,z1,z2,z3,z4,z5,z6,z7,z8,z9,bM⟩,zf⟩:=G0.out.2.2.tc11;clear yf zf;go_wp2_with fail
 refine (qr X.set a1 l1 c1 a1' c1' _ (HR.out.1.below G0.out.1) (HR.out.2.2.2.1.below G0.out.1) HZ.out.1).mono ?_;rintro e w1 ⟨rfl,hb1⟩;have G1:Hid (Below w.heap.size w w1/\ae w1 w.heap.size 41 (aq X a1 l1 c1 a2 l2 c2 a3 l3 c3).toArray/\ae w1 (w.heap.size+1) 41 (aq X a1' l1 c1' a2' l2 c2' a3' l3 c3').toArray):=⟨af G0.out.1 hb1,G0.out.2.1.below hb1,G0.out.2.2.below hb1⟩
 clear hb1 y0 y1 y2 y3 y4 y5 y6 y7 y8 y9 y10 z0 z1 z2 z3 z4 z5 z6 z7 z8 z9 bM;obtain ⟨⟨y0,y1,y2,y3,y4,y5,y6,y7,y8,y9,y10⟩,yf⟩:=G1.out.2.1.tc11;obtain ⟨⟨z0,z1,z2,z3,z4,z5,z6,z7,z8,z9,bM⟩,zf⟩:=G1.out.2.2.tc11;clear yf zf;go_wp2_with fail
 refine (rb X.op a2 l2 c2 a2' c2' _ (HR.out.2.1.below G1.out.1) (HR.out.2.2.2.2.1.below G1.out.1) HZ.out.2.1).mono ?_;rintro e w2 ⟨rfl,hb2⟩;have G2:Hid (Below w.heap.size w w2/\ae w2 w.heap.size 41 (aq X a1 l1 c1 a2 l2 c2 a3 l3 c3).toArray/\ae w2 (w.heap.size+1) 41 (aq X a1' l1 c1' a2' l2 c2' a3' l3 c3').toArray):=⟨af G1.out.1 hb2,G1.out.2.1.below hb2,G1.out.2.2.below hb2⟩
 clear hb2 y0 y1 y2 y3 y4 y5 y6 y7 y8 y9 y10 z0 z1 z2 z3 z4 z5 z6 z7 z8 z9 bM;obtain ⟨⟨y0,y1,y2,y3,y4,y5,y6,y7,y8,y9,y10⟩,yf⟩:=G2.out.2.1.tc11;obtain ⟨⟨z0,z1,z2,z3,z4,z5,z6,z7,z8,z9,bM⟩,zf⟩:=G2.out.2.2.tc11;clear yf zf;go_wp2_with fail
 refine (rO X.nl X.lf a3 l3 c3 a3' c3' _ (HR.out.2.2.1.below G2.out.1) (HR.out.2.2.2.2.2.below G2.out.1) HZ.out.2.2).mono ?_;rintro e w3 ⟨rfl,hb3⟩;have G3:Hid (Below w.heap.size w w3/\ae w3 w.heap.size 41 (aq X a1 l1 c1 a2 l2 c2 a3 l3 c3).toArray/\ae w3 (w.heap.size+1) 41 (aq X a1' l1 c1' a2' l2 c2' a3' l3 c3').toArray):=⟨af G2.out.1 hb3,G2.out.2.1.below hb3,G2.out.2.2.below hb3⟩
 clear hb3 y0 y1 y2 y3 y4 y5 y6 y7 y8 y9 y10 z0 z1 z2 z3 z4 z5 z6 z7 z8 z9 bM;obtain ⟨⟨y0,y1,y2,y3,y4,y5,y6,y7,y8,y9,y10⟩,yf⟩:=G3.out.2.1.tc11;obtain ⟨⟨z0,z1,z2,z3,z4,z5,z6,z7,z8,z9,bM⟩,zf⟩:=G3.out.2.2.tc11;clear yf zf;go_wp2;go_ret;exact ⟨rfl,G3.out.1⟩
end Go.Proofs.YtohikbpolofklaaGreat
