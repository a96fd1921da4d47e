/- Texts that the proof needs, joined: Tr4. -/
import Derived.Test.YtohikbpolofklaaGreatY2
set_option linter.unusedVariables false
set_option linter.unusedSimpArgs false
set_option maxHeartbeats 4000000
set_option maxRecDepth 20000
namespace Go.Proofs.YtohikbpolofklaaGreat
open Go.RowKit Go.Joins Go.Proofs.Tryz
theorem qX(ws:List Bool)(a:OA)(l c:Nat)(a':OA)(c':Nat)(w:World)(r:Rd w 0 (ai ws) (.slice a l c))(r':Rd w 0 (ai ws) (.slice a' l c'))(hz:ws.length<= 1048576):
 Calls prog 155 #[.slice a l c,.slice a' l c'] w fun e w'=>e=.returned (.bool true)/\Below w.heap.size w w':=by
 obtain ⟨a9,c9,h9,-,hm,hs⟩:=r.bools;simp only [Value.slice.injEq] at h9;obtain ⟨rfl,rfl,rfl⟩:=h9;obtain ⟨a9,c9,h9,-,-,hs'⟩:=r'.bools;simp only [Value.slice.injEq] at h9;obtain ⟨rfl,-,rfl⟩:=h9;exact iu _ _ _ _ _ _ ws w rfl rfl hs hs' (by omega)
theorem lu(X:VQ)(a1:OA)(l1 c1:Nat)(a2:OA)(l2 c2:Nat)(a1':OA)(c1':Nat)(a2':OA)(c2':Nat)(w:World)(r1:Rd w 0 (aw X.ws) (.slice a1 l1 c1))(r2:Rd w 0 (ai X.bs) (.slice a2 l2 c2))(r1':Rd w 0 (aw X.ws) (.slice a1' l1 c1'))(r2':Rd w 0 (ai X.bs) (.slice a2' l2 c2'))(hz:ax 6 (ac (qT X))<= 1048576):
 Calls prog 153 #[.agg (qL X a1 l1 c1 a2 l2 c2).toArray,.agg (qL X a1' l1 c1' a2' l2 c2').toArray] w fun e w'=>e=.returned (.bool true)/\Below w.heap.size w w':=by
 rw [cC] at hz;obtain ⟨a9,c9,h9,-,hm1,hs1⟩:=r1.ints;simp only [Value.slice.injEq] at h9;obtain ⟨rfl,rfl,rfl⟩:=h9;obtain ⟨a9,c9,h9,-,hm2,hs2⟩:=r2.bools;simp only [Value.slice.injEq] at h9;obtain ⟨rfl,rfl,rfl⟩:=h9;obtain ⟨a9,c9,h9,-,-,hs1'⟩:=r1'.ints;simp only [Value.slice.injEq] at h9;obtain ⟨rfl,-,rfl⟩:=h9;obtain ⟨a9,c9,h9,-,-,hs2'⟩:=r2'.bools;simp only [Value.slice.injEq] at h9;obtain ⟨rfl,-,rfl⟩:=h9;exact pO X.kd X.pl X.n X.wa _ _ _ _ _ _ _ _ _ _ _ _ X.ws X.bs w rfl rfl rfl rfl hs1 hs2 hs1' hs2' (by omega) (by omega)
theorem sV(X:VA)(a1:OA)(l1 c1:Nat)(a2:OA)(l2 c2:Nat)(a1':OA)(c1':Nat)(a2':OA)(c2':Nat)(w:World)(r1:Rd w 0 (aw X.ws) (.slice a1 l1 c1))(r2:Rd w 0 (ai X.bs) (.slice a2 l2 c2))(r1':Rd w 0 (aw X.ws) (.slice a1' l1 c1'))(r2':Rd w 0 (ai X.bs) (.slice a2' l2 c2'))(hz:ax 6 (ac (aT X))<= 1048576):
 Calls prog 183 #[.agg (aL X a1 l1 c1 a2 l2 c2).toArray,.agg (aL X a1' l1 c1' a2' l2 c2').toArray] w fun e w'=>e=.returned (.bool true)/\Below w.heap.size w w':=by
 rw [db] at hz;obtain ⟨a9,c9,h9,-,hm1,hs1⟩:=r1.ints;simp only [Value.slice.injEq] at h9;obtain ⟨rfl,rfl,rfl⟩:=h9;obtain ⟨a9,c9,h9,-,hm2,hs2⟩:=r2.bools;simp only [Value.slice.injEq] at h9;obtain ⟨rfl,rfl,rfl⟩:=h9;obtain ⟨a9,c9,h9,-,-,hs1'⟩:=r1'.ints;simp only [Value.slice.injEq] at h9;obtain ⟨rfl,-,rfl⟩:=h9;obtain ⟨a9,c9,h9,-,-,hs2'⟩:=r2'.bools;simp only [Value.slice.injEq] at h9;obtain ⟨rfl,-,rfl⟩:=h9;exact oc X.kd X.fl X.pl X.n _ _ _ _ _ _ _ _ _ _ _ _ X.ws X.bs w rfl rfl rfl rfl hs1 hs2 hs1' hs2' (by omega) (by omega)
theorem qY(n:Nat)(f:Nat->VA)(a:OA)(n' cap:Nat)(a':OA)(cap':Nat)(w:World)(hs:Rd w 0 (.list 6 n (fun k=>ac (aT (f k)))) (.slice a n' cap))(hs':Rd w 0 (.list 6 n (fun k=>ac (aT (f k)))) (.slice a' n' cap'))(hz:(Tr.list 6 n (fun k=>ac (aT (f k)))).sz<= 1048576):
 Calls prog 156 #[.slice a n' cap,.slice a' n' cap'] w fun e w'=>e=.returned (.bool true)/\Below w.heap.size w w':=by
 obtain ⟨a9,c9,h9,-,hn⟩:=hs.shape;simp only [Value.slice.injEq] at h9;obtain ⟨-,rfl,-⟩:=h9;clear a9 c9 hn;have hn1:n'<= 1048576:=by rw [Tr.sz_list] at hz;omega
 have HZ:Hid (∀ k,k<n'->ax 6 (ac (aT (f k)))<= 1048576):=by
  show ∀ k,k<n'->ax 6 (ac (aT (f k)))<= 1048576;intro k hk;rw [Tr.sz_list] at hz;have:=ci (fun k=>ax 6 (ac (aT (f k)))) hk;omega
 have HS:Hid (Rd w 0 (.list 6 n' (fun k=>ac (aT (f k)))) (.slice a n' cap)/\Rd w 0 (.list 6 n' (fun k=>ac (aT (f k)))) (.slice a' n' cap')):=⟨hs,hs'⟩
 clear hs hs' hz;go_enter func156,ntmps156
 go_wp2;go_loopw [5] (fun i wr=>∃ z:Nat,z<= n'/\i=Vi z/\Below w.heap.size w wr) (fun i _=>n'-(intOf i).toNat)
 case atStart=>exact ⟨0,Nat.zero_le _,rfl,Br⟩
 case round=>
  obtain ⟨k,hk,rfl,hbl⟩:=hrel;by_cases hlt:k<n'
  ·have hi:(k:Int)<(n':Int):=by omega
   obtain ⟨b,off,vs,rfl,_,hb0,hlen,hr,hrd⟩:=(HS.out.1.below hbl).at hlt;obtain ⟨a1,c1,a2,c2,rfl,r1,r2⟩:=VA.cells hrd hlen;clear hlen hrd hb0;obtain ⟨b',off',vs,rfl,_,hb0,hlen,hr',hrd⟩:=(HS.out.2.below hbl).at hlt;obtain ⟨a1',c1',a2',c2',rfl,r1',r2'⟩:=VA.cells hrd hlen;clear hlen hrd hb0;have d09:wr.cell? ⟨b,off+k*6,none⟩=_:=hr 0 _ rfl;have e09:wr.cell? ⟨b',off'+k*6,none⟩=_:=hr' 0 _ rfl;have d19:=hr 1 _ rfl;have e19:=hr' 1 _ rfl;have d29:=hr 2 _ rfl;have e29:=hr' 2 _ rfl;have d39:=hr 3 _ rfl;have e39:=hr' 3 _ rfl;have d49:=hr 4 _ rfl;have e49:=hr' 4 _ rfl;have d59:=hr 5 _ rfl;have e59:=hr' 5 _ rfl;have HK:Hid (Below w.heap.size w wr/\ax 6 (ac (aT (f k)))<= 1048576/\Rd wr 0 (aw (f k).ws) (.slice a1 ((f k).ws.length) c1)/\Rd wr 0 (ai (f k).bs) (.slice a2 ((f k).bs.length) c2)/\Rd wr 0 (aw (f k).ws) (.slice a1' ((f k).ws.length) c1')/\Rd wr 0 (ai (f k).bs) (.slice a2' ((f k).bs.length) c2')):=⟨hbl,HZ.out k hlt,r1,r2,r1',r2'⟩
   clear r1 r2 r1' r2' hr hr' hbl;go_wp2_with fail
   go_region_with (go_at_call 183;refine (sV (f k) a1 ((f k).ws.length) c1 a2 ((f k).bs.length) c2 a1' c1' a2' c2' _ (HK.out.2.2.1.below (by first|exact Br|exact Br.drew|exact Br.drew.drew)) (HK.out.2.2.2.1.below (by first|exact Br|exact Br.drew|exact Br.drew.drew)) (HK.out.2.2.2.2.1.below (by first|exact Br|exact Br.drew|exact Br.drew.drew)) (HK.out.2.2.2.2.2.below (by first|exact Br|exact Br.drew|exact Br.drew.drew)) HK.out.2.1).mono ?_;rintro e w1 ⟨rfl,b1'⟩;have b1:Below wr.heap.size wr w1:=af (by first|exact Br|exact Br.drew|exact Br.drew.drew) b1';clear b1')
   all_goals (
    have B1:=af HK.out.1 b1;clear HK b1 d09 e09 d19 e19 d29 e29 d39 e39 d49 e49 d59 e59;go_wp2;go_roundw
    case rel=>exact ⟨k+1,by omega,by go_num,B1⟩
    case measure=>simp [intOf];omega)
  have hi:¬ (k:Int)<(n':Int):=by omega
  go_wp2;go_ret;exact ⟨rfl,hbl⟩
theorem sW(X:VP)(a1:OA)(l1 c1:Nat)(a2:OA)(l2 c2:Nat)(a1':OA)(c1':Nat)(a2':OA)(c2':Nat)(w:World)(r1:Rd w 0 (aw X.q.ws) (.slice a1 l1 c1))(r2:Rd w 0 (ai X.q.bs) (.slice a2 l2 c2))(r1':Rd w 0 (aw X.q.ws) (.slice a1' l1 c1'))(r2':Rd w 0 (ai X.q.bs) (.slice a2' l2 c2'))(hz:ax 8 (ac (pT X))<= 1048576):
 Calls prog 182 #[.agg (pL X a1 l1 c1 a2 l2 c2).toArray,.agg (pL X a1' l1 c1' a2' l2 c2').toArray] w fun e w'=>e=.returned (.bool true)/\Below w.heap.size w w':=by
 obtain ⟨W,hW⟩:∃ W,W=(w.alloc (.cells (pL X a1 l1 c1 a2 l2 c2).toArray 128)).alloc (.cells (pL X a1' l1 c1' a2' l2 c2').toArray 128):=⟨_,rfl⟩
 have HZ:Hid (ax 6 (ac (qT X.q))<= 1048576):=by
  rw [dc] at hz;show ax 6 (ac (qT X.q))<= 1048576;try simp only [cC,db,dc,dd,cQ,true_and]
  omega
 have HR:Hid (Rd w 0 (aw X.q.ws) (.slice a1 l1 c1)/\Rd w 0 (ai X.q.bs) (.slice a2 l2 c2)/\Rd w 0 (aw X.q.ws) (.slice a1' l1 c1')/\Rd w 0 (ai X.q.bs) (.slice a2' l2 c2')):=⟨r1,r2,r1',r2'⟩
 have G0:Hid (Below w.heap.size w W/\ae W w.heap.size 128 (pL X a1 l1 c1 a2 l2 c2).toArray/\ae W (w.heap.size+1) 128 (pL X a1' l1 c1' a2' l2 c2').toArray):=⟨by rw [hW];exact af (aa _ _) (aa _ _),by rw [hW];exact (ae.new w _ _).below (aa _ _),by rw [hW];have:=ae.new (w.alloc (.cells (pL X a1 l1 c1 a2 l2 c2).toArray 128)) (pL X a1' l1 c1' a2' l2 c2').toArray 128;simpa using this⟩
 clear hz r1 r2 r1' r2';go_enter func182,ntmps182
 go_upto_region 1 with fail
 rw [<- hW];clear hW;obtain ⟨⟨y0,y1,y2,y3,y4,y5,y6,y7⟩,yf⟩:=G0.out.2.1.tc8;obtain ⟨⟨z0,z1,z2,z3,z4,z5,z6,z7⟩,zf⟩:=G0.out.2.2.tc8;clear yf zf;go_wp2_with fail
 refine (lu X.q a1 l1 c1 a2 l2 c2 a1' c1' a2' c2' _ (HR.out.1.below G0.out.1) (HR.out.2.1.below G0.out.1) (HR.out.2.2.1.below G0.out.1) (HR.out.2.2.2.below G0.out.1) HZ.out).mono ?_;rintro e w1 ⟨rfl,hb1⟩;have G1:Hid (Below w.heap.size w w1/\ae w1 w.heap.size 128 (pL X a1 l1 c1 a2 l2 c2).toArray/\ae w1 (w.heap.size+1) 128 (pL X a1' l1 c1' a2' l2 c2').toArray):=⟨af G0.out.1 hb1,G0.out.2.1.below hb1,G0.out.2.2.below hb1⟩
 clear hb1 y0 y1 y2 y3 y4 y5 y6 y7 z0 z1 z2 z3 z4 z5 z6 z7;go_wp2;go_ret;exact ⟨rfl,G1.out.1⟩
theorem qZ(n:Nat)(f:Nat->VP)(a:OA)(n' cap:Nat)(a':OA)(cap':Nat)(w:World)(hs:Rd w 0 (.list 8 n (fun k=>ac (pT (f k)))) (.slice a n' cap))(hs':Rd w 0 (.list 8 n (fun k=>ac (pT (f k)))) (.slice a' n' cap'))(hz:(Tr.list 8 n (fun k=>ac (pT (f k)))).sz<= 1048576):
 Calls prog 154 #[.slice a n' cap,.slice a' n' cap'] w fun e w'=>e=.returned (.bool true)/\Below w.heap.size w w':=by
 obtain ⟨a9,c9,h9,-,hn⟩:=hs.shape;simp only [Value.slice.injEq] at h9;obtain ⟨-,rfl,-⟩:=h9;clear a9 c9 hn;have hn1:n'<= 1048576:=by rw [Tr.sz_list] at hz;omega
 have HZ:Hid (∀ k,k<n'->ax 8 (ac (pT (f k)))<= 1048576):=by
  show ∀ k,k<n'->ax 8 (ac (pT (f k)))<= 1048576;intro k hk;rw [Tr.sz_list] at hz;have:=ci (fun k=>ax 8 (ac (pT (f k)))) hk;omega
 have HS:Hid (Rd w 0 (.list 8 n' (fun k=>ac (pT (f k)))) (.slice a n' cap)/\Rd w 0 (.list 8 n' (fun k=>ac (pT (f k)))) (.slice a' n' cap')):=⟨hs,hs'⟩
 clear hs hs' hz;go_enter func154,ntmps154
 go_wp2;go_loopw [5] (fun i wr=>∃ z:Nat,z<= n'/\i=Vi z/\Below w.heap.size w wr) (fun i _=>n'-(intOf i).toNat)
 case atStart=>exact ⟨0,Nat.zero_le _,rfl,Br⟩
 case round=>
  obtain ⟨k,hk,rfl,hbl⟩:=hrel;by_cases hlt:k<n'
  ·have hi:(k:Int)<(n':Int):=by omega
   obtain ⟨b,off,vs,rfl,_,hb0,hlen,hr,hrd⟩:=(HS.out.1.below hbl).at hlt;obtain ⟨a1,c1,a2,c2,rfl,r1,r2⟩:=VP.cells hrd hlen;clear hlen hrd hb0;obtain ⟨b',off',vs,rfl,_,hb0,hlen,hr',hrd⟩:=(HS.out.2.below hbl).at hlt;obtain ⟨a1',c1',a2',c2',rfl,r1',r2'⟩:=VP.cells hrd hlen;clear hlen hrd hb0;have d09:wr.cell? ⟨b,off+k*8,none⟩=_:=hr 0 _ rfl;have e09:wr.cell? ⟨b',off'+k*8,none⟩=_:=hr' 0 _ rfl;have d19:=hr 1 _ rfl;have e19:=hr' 1 _ rfl;have d29:=hr 2 _ rfl;have e29:=hr' 2 _ rfl;have d39:=hr 3 _ rfl;have e39:=hr' 3 _ rfl;have d49:=hr 4 _ rfl;have e49:=hr' 4 _ rfl;have d59:=hr 5 _ rfl;have e59:=hr' 5 _ rfl;have d69:=hr 6 _ rfl;have e69:=hr' 6 _ rfl;have d79:=hr 7 _ rfl;have e79:=hr' 7 _ rfl;have HK:Hid (Below w.heap.size w wr/\ax 8 (ac (pT (f k)))<= 1048576/\Rd wr 0 (aw (f k).q.ws) (.slice a1 ((f k).q.ws.length) c1)/\Rd wr 0 (ai (f k).q.bs) (.slice a2 ((f k).q.bs.length) c2)/\Rd wr 0 (aw (f k).q.ws) (.slice a1' ((f k).q.ws.length) c1')/\Rd wr 0 (ai (f k).q.bs) (.slice a2' ((f k).q.bs.length) c2')):=⟨hbl,HZ.out k hlt,r1,r2,r1',r2'⟩
   clear r1 r2 r1' r2' hr hr' hbl;go_wp2_with fail
   go_region_with (go_at_call 182;refine (sW (f k) a1 ((f k).q.ws.length) c1 a2 ((f k).q.bs.length) c2 a1' c1' a2' c2' _ (HK.out.2.2.1.below (by first|exact Br|exact Br.drew|exact Br.drew.drew)) (HK.out.2.2.2.1.below (by first|exact Br|exact Br.drew|exact Br.drew.drew)) (HK.out.2.2.2.2.1.below (by first|exact Br|exact Br.drew|exact Br.drew.drew)) (HK.out.2.2.2.2.2.below (by first|exact Br|exact Br.drew|exact Br.drew.drew)) HK.out.2.1).mono ?_;rintro e w1 ⟨rfl,b1'⟩;have b1:Below wr.heap.size wr w1:=af (by first|exact Br|exact Br.drew|exact Br.drew.drew) b1';clear b1')
   all_goals (
    have B1:=af HK.out.1 b1;clear HK b1 d09 e09 d19 e19 d29 e29 d39 e39 d49 e49 d59 e59 d69 e69 d79 e79;go_wp2;go_roundw
    case rel=>exact ⟨k+1,by omega,by go_num,B1⟩
    case measure=>simp [intOf];omega)
  have hi:¬ (k:Int)<(n':Int):=by omega
  go_wp2;go_ret;exact ⟨rfl,hbl⟩
theorem sX(X:VD)(a1:OA)(l1 c1:Nat)(a2:OA)(l2 c2:Nat)(a3:OA)(l3 c3:Nat)(a4:OA)(l4 c4:Nat)(a5:OA)(l5 c5:Nat)(a1':OA)(c1':Nat)(a2':OA)(c2':Nat)(a3':OA)(c3':Nat)(a4':OA)(c4':Nat)(a5':OA)(c5':Nat)(w:World)(r1:Rd w 0 (aw X.q.ws) (.slice a1 l1 c1))(r2:Rd w 0 (ai X.q.bs) (.slice a2 l2 c2))(r3:Rd w 0 (.list 8 X.np (fun i=>ac (pT (X.pt i)))) (.slice a3 l3 c3))(r4:Rd w 0 (ai X.hs) (.slice a4 l4 c4))(r5:Rd w 0 (.list 6 X.nt (fun i=>ac (aT (X.tl i)))) (.slice a5 l5 c5))(r1':Rd w 0 (aw X.q.ws) (.slice a1' l1 c1'))(r2':Rd w 0 (ai X.q.bs) (.slice a2' l2 c2'))(r3':Rd w 0 (.list 8 X.np (fun i=>ac (pT (X.pt i)))) (.slice a3' l3 c3'))(r4':Rd w 0 (ai X.hs) (.slice a4' l4 c4'))(r5':Rd w 0 (.list 6 X.nt (fun i=>ac (aT (X.tl i)))) (.slice a5' l5 c5'))(hz:ax 13 (ac (dT X))<= 1048576):
 Calls prog 111 #[.agg (dL X a1 l1 c1 a2 l2 c2 a3 l3 c3 a4 l4 c4 a5 l5 c5).toArray,.agg (dL X a1' l1 c1' a2' l2 c2' a3' l3 c3' a4' l4 c4' a5' l5 c5').toArray] w fun e w'=>e=.returned (.bool true)/\Below w.heap.size w w':=by
 obtain ⟨W,hW⟩:∃ W,W=(w.alloc (.cells (dL X a1 l1 c1 a2 l2 c2 a3 l3 c3 a4 l4 c4 a5 l5 c5).toArray 122)).alloc (.cells (dL X a1' l1 c1' a2' l2 c2' a3' l3 c3' a4' l4 c4' a5' l5 c5').toArray 122):=⟨_,rfl⟩
 have HZ:Hid (ax 6 (ac (qT X.q))<= 1048576/\(Tr.list 8 X.np (fun i=>ac (pT (X.pt i)))).sz<= 1048576/\X.hs.length<= 1048576/\(Tr.list 6 X.nt (fun i=>ac (aT (X.tl i)))).sz<= 1048576):=by
  rw [dd] at hz;show ax 6 (ac (qT X.q))<= 1048576/\(Tr.list 8 X.np (fun i=>ac (pT (X.pt i)))).sz<= 1048576/\X.hs.length<= 1048576/\(Tr.list 6 X.nt (fun i=>ac (aT (X.tl i)))).sz<= 1048576;try simp only [cC,db,dc,dd,cQ,true_and]
  omega
 have HR:Hid (Rd w 0 (aw X.q.ws) (.slice a1 l1 c1)/\Rd w 0 (ai X.q.bs) (.slice a2 l2 c2)/\Rd w 0 (.list 8 X.np (fun i=>ac (pT (X.pt i)))) (.slice a3 l3 c3)/\Rd w 0 (ai X.hs) (.slice a4 l4 c4)/\Rd w 0 (.list 6 X.nt (fun i=>ac (aT (X.tl i)))) (.slice a5 l5 c5)/\Rd w 0 (aw X.q.ws) (.slice a1' l1 c1')/\Rd w 0 (ai X.q.bs) (.slice a2' l2 c2')/\Rd w 0 (.list 8 X.np (fun i=>ac (pT (X.pt i)))) (.slice a3' l3 c3')/\Rd w 0 (ai X.hs) (.slice a4' l4 c4')/\Rd w 0 (.list 6 X.nt (fun i=>ac (aT (X.tl i)))) (.slice a5' l5 c5')):=⟨r1,r2,r3,r4,r5,r1',r2',r3',r4',r5'⟩
 have G0:Hid (Below w.heap.size w W/\ae W w.heap.size 122 (dL X a1 l1 c1 a2 l2 c2 a3 l3 c3 a4 l4 c4 a5 l5 c5).toArray/\ae W (w.heap.size+1) 122 (dL X a1' l1 c1' a2' l2 c2' a3' l3 c3' a4' l4 c4' a5' l5 c5').toArray):=⟨by rw [hW];exact af (aa _ _) (aa _ _),by rw [hW];exact (ae.new w _ _).below (aa _ _),by rw [hW];have:=ae.new (w.alloc (.cells (dL X a1 l1 c1 a2 l2 c2 a3 l3 c3 a4 l4 c4 a5 l5 c5).toArray 122)) (dL X a1' l1 c1' a2' l2 c2' a3' l3 c3' a4' l4 c4' a5' l5 c5').toArray 122;simpa using this⟩
 clear hz r1 r2 r3 r4 r5 r1' r2' r3' r4' r5';go_enter func111,ntmps111
 go_upto_region 1 with fail
 rw [<- hW];clear hW;obtain ⟨⟨y0,y1,y2,y3,y4,y5,y6,y7,y8,y9,y10,y11,y12⟩,yf⟩:=G0.out.2.1.tc13;obtain ⟨⟨z0,z1,z2,z3,z4,z5,z6,z7,z8,z9,bM,cx,z12⟩,zf⟩:=G0.out.2.2.tc13;clear yf zf;go_wp2_with fail
 refine (lu X.q a1 l1 c1 a2 l2 c2 a1' c1' a2' c2' _ (HR.out.1.below G0.out.1) (HR.out.2.1.below G0.out.1) (HR.out.2.2.2.2.2.1.below G0.out.1) (HR.out.2.2.2.2.2.2.1.below G0.out.1) HZ.out.1).mono ?_;rintro e w1 ⟨rfl,hb1⟩;have G1:Hid (Below w.heap.size w w1/\ae w1 w.heap.size 122 (dL X a1 l1 c1 a2 l2 c2 a3 l3 c3 a4 l4 c4 a5 l5 c5).toArray/\ae w1 (w.heap.size+1) 122 (dL X a1' l1 c1' a2' l2 c2' a3' l3 c3' a4' l4 c4' a5' l5 c5').toArray):=⟨af G0.out.1 hb1,G0.out.2.1.below hb1,G0.out.2.2.below hb1⟩
 clear hb1 y0 y1 y2 y3 y4 y5 y6 y7 y8 y9 y10 y11 y12 z0 z1 z2 z3 z4 z5 z6 z7 z8 z9 bM cx z12;obtain ⟨⟨y0,y1,y2,y3,y4,y5,y6,y7,y8,y9,y10,y11,y12⟩,yf⟩:=G1.out.2.1.tc13;obtain ⟨⟨z0,z1,z2,z3,z4,z5,z6,z7,z8,z9,bM,cx,z12⟩,zf⟩:=G1.out.2.2.tc13;clear yf zf;go_wp2_with fail
 refine (qZ X.np X.pt a3 l3 c3 a3' c3' _ (HR.out.2.2.1.below G1.out.1) (HR.out.2.2.2.2.2.2.2.1.below G1.out.1) HZ.out.2.1).mono ?_;rintro e w2 ⟨rfl,hb2⟩;have G2:Hid (Below w.heap.size w w2/\ae w2 w.heap.size 122 (dL X a1 l1 c1 a2 l2 c2 a3 l3 c3 a4 l4 c4 a5 l5 c5).toArray/\ae w2 (w.heap.size+1) 122 (dL X a1' l1 c1' a2' l2 c2' a3' l3 c3' a4' l4 c4' a5' l5 c5').toArray):=⟨af G1.out.1 hb2,G1.out.2.1.below hb2,G1.out.2.2.below hb2⟩
 clear hb2 y0 y1 y2 y3 y4 y5 y6 y7 y8 y9 y10 y11 y12 z0 z1 z2 z3 z4 z5 z6 z7 z8 z9 bM cx z12;obtain ⟨⟨y0,y1,y2,y3,y4,y5,y6,y7,y8,y9,y10,y11,y12⟩,yf⟩:=G2.out.2.1.tc13;obtain ⟨⟨z0,z1,z2,z3,z4,z5,z6,z7,z8,z9,bM,cx,z12⟩,zf⟩:=G2.out.2.2.tc13;clear yf zf;go_wp2_with fail
 refine (qX X.hs a4 l4 c4 a4' c4' _ (HR.out.2.2.2.1.below G2.out.1) (HR.out.2.2.2.2.2.2.2.2.1.below G2.out.1) HZ.out.2.2.1).mono ?_;rintro e w3 ⟨rfl,hb3⟩;have G3:Hid (Below w.heap.size w w3/\ae w3 w.heap.size 122 (dL X a1 l1 c1 a2 l2 c2 a3 l3 c3 a4 l4 c4 a5 l5 c5).toArray/\ae w3 (w.heap.size+1) 122 (dL X a1' l1 c1' a2' l2 c2' a3' l3 c3' a4' l4 c4' a5' l5 c5').toArray):=⟨af G2.out.1 hb3,G2.out.2.1.below hb3,G2.out.2.2.below hb3⟩
 clear hb3 y0 y1 y2 y3 y4 y5 y6 y7 y8 y9 y10 y11 y12 z0 z1 z2 z3 z4 z5 z6 z7 z8 z9 bM cx z12;obtain ⟨⟨y0,y1,y2,y3,y4,y5,y6,y7,y8,y9,y10,y11,y12⟩,yf⟩:=G3.out.2.1.tc13;obtain ⟨⟨z0,z1,z2,z3,z4,z5,z6,z7,z8,z9,bM,cx,z12⟩,zf⟩:=G3.out.2.2.tc13;clear yf zf;go_wp2_with fail
 refine (qY X.nt X.tl a5 l5 c5 a5' c5' _ (HR.out.2.2.2.2.1.below G3.out.1) (HR.out.2.2.2.2.2.2.2.2.2.below G3.out.1) HZ.out.2.2.2).mono ?_;rintro e w4 ⟨rfl,hb4⟩;have G4:Hid (Below w.heap.size w w4/\ae w4 w.heap.size 122 (dL X a1 l1 c1 a2 l2 c2 a3 l3 c3 a4 l4 c4 a5 l5 c5).toArray/\ae w4 (w.heap.size+1) 122 (dL X a1' l1 c1' a2' l2 c2' a3' l3 c3' a4' l4 c4' a5' l5 c5').toArray):=⟨af G3.out.1 hb4,G3.out.2.1.below hb4,G3.out.2.2.below hb4⟩
 clear hb4 y0 y1 y2 y3 y4 y5 y6 y7 y8 y9 y10 y11 y12 z0 z1 z2 z3 z4 z5 z6 z7 z8 z9 bM cx z12;go_wp2;go_ret;exact ⟨rfl,G4.out.1⟩
theorem ra(n:Nat)(f:Nat->VD)(a:OA)(n' cap:Nat)(a':OA)(cap':Nat)(w:World)(hs:Rd w 0 (.list 13 n (fun k=>ac (dT (f k)))) (.slice a n' cap))(hs':Rd w 0 (.list 13 n (fun k=>ac (dT (f k)))) (.slice a' n' cap'))(hz:(Tr.list 13 n (fun k=>ac (dT (f k)))).sz<= 1048576):
 Calls prog 66 #[.slice a n' cap,.slice a' n' cap'] w fun e w'=>e=.returned (.bool true)/\Below w.heap.size w w':=by
 obtain ⟨a9,c9,h9,-,hn⟩:=hs.shape;simp only [Value.slice.injEq] at h9;obtain ⟨-,rfl,-⟩:=h9;clear a9 c9 hn;have hn1:n'<= 1048576:=by rw [Tr.sz_list] at hz;omega
 have HZ:Hid (∀ k,k<n'->ax 13 (ac (dT (f k)))<= 1048576):=by
  show ∀ k,k<n'->ax 13 (ac (dT (f k)))<= 1048576;intro k hk;rw [Tr.sz_list] at hz;have:=ci (fun k=>ax 13 (ac (dT (f k)))) hk;omega
 have HS:Hid (Rd w 0 (.list 13 n' (fun k=>ac (dT (f k)))) (.slice a n' cap)/\Rd w 0 (.list 13 n' (fun k=>ac (dT (f k)))) (.slice a' n' cap')):=⟨hs,hs'⟩
 clear hs hs' hz;go_enter func66,ntmps66
 go_wp2;go_loopw [5] (fun i wr=>∃ z:Nat,z<= n'/\i=Vi z/\Below w.heap.size w wr) (fun i _=>n'-(intOf i).toNat)
 case atStart=>exact ⟨0,Nat.zero_le _,rfl,Br⟩
 case round=>
  obtain ⟨k,hk,rfl,hbl⟩:=hrel;by_cases hlt:k<n'
  ·have hi:(k:Int)<(n':Int):=by omega
   obtain ⟨b,off,vs,rfl,_,hb0,hlen,hr,hrd⟩:=(HS.out.1.below hbl).at hlt;obtain ⟨a1,c1,a2,c2,a3,c3,a4,c4,a5,c5,rfl,r1,r2,r3,r4,r5⟩:=VD.cells hrd hlen;clear hlen hrd hb0;obtain ⟨b',off',vs,rfl,_,hb0,hlen,hr',hrd⟩:=(HS.out.2.below hbl).at hlt;obtain ⟨a1',c1',a2',c2',a3',c3',a4',c4',a5',c5',rfl,r1',r2',r3',r4',r5'⟩:=VD.cells hrd hlen;clear hlen hrd hb0;have d09:wr.cell? ⟨b,off+k*13,none⟩=_:=hr 0 _ rfl;have e09:wr.cell? ⟨b',off'+k*13,none⟩=_:=hr' 0 _ rfl;have d19:=hr 1 _ rfl;have e19:=hr' 1 _ rfl;have d29:=hr 2 _ rfl;have e29:=hr' 2 _ rfl;have d39:=hr 3 _ rfl;have e39:=hr' 3 _ rfl;have d49:=hr 4 _ rfl;have e49:=hr' 4 _ rfl;have d59:=hr 5 _ rfl;have e59:=hr' 5 _ rfl;have d69:=hr 6 _ rfl;have e69:=hr' 6 _ rfl;have d79:=hr 7 _ rfl;have e79:=hr' 7 _ rfl;have d89:=hr 8 _ rfl;have e89:=hr' 8 _ rfl;have d99:=hr 9 _ rfl;have e99:=hr' 9 _ rfl;have d109:=hr 10 _ rfl;have e109:=hr' 10 _ rfl;have d119:=hr 11 _ rfl;have e119:=hr' 11 _ rfl;have d129:=hr 12 _ rfl;have e129:=hr' 12 _ rfl;have HK:Hid (Below w.heap.size w wr/\ax 13 (ac (dT (f k)))<= 1048576/\Rd wr 0 (aw (f k).q.ws) (.slice a1 ((f k).q.ws.length) c1)/\Rd wr 0 (ai (f k).q.bs) (.slice a2 ((f k).q.bs.length) c2)/\Rd wr 0 (.list 8 (f k).np (fun i=>ac (pT ((f k).pt i)))) (.slice a3 ((f k).np) c3)/\Rd wr 0 (ai (f k).hs) (.slice a4 ((f k).hs.length) c4)/\Rd wr 0 (.list 6 (f k).nt (fun i=>ac (aT ((f k).tl i)))) (.slice a5 ((f k).nt) c5)/\Rd wr 0 (aw (f k).q.ws) (.slice a1' ((f k).q.ws.length) c1')/\Rd wr 0 (ai (f k).q.bs) (.slice a2' ((f k).q.bs.length) c2')/\Rd wr 0 (.list 8 (f k).np (fun i=>ac (pT ((f k).pt i)))) (.slice a3' ((f k).np) c3')/\Rd wr 0 (ai (f k).hs) (.slice a4' ((f k).hs.length) c4')/\Rd wr 0 (.list 6 (f k).nt (fun i=>ac (aT ((f k).tl i)))) (.slice a5' ((f k).nt) c5')):=⟨hbl,HZ.out k hlt,r1,r2,r3,r4,r5,r1',r2',r3',r4',r5'⟩
   clear r1 r2 r3 r4 r5 r1' r2' r3' r4' r5' hr hr' hbl;go_wp2_with fail
   go_region_with (go_at_call 111;refine (sX (f k) a1 ((f k).q.ws.length) c1 a2 ((f k).q.bs.length) c2 a3 ((f k).np) c3 a4 ((f k).hs.length) c4 a5 ((f k).nt) c5 a1' c1' a2' c2' a3' c3' a4' c4' a5' c5' _ (HK.out.2.2.1.below (by first|exact Br|exact Br.drew|exact Br.drew.drew)) (HK.out.2.2.2.1.below (by first|exact Br|exact Br.drew|exact Br.drew.drew)) (HK.out.2.2.2.2.1.below (by first|exact Br|exact Br.drew|exact Br.drew.drew)) (HK.out.2.2.2.2.2.1.below (by first|exact Br|exact Br.drew|exact Br.drew.drew)) (HK.out.2.2.2.2.2.2.1.below (by first|exact Br|exact Br.drew|exact Br.drew.drew)) (HK.out.2.2.2.2.2.2.2.1.below (by first|exact Br|exact Br.drew|exact Br.drew.drew)) (HK.out.2.2.2.2.2.2.2.2.1.below (by first|exact Br|exact Br.drew|exact Br.drew.drew)) (HK.out.2.2.2.2.2.2.2.2.2.1.below (by first|exact Br|exact Br.drew|exact Br.drew.drew)) (HK.out.2.2.2.2.2.2.2.2.2.2.1.below (by first|exact Br|exact Br.drew|exact Br.drew.drew)) (HK.out.2.2.2.2.2.2.2.2.2.2.2.below (by first|exact Br|exact Br.drew|exact Br.drew.drew)) HK.out.2.1).mono ?_;rintro e w1 ⟨rfl,b1'⟩;have b1:Below wr.heap.size wr w1:=af (by first|exact Br|exact Br.drew|exact Br.drew.drew) b1';clear b1')
   all_goals (
    have B1:=af HK.out.1 b1;clear HK b1 d09 e09 d19 e19 d29 e29 d39 e39 d49 e49 d59 e59 d69 e69 d79 e79 d89 e89 d99 e99 d109 e109 d119 e119 d129 e129;go_wp2;go_roundw
    case rel=>exact ⟨k+1,by omega,by go_num,B1⟩
    case measure=>simp [intOf];omega)
  have hi:¬ (k:Int)<(n':Int):=by omega
  go_wp2;go_ret;exact ⟨rfl,hbl⟩
theorem rb(X:VT)(a1:OA)(l1 c1:Nat)(a1':OA)(c1':Nat)(w:World)(r1:Rd w 0 (.list 13 X.m (fun i=>ac (dT (X.f i)))) (.slice a1 l1 c1))(r1':Rd w 0 (.list 13 X.m (fun i=>ac (dT (X.f i)))) (.slice a1' l1 c1'))(hz:ax 2 (ac (tT X))<= 1048576):
 Calls prog 30 #[.agg (tL X a1 l1 c1).toArray,.agg (tL X a1' l1 c1').toArray] w fun e w'=>e=.returned (.bool true)/\Below w.heap.size w w':=by
 obtain ⟨W,hW⟩:∃ W,W=(w.alloc (.cells (tL X a1 l1 c1).toArray 38)).alloc (.cells (tL X a1' l1 c1').toArray 38):=⟨_,rfl⟩
 have HZ:Hid ((Tr.list 13 X.m (fun i=>ac (dT (X.f i)))).sz<= 1048576):=by
  rw [cQ] at hz;show (Tr.list 13 X.m (fun i=>ac (dT (X.f i)))).sz<= 1048576;try simp only [cC,db,dc,dd,cQ,true_and]
  omega
 have HR:Hid (Rd w 0 (.list 13 X.m (fun i=>ac (dT (X.f i)))) (.slice a1 l1 c1)/\Rd w 0 (.list 13 X.m (fun i=>ac (dT (X.f i)))) (.slice a1' l1 c1')):=⟨r1,r1'⟩
 have G0:Hid (Below w.heap.size w W/\ae W w.heap.size 38 (tL X a1 l1 c1).toArray/\ae W (w.heap.size+1) 38 (tL X a1' l1 c1').toArray):=⟨by rw [hW];exact af (aa _ _) (aa _ _),by rw [hW];exact (ae.new w _ _).below (aa _ _),by rw [hW];have:=ae.new (w.alloc (.cells (tL X a1 l1 c1).toArray 38)) (tL X a1' l1 c1').toArray 38;simpa using this⟩
 clear hz r1 r1';go_enter func30,ntmps30
 go_upto_region 1 with fail
 rw [<- hW];clear hW;obtain ⟨⟨y0,y1⟩,yf⟩:=G0.out.2.1.tc2;obtain ⟨⟨z0,z1⟩,zf⟩:=G0.out.2.2.tc2;clear yf zf;go_wp2_with fail
 refine (ra X.m X.f a1 l1 c1 a1' c1' _ (HR.out.1.below G0.out.1) (HR.out.2.below G0.out.1) HZ.out).mono ?_;rintro e w1 ⟨rfl,hb1⟩;have G1:Hid (Below w.heap.size w w1/\ae w1 w.heap.size 38 (tL X a1 l1 c1).toArray/\ae w1 (w.heap.size+1) 38 (tL X a1' l1 c1').toArray):=⟨af G0.out.1 hb1,G0.out.2.1.below hb1,G0.out.2.2.below hb1⟩
 clear hb1 y0 y1 z0 z1;go_wp2;go_ret;exact ⟨rfl,G1.out.1⟩
end Go.Proofs.YtohikbpolofklaaGreat
