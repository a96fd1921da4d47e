/- Texts that the proof needs, joined: Tr6. -/
import Derived.Test.YtohikbpolofklaaGreatY10
import Derived.Test.YtohikbpolofklaaGreatY4
set_option linter.unusedVariables false
set_option linter.unusedSimpArgs false
set_option maxHeartbeats 4000000
set_option maxRecDepth 20000
namespace Go.Proofs.YtohikbpolofklaaGreat
open Go.RowKit Go.Joins Go.Proofs.Tryz
abbrev gA:Array Value:=#[Vi 0,Vi 0,Vi 0,Vi 0,Vi 0,Vi 0,Vi 0,Zs,Zs,Vi 0,Zs,Zs,Zs]
abbrev ja:Array Value:=#[Vi 0,Vi 0,Vi 0,Vi 0,Vi 0,Zs,Zs,Vi 0]
theorem qB(ws:List Bool)(a:OA)(l c:Nat)(w:World)(r:Rd w 0 (ai ws) (.slice a l c))(hz:ws.length<= 1048576):
 Calls prog 134 #[.slice a l c] w fun e w'=>∃ b d,e=.returned (.slice b l d)/\dk w' w.heap.size (ai ws) (.slice b l d)/\Below w.heap.size w w':=by
 obtain ⟨a9,c9,h9,-,hm,hs⟩:=r.bools;simp only [Value.slice.injEq] at h9;obtain ⟨rfl,rfl,rfl⟩:=h9;refine (it _ _ _ ws w rfl hs (by omega)).mono ?_;rintro e w' ⟨g,rfl,h1,h2⟩;obtain ⟨K,k1,k2,k3⟩:=bD.fit h1;exact ⟨_,_,rfl,⟨K,k1,k2,fun b hb=>(k3 b hb).1⟩,h2⟩
theorem rT(X:VP)(a1:OA)(l1 c1:Nat)(a2:OA)(l2 c2:Nat)(w:World)(r1:Rd w 0 (aw X.q.ws) (.slice a1 l1 c1))(r2:Rd w 0 (ai X.q.bs) (.slice a2 l2 c2))(hz:ax 8 (ac (pT X))<= 1048576):
 Calls prog 166 #[.agg (pL X a1 l1 c1 a2 l2 c2).toArray] w fun e w'=>∃ b1 d1 b2 d2,e=.returned (.agg (pL X b1 l1 d1 b2 l2 d2).toArray)/\az w' w.heap.size w'.heap.size (pT X) (pL X b1 l1 d1 b2 l2 d2)/\Below w.heap.size w w':=by
 obtain ⟨W,hW⟩:∃ W,W=((w.alloc (.cells (pL X a1 l1 c1 a2 l2 c2).toArray 185)).alloc (.cells ja 128)).alloc (.cells (#[Vi X.p,Vi X.t,Vi 0,Vi 0,Vi 0,Zs,Zs,Vi 0]:Array Value) 128):=⟨_,rfl⟩
 have bW:Below w.heap.size w W:=by rw [hW];exact af (af (aa w _) (aa _ _)) (aa _ _)
 have A0:ae W w.heap.size 185 (pL X a1 l1 c1 a2 l2 c2).toArray:=by rw [hW];exact ((ae.new w _ _).below (aa _ _)).below (aa _ _)
 have R0:ae W (w.heap.size+1) 128 ja:=by
  rw [hW];have:=(ae.new (w.alloc (.cells (pL X a1 l1 c1 a2 l2 c2).toArray 185)) ja 128).below (aa _ (.cells (#[Vi X.p,Vi X.t,Vi 0,Vi 0,Vi 0,Zs,Zs,Vi 0]:Array Value) 128));simpa using this
 have O0:ae W (w.heap.size+1+1) 128 (#[Vi X.p,Vi X.t,Vi 0,Vi 0,Vi 0,Zs,Zs,Vi 0]:Array Value):=by
  rw [hW];have:=ae.new ((w.alloc (.cells (pL X a1 l1 c1 a2 l2 c2).toArray 185)).alloc (.cells ja 128)) (#[Vi X.p,Vi X.t,Vi 0,Vi 0,Vi 0,Zs,Zs,Vi 0]:Array Value) 128;simpa using this
 have hs0:W.heap.size=(w.heap.size+1+1+1):=by rw [hW];simp
 have HZ:Hid (ax 6 (ac (qT X.q))<= 1048576):=by
  rw [dc] at hz;show ax 6 (ac (qT X.q))<= 1048576;try simp only [cC,db,dc,dd,cQ,true_and]
  omega
 have HR:Hid (Rd w 0 (aw X.q.ws) (.slice a1 l1 c1)/\Rd w 0 (ai X.q.bs) (.slice a2 l2 c2)):=⟨r1,r2⟩
 have G0:Hid (GF w W 185 (pL X a1 l1 c1 a2 l2 c2).toArray 128 ja (#[Vi X.p,Vi X.t,Vi 0,Vi 0,Vi 0,Zs,Zs,Vi 0]:Array Value) ((w.heap.size+1+1+1)<= W.heap.size/\az W (w.heap.size+1+1+1) W.heap.size ([]) ([]))):=⟨bW,A0,R0,O0,by omega,az.nil _ _ _⟩
 clear bW A0 R0 O0 hs0 hz r1 r2;go_enter func166,ntmps166
 go_upto_region 4 with fail
 rw [<- hW];clear hW;obtain ⟨⟨y0,y1,y2,y3,y4,y5,y6,y7⟩,yf⟩:=G0.out.2.1.tc8;clear yf;go_wp2_with fail
 refine (lc X.q a1 l1 c1 a2 l2 c2 _ (HR.out.1.below G0.out.1) (HR.out.2.below G0.out.1) HZ.out).mono ?_;rintro e w1 ⟨b1,d1,b2,d2,rfl,q,hb1⟩;clear y0 y1 y2 y3 y4 y5 y6 y7;have O1:=G0.out.2.2.2.1.below hb1;obtain ⟨⟨z0,z1,z2,z3,z4,z5,z6,z7⟩,zf⟩:=O1.tc8;have zg2:=zf 2;have zg3:=zf 3;have zg4:=zf 4;have zg5:=zf 5;have zg6:=zf 6;have zg7:=zf 7;obtain ⟨W1,hW1⟩:∃ W9,W9=aF w1 (w.heap.size+1+1) 2 [Vi X.q.kd,Vi X.q.pl,Vi X.q.n,.slice b1 l1 d1,.slice b2 l2 d2,Vi X.q.wa]:=⟨_,rfl⟩
 have G1:Hid (GF w W1 185 (pL X a1 l1 c1 a2 l2 c2).toArray 128 ja (#[Vi X.p,Vi X.t,Vi X.q.kd,Vi X.q.pl,Vi X.q.n,.slice b1 l1 d1,.slice b2 l2 d2,Vi X.q.wa]:Array Value) ((w.heap.size+1+1+1)<= W1.heap.size/\az W1 (w.heap.size+1+1+1) W1.heap.size ([]++(qT X.q)) ([]++(qL X.q b1 l1 d1 b2 l2 d2)))):=by
  have hg:w1.grownBy W1 (some (w.heap.size+1+1)):=by rw [hW1];exact bf _ _ _
  have hs9:=G0.out.2.2.2.2.1;have hs8:=hb1.size;have hs7:=hg.size;refine ⟨by rw [hW1];exact aD (by omega) _ _ _ (af G0.out.1 hb1),by rw [hW1];exact ae.stNe (by omega) _ _ (G0.out.2.1.below hb1),by rw [hW1];exact ae.stNe (by omega) _ _ (G0.out.2.2.1.below hb1),pn hW1 O1,by omega,G0.out.2.2.2.2.2.next hb1 q hg (by omega) hs9⟩
 have hX1:W1=((((((w1.setCell ⟨w.heap.size+1+1,2,none⟩ (Vi X.q.kd)).setCell ⟨w.heap.size+1+1,3,none⟩ (Vi X.q.pl)).setCell ⟨w.heap.size+1+1,4,none⟩ (Vi X.q.n)).setCell ⟨w.heap.size+1+1,5,none⟩ (.slice b1 l1 d1)).setCell ⟨w.heap.size+1+1,6,none⟩ (.slice b2 l2 d2)).setCell ⟨w.heap.size+1+1,7,none⟩ (Vi X.q.wa)):=by rw [hW1];simp only [aF,Nat.reduceAdd,Nat.zero_add]
 clear O1 hb1 hW1 q;go_upto_region 5 with fail
 rw [<- hX1];clear hX1 zf z0 z1 z2 z3 z4 z5 z6 z7 zg2 zg3 zg4 zg5 zg6 zg7;obtain ⟨W9,hW9⟩:∃ W9,W9=aF W1 (w.heap.size+1) 0 (pL X b1 l1 d1 b2 l2 d2):=⟨_,rfl⟩
 have H9:Hid (az W9 w.heap.size W9.heap.size (pT X) (pL X b1 l1 d1 b2 l2 d2)/\Below w.heap.size w W9/\ae W9 (w.heap.size+1) 128 (pL X b1 l1 d1 b2 l2 d2).toArray):=by
  have hg:W1.grownBy W9 (some (w.heap.size+1)):=by rw [hW9];exact bf _ _ _
  have hs9:=G1.out.2.2.2.2.1;have hs7:=hg.size;exact ⟨(az.leaf (Vi X.p) (az.leaf (Vi X.t) ((G1.out.2.2.2.2.2.kept hg (by omega) Nl).mono (lo':=w.heap.size) (by omega) hs7) (by omega)) (by omega)),by rw [hW9];exact aD (by omega) _ _ _ G1.out.1,by rw [hW9,show (pL X b1 l1 d1 b2 l2 d2).toArray=bO (#[Vi 0,Vi 0,Vi 0,Vi 0,Vi 0,Zs,Zs,Vi 0]:Array Value) 0 (pL X b1 l1 d1 b2 l2 d2) from (by simp [bO])];exact ae.stL _ _ G1.out.2.2.1⟩
 have hr:=G1.out.2.2.2.1.all;have ht:=G1.out.2.2.1.there 0 8 (by simp);clear G1;refine wp_region_lit ?_;refine wpList_load_mid rfl 128 (.tmp 3) rfl (w.heap.size+1+1) 0 rfl (pL X b1 l1 d1 b2 l2 d2) _ hr underlying128 rfl (by kernel_rfl) ?_;refine wpList_store_mid rfl 128 (.tmp 2) (.tmp 14) rfl (w.heap.size+1) 0 (pL X b1 l1 d1 b2 l2 d2).toArray rfl rfl ht (by kernel_rfl) (by simp [Value.oneCell']) ?_;rw [bm,<- hW9];clear hW9 hr ht;refine wpList_nil ?_;go_wp2;obtain ⟨⟨y0,y1,y2,y3,y4,y5,y6,y7⟩,yf⟩:=H9.out.2.2.tc8;refine bodyPost_ret (v:=.agg (pL X b1 l1 d1 b2 l2 d2).toArray) (by simp [results,results166,go_sem,y0,y1,y2,y3,y4,y5,y6,y7]) rfl ⟨b1,d1,b2,d2,rfl,H9.out.1,H9.out.2.1⟩
theorem qC(n:Nat)(f:Nat->VP)(a:OA)(n' cap:Nat)(w:World)(hs:Rd w 0 (.list 8 n (fun k=>ac (pT (f k)))) (.slice a n' cap))(hz:(Tr.list 8 n (fun k=>ac (pT (f k)))).sz<= 1048576):
 Calls prog 133 #[.slice a n' cap] w fun e w'=>∃ b d,e=.returned (.slice b n' d)/\dk w' w.heap.size (.list 8 n (fun k=>ac (pT (f k)))) (.slice b n' d)/\Below w.heap.size w w':=by
 obtain ⟨a9,c9,h9,-,hn⟩:=hs.shape;simp only [Value.slice.injEq] at h9;obtain ⟨-,rfl,-⟩:=h9;clear a9 c9;have hn1:n'<= 1048576:=by rw [Tr.sz_list] at hz;omega
 have HZ:Hid (∀ k,k<n'->ax 8 (ac (pT (f k)))<= 1048576):=by
  show ∀ k,k<n'->ax 8 (ac (pT (f k)))<= 1048576;intro k hk;rw [Tr.sz_list] at hz;have:=ci (fun k=>ax 8 (ac (pT (f k)))) hk;omega
 have hmk:=ct (P:=prog) 119 128 (.agg ja) 8 96 underlying119 (by kernel_rfl) .i64 .i64 n' (by omega) (by omega);have HS:Hid (Rd w 0 (.list 8 n' (fun k=>ac (pT (f k)))) (.slice a n' cap)/\n'<= maxLen):=⟨hs,hn⟩
 clear hs hz hn;go_enter func133,ntmps133
 go_wp2;clear hmk;go_loopw [4] (fun i wr=>∃ (k:Nat),k<= n'/\i=Vi k/\bU wr w.heap.size 128 8 n' (fun i=>pT (f i)) k/\Below w.heap.size w wr) (fun i _=>n'-(intOf i).toNat)
 case atStart=>exact ⟨0,Nat.zero_le _,rfl,bU.start (aM.made w (ja).toList n' _ (by simp)),Br.alloc Nl _⟩
 case round=>
  obtain ⟨k,hk,rfl,hrow,hb⟩:=hrel;by_cases hlt:k<n'
  ·have hi:(k:Int)<(n':Int):=by omega
   obtain ⟨b,off,vs,rfl,_,hb0,hlen,hr,hrd⟩:=(HS.out.1.below hb).at hlt;obtain ⟨a1,c1,a2,c2,rfl,r1,r2⟩:=VP.cells hrd hlen;clear hlen hrd;have d09:wr.cell? ⟨b,off+k*8,none⟩=_:=hr 0 _ rfl;have d19:=hr 1 _ rfl;have d29:=hr 2 _ rfl;have d39:=hr 3 _ rfl;have d49:=hr 4 _ rfl;have d59:=hr 5 _ rfl;have d69:=hr 6 _ rfl;have d79:=hr 7 _ rfl;have HK:Hid (bU wr w.heap.size 128 8 n' (fun i=>pT (f i)) k/\True/\Below w.heap.size w wr/\Rd wr 0 (aw (f k).q.ws) (.slice a1 ((f k).q.ws.length) c1)/\Rd wr 0 (ai (f k).q.bs) (.slice a2 ((f k).q.bs.length) c2)):=⟨hrow,trivial,hb,r1,r2⟩
   clear hrow hb hr hb0 r1 r2;go_wp2_with fail
   refine (rT (f k) a1 ((f k).q.ws.length) c1 a2 ((f k).q.bs.length) c2 _ HK.out.2.2.2.1 HK.out.2.2.2.2 (HZ.out k hlt)).mono ?_;rintro e w1 ⟨b1,d1,b2,d2,rfl,q1,hb1⟩;obtain ⟨F1,R1⟩:=(HK.out.1.cg (Cg.ofBelow (S:=fun _=>False) hb1) (fun b h=>h.elim)).row;obtain ⟨rx0,ry0⟩:∃ v,w1.cell? ⟨w.heap.size,k*8,none⟩=some v:=R1.ex hlt (j:=0) (by decide);obtain ⟨rx1,ry1⟩:=R1.ex hlt (j:=1) (by decide);obtain ⟨rx2,ry2⟩:=R1.ex hlt (j:=2) (by decide);obtain ⟨rx3,ry3⟩:=R1.ex hlt (j:=3) (by decide);obtain ⟨rx4,ry4⟩:=R1.ex hlt (j:=4) (by decide);obtain ⟨rx5,ry5⟩:=R1.ex hlt (j:=5) (by decide);obtain ⟨rx6,ry6⟩:=R1.ex hlt (j:=6) (by decide);obtain ⟨rx7,ry7⟩:=R1.ex hlt (j:=7) (by decide);obtain ⟨W2,hW2⟩:∃ W2,W2=aF w1 w.heap.size (k*8) (pL (f k) b1 ((f k).q.ws.length) d1 b2 ((f k).q.bs.length) d2):=⟨_,rfl⟩
   have H2:Hid (bU W2 w.heap.size 128 8 n' (fun i=>pT (f i)) (k+1)/\Below w.heap.size w W2):=⟨by rw [hW2];exact HK.out.1.step (S:=fun _=>False) hlt (Cg.ofBelow hb1) (fun b h=>h.elim) q1 rfl,by rw [hW2];exact aD Nl _ _ _ (af HK.out.2.2.1 hb1)⟩
   have hW2':W2=((((((((w1.setCell ⟨w.heap.size,k*8,none⟩ (Vi (f k).p)).setCell ⟨w.heap.size,k*8+1,none⟩ (Vi (f k).t)).setCell ⟨w.heap.size,k*8+2,none⟩ (Vi (f k).q.kd)).setCell ⟨w.heap.size,k*8+3,none⟩ (Vi (f k).q.pl)).setCell ⟨w.heap.size,k*8+4,none⟩ (Vi (f k).q.n)).setCell ⟨w.heap.size,k*8+5,none⟩ (.slice b1 ((f k).q.ws.length) d1)).setCell ⟨w.heap.size,k*8+6,none⟩ (.slice b2 ((f k).q.bs.length) d2)).setCell ⟨w.heap.size,k*8+7,none⟩ (Vi (f k).q.wa)):=by rw [hW2];simp only [aF,Nat.reduceAdd,Nat.zero_add,Nat.add_zero,Nat.add_assoc]
   have HE:Hid (∀ j,w1.frozen? ⟨w.heap.size,j,none⟩=false):=R1.fro;have qf0:=HE.out (k*8);have qf1:=HE.out (k*8+1);have qf2:=HE.out (k*8+2);have qf3:=HE.out (k*8+3);have qf4:=HE.out (k*8+4);have qf5:=HE.out (k*8+5);have qf6:=HE.out (k*8+6);have qf7:=HE.out (k*8+7);clear R1 hb1 HK d09 d19 d29 d39 d49 d59 d69 d79 hW2 HE q1;go_wp2;rw [<- hW2'];clear hW2';go_roundw
   case rel=>
    exact ⟨k+1,by omega,by go_num,H2.out.1,H2.out.2⟩
   case measure=>simp [intOf];omega
  have hi:¬ (k:Int)<(n':Int):=by omega
  have e9:k=n':=by omega
  subst e9;have HR:Hid (bU wr w.heap.size 128 8 k (fun i=>pT (f i)) k/\Below w.heap.size w wr):=⟨hrow,hb⟩
  clear hrow hb;go_wp2;go_ret;exact ⟨_,_,rfl,HR.out.1.done Nl HS.out.2 (fun _ _=>rfl),HR.out.2⟩
theorem rU(X:VD)(a1:OA)(l1 c1:Nat)(a2:OA)(l2 c2:Nat)(a3:OA)(l3 c3:Nat)(a4:OA)(l4 c4:Nat)(a5:OA)(l5 c5:Nat)(w:World)(r1:Rd w 0 (aw X.q.ws) (.slice a1 l1 c1))(r2:Rd w 0 (ai X.q.bs) (.slice a2 l2 c2))(r3:Rd w 0 (.list 8 X.np (fun i=>ac (pT (X.pt i)))) (.slice a3 l3 c3))(r4:Rd w 0 (ai X.hs) (.slice a4 l4 c4))(r5:Rd w 0 (.list 6 X.nt (fun i=>ac (aT (X.tl i)))) (.slice a5 l5 c5))(hz:ax 13 (ac (dT X))<= 1048576):
 Calls prog 87 #[.agg (dL X a1 l1 c1 a2 l2 c2 a3 l3 c3 a4 l4 c4 a5 l5 c5).toArray] w fun e w'=>∃ b1 d1 b2 d2 b3 d3 b4 d4 b5 d5,e=.returned (.agg (dL X b1 l1 d1 b2 l2 d2 b3 l3 d3 b4 l4 d4 b5 l5 d5).toArray)/\az w' w.heap.size w'.heap.size (dT X) (dL X b1 l1 d1 b2 l2 d2 b3 l3 d3 b4 l4 d4 b5 l5 d5)/\Below w.heap.size w w':=by
 obtain ⟨W,hW⟩:∃ W,W=((w.alloc (.cells (dL X a1 l1 c1 a2 l2 c2 a3 l3 c3 a4 l4 c4 a5 l5 c5).toArray 116)).alloc (.cells gA 122)).alloc (.cells (#[Vi X.id,Vi X.so,Vi X.ta,Vi X.un,Vi 0,Vi 0,Vi 0,Zs,Zs,Vi 0,Zs,Zs,Zs]:Array Value) 122):=⟨_,rfl⟩
 have bW:Below w.heap.size w W:=by rw [hW];exact af (af (aa w _) (aa _ _)) (aa _ _)
 have A0:ae W w.heap.size 116 (dL X a1 l1 c1 a2 l2 c2 a3 l3 c3 a4 l4 c4 a5 l5 c5).toArray:=by rw [hW];exact ((ae.new w _ _).below (aa _ _)).below (aa _ _)
 have R0:ae W (w.heap.size+1) 122 gA:=by
  rw [hW];have:=(ae.new (w.alloc (.cells (dL X a1 l1 c1 a2 l2 c2 a3 l3 c3 a4 l4 c4 a5 l5 c5).toArray 116)) gA 122).below (aa _ (.cells (#[Vi X.id,Vi X.so,Vi X.ta,Vi X.un,Vi 0,Vi 0,Vi 0,Zs,Zs,Vi 0,Zs,Zs,Zs]:Array Value) 122));simpa using this
 have O0:ae W (w.heap.size+1+1) 122 (#[Vi X.id,Vi X.so,Vi X.ta,Vi X.un,Vi 0,Vi 0,Vi 0,Zs,Zs,Vi 0,Zs,Zs,Zs]:Array Value):=by
  rw [hW];have:=ae.new ((w.alloc (.cells (dL X a1 l1 c1 a2 l2 c2 a3 l3 c3 a4 l4 c4 a5 l5 c5).toArray 116)).alloc (.cells gA 122)) (#[Vi X.id,Vi X.so,Vi X.ta,Vi X.un,Vi 0,Vi 0,Vi 0,Zs,Zs,Vi 0,Zs,Zs,Zs]:Array Value) 122;simpa using this
 have hs0:W.heap.size=(w.heap.size+1+1+1):=by rw [hW];simp
 have HZ:Hid (ax 6 (ac (qT X.q))<= 1048576/\(Tr.list 8 X.np (fun i=>ac (pT (X.pt i)))).sz<= 1048576/\X.hs.length<= 1048576/\(Tr.list 6 X.nt (fun i=>ac (aT (X.tl i)))).sz<= 1048576):=by
  rw [dd] at hz;show ax 6 (ac (qT X.q))<= 1048576/\(Tr.list 8 X.np (fun i=>ac (pT (X.pt i)))).sz<= 1048576/\X.hs.length<= 1048576/\(Tr.list 6 X.nt (fun i=>ac (aT (X.tl i)))).sz<= 1048576;try simp only [cC,db,dc,dd,cQ,true_and]
  omega
 have HR:Hid (Rd w 0 (aw X.q.ws) (.slice a1 l1 c1)/\Rd w 0 (ai X.q.bs) (.slice a2 l2 c2)/\Rd w 0 (.list 8 X.np (fun i=>ac (pT (X.pt i)))) (.slice a3 l3 c3)/\Rd w 0 (ai X.hs) (.slice a4 l4 c4)/\Rd w 0 (.list 6 X.nt (fun i=>ac (aT (X.tl i)))) (.slice a5 l5 c5)):=⟨r1,r2,r3,r4,r5⟩
 have G0:Hid (GF w W 116 (dL X a1 l1 c1 a2 l2 c2 a3 l3 c3 a4 l4 c4 a5 l5 c5).toArray 122 gA (#[Vi X.id,Vi X.so,Vi X.ta,Vi X.un,Vi 0,Vi 0,Vi 0,Zs,Zs,Vi 0,Zs,Zs,Zs]:Array Value) ((w.heap.size+1+1+1)<= W.heap.size/\az W (w.heap.size+1+1+1) W.heap.size ([]) ([]))):=⟨bW,A0,R0,O0,by omega,az.nil _ _ _⟩
 clear bW A0 R0 O0 hs0 hz r1 r2 r3 r4 r5;go_enter func87,ntmps87
 go_upto_region 6 with fail
 rw [<- hW];clear hW;obtain ⟨⟨y0,y1,y2,y3,y4,y5,y6,y7,y8,y9,y10,y11,y12⟩,yf⟩:=G0.out.2.1.tc13;clear yf;go_wp2_with fail
 refine (lc X.q a1 l1 c1 a2 l2 c2 _ (HR.out.1.below G0.out.1) (HR.out.2.1.below G0.out.1) HZ.out.1).mono ?_;rintro e w1 ⟨b1,d1,b2,d2,rfl,q,hb1⟩;clear y0 y1 y2 y3 y4 y5 y6 y7 y8 y9 y10 y11 y12;have O1:=G0.out.2.2.2.1.below hb1;obtain ⟨⟨z0,z1,z2,z3,z4,z5,z6,z7,z8,z9,bM,cx,z12⟩,zf⟩:=O1.tc13;have zg4:=zf 4;have zg5:=zf 5;have zg6:=zf 6;have zg7:=zf 7;have zg8:=zf 8;have zg9:=zf 9;obtain ⟨W1,hW1⟩:∃ W9,W9=aF w1 (w.heap.size+1+1) 4 [Vi X.q.kd,Vi X.q.pl,Vi X.q.n,.slice b1 l1 d1,.slice b2 l2 d2,Vi X.q.wa]:=⟨_,rfl⟩
 have G1:Hid (GF w W1 116 (dL X a1 l1 c1 a2 l2 c2 a3 l3 c3 a4 l4 c4 a5 l5 c5).toArray 122 gA (#[Vi X.id,Vi X.so,Vi X.ta,Vi X.un,Vi X.q.kd,Vi X.q.pl,Vi X.q.n,.slice b1 l1 d1,.slice b2 l2 d2,Vi X.q.wa,Zs,Zs,Zs]:Array Value) ((w.heap.size+1+1+1)<= W1.heap.size/\az W1 (w.heap.size+1+1+1) W1.heap.size ([]++(qT X.q)) ([]++(qL X.q b1 l1 d1 b2 l2 d2)))):=by
  have hg:w1.grownBy W1 (some (w.heap.size+1+1)):=by rw [hW1];exact bf _ _ _
  have hs9:=G0.out.2.2.2.2.1;have hs8:=hb1.size;have hs7:=hg.size;refine ⟨by rw [hW1];exact aD (by omega) _ _ _ (af G0.out.1 hb1),by rw [hW1];exact ae.stNe (by omega) _ _ (G0.out.2.1.below hb1),by rw [hW1];exact ae.stNe (by omega) _ _ (G0.out.2.2.1.below hb1),pn hW1 O1,by omega,G0.out.2.2.2.2.2.next hb1 q hg (by omega) hs9⟩
 have hX1:W1=((((((w1.setCell ⟨w.heap.size+1+1,4,none⟩ (Vi X.q.kd)).setCell ⟨w.heap.size+1+1,5,none⟩ (Vi X.q.pl)).setCell ⟨w.heap.size+1+1,6,none⟩ (Vi X.q.n)).setCell ⟨w.heap.size+1+1,7,none⟩ (.slice b1 l1 d1)).setCell ⟨w.heap.size+1+1,8,none⟩ (.slice b2 l2 d2)).setCell ⟨w.heap.size+1+1,9,none⟩ (Vi X.q.wa)):=by rw [hW1];simp only [aF,Nat.reduceAdd,Nat.zero_add]
 clear O1 hb1 hW1 q;go_upto_region 7 with fail
 rw [<- hX1];clear hX1 zf z0 z1 z2 z3 z4 z5 z6 z7 z8 z9 bM cx z12 zg4 zg5 zg6 zg7 zg8 zg9;obtain ⟨⟨y0,y1,y2,y3,y4,y5,y6,y7,y8,y9,y10,y11,y12⟩,yf⟩:=G1.out.2.1.tc13;clear yf;go_wp2_with fail
 refine (qC X.np X.pt a3 l3 c3 _ (HR.out.2.2.1.below G1.out.1) HZ.out.2.1).mono ?_;rintro e w2 ⟨b3,d3,rfl,q,hb2⟩;clear y0 y1 y2 y3 y4 y5 y6 y7 y8 y9 y10 y11 y12;have q:=az.one q;have O2:=G1.out.2.2.2.1.below hb2;obtain ⟨⟨z0,z1,z2,z3,z4,z5,z6,z7,z8,z9,bM,cx,z12⟩,zf⟩:=O2.tc13;have zg10:=zf 10;obtain ⟨W2,hW2⟩:∃ W9,W9=aF w2 (w.heap.size+1+1) 10 [.slice b3 l3 d3]:=⟨_,rfl⟩
 have G2:Hid (GF w W2 116 (dL X a1 l1 c1 a2 l2 c2 a3 l3 c3 a4 l4 c4 a5 l5 c5).toArray 122 gA (#[Vi X.id,Vi X.so,Vi X.ta,Vi X.un,Vi X.q.kd,Vi X.q.pl,Vi X.q.n,.slice b1 l1 d1,.slice b2 l2 d2,Vi X.q.wa,.slice b3 l3 d3,Zs,Zs]:Array Value) ((w.heap.size+1+1+1)<= W2.heap.size/\az W2 (w.heap.size+1+1+1) W2.heap.size ([]++(qT X.q)++([.list 8 X.np (fun i=>ac (pT (X.pt i)))])) ([]++(qL X.q b1 l1 d1 b2 l2 d2)++([.slice b3 l3 d3])))):=by
  have hg:w2.grownBy W2 (some (w.heap.size+1+1)):=by rw [hW2];exact bf _ _ _
  have hs9:=G1.out.2.2.2.2.1;have hs8:=hb2.size;have hs7:=hg.size;refine ⟨by rw [hW2];exact aD (by omega) _ _ _ (af G1.out.1 hb2),by rw [hW2];exact ae.stNe (by omega) _ _ (G1.out.2.1.below hb2),by rw [hW2];exact ae.stNe (by omega) _ _ (G1.out.2.2.1.below hb2),pn hW2 O2,by omega,G1.out.2.2.2.2.2.next hb2 q hg (by omega) hs9⟩
 have hX2:W2=(w2.setCell ⟨w.heap.size+1+1,10,none⟩ (.slice b3 l3 d3)):=by rw [hW2];simp only [aF,Nat.reduceAdd,Nat.zero_add]
 clear O2 hb2 hW2 q;go_upto_region 8 with fail
 rw [<- hX2];clear hX2 zf z0 z1 z2 z3 z4 z5 z6 z7 z8 z9 bM cx z12 zg10;obtain ⟨⟨y0,y1,y2,y3,y4,y5,y6,y7,y8,y9,y10,y11,y12⟩,yf⟩:=G2.out.2.1.tc13;clear yf;go_wp2_with fail
 refine (qB X.hs a4 l4 c4 _ (HR.out.2.2.2.1.below G2.out.1) HZ.out.2.2.1).mono ?_;rintro e w3 ⟨b4,d4,rfl,q,hb3⟩;clear y0 y1 y2 y3 y4 y5 y6 y7 y8 y9 y10 y11 y12;have q:=az.one q;have O3:=G2.out.2.2.2.1.below hb3;obtain ⟨⟨z0,z1,z2,z3,z4,z5,z6,z7,z8,z9,bM,cx,z12⟩,zf⟩:=O3.tc13;have zg11:=zf 11;obtain ⟨W3,hW3⟩:∃ W9,W9=aF w3 (w.heap.size+1+1) 11 [.slice b4 l4 d4]:=⟨_,rfl⟩
 have G3:Hid (GF w W3 116 (dL X a1 l1 c1 a2 l2 c2 a3 l3 c3 a4 l4 c4 a5 l5 c5).toArray 122 gA (#[Vi X.id,Vi X.so,Vi X.ta,Vi X.un,Vi X.q.kd,Vi X.q.pl,Vi X.q.n,.slice b1 l1 d1,.slice b2 l2 d2,Vi X.q.wa,.slice b3 l3 d3,.slice b4 l4 d4,Zs]:Array Value) ((w.heap.size+1+1+1)<= W3.heap.size/\az W3 (w.heap.size+1+1+1) W3.heap.size ([]++(qT X.q)++([.list 8 X.np (fun i=>ac (pT (X.pt i)))])++([ai X.hs])) ([]++(qL X.q b1 l1 d1 b2 l2 d2)++([.slice b3 l3 d3])++([.slice b4 l4 d4])))):=by
  have hg:w3.grownBy W3 (some (w.heap.size+1+1)):=by rw [hW3];exact bf _ _ _
  have hs9:=G2.out.2.2.2.2.1;have hs8:=hb3.size;have hs7:=hg.size;refine ⟨by rw [hW3];exact aD (by omega) _ _ _ (af G2.out.1 hb3),by rw [hW3];exact ae.stNe (by omega) _ _ (G2.out.2.1.below hb3),by rw [hW3];exact ae.stNe (by omega) _ _ (G2.out.2.2.1.below hb3),pn hW3 O3,by omega,G2.out.2.2.2.2.2.next hb3 q hg (by omega) hs9⟩
 have hX3:W3=(w3.setCell ⟨w.heap.size+1+1,11,none⟩ (.slice b4 l4 d4)):=by rw [hW3];simp only [aF,Nat.reduceAdd,Nat.zero_add]
 clear O3 hb3 hW3 q;go_upto_region 9 with fail
 rw [<- hX3];clear hX3 zf z0 z1 z2 z3 z4 z5 z6 z7 z8 z9 bM cx z12 zg11;obtain ⟨⟨y0,y1,y2,y3,y4,y5,y6,y7,y8,y9,y10,y11,y12⟩,yf⟩:=G3.out.2.1.tc13;clear yf;go_wp2_with fail
 refine (qA X.nt X.tl a5 l5 c5 _ (HR.out.2.2.2.2.below G3.out.1) HZ.out.2.2.2).mono ?_;rintro e w4 ⟨b5,d5,rfl,q,hb4⟩;clear y0 y1 y2 y3 y4 y5 y6 y7 y8 y9 y10 y11 y12;have q:=az.one q;have O4:=G3.out.2.2.2.1.below hb4;obtain ⟨⟨z0,z1,z2,z3,z4,z5,z6,z7,z8,z9,bM,cx,z12⟩,zf⟩:=O4.tc13;have zg12:=zf 12;obtain ⟨W4,hW4⟩:∃ W9,W9=aF w4 (w.heap.size+1+1) 12 [.slice b5 l5 d5]:=⟨_,rfl⟩
 have G4:Hid (GF w W4 116 (dL X a1 l1 c1 a2 l2 c2 a3 l3 c3 a4 l4 c4 a5 l5 c5).toArray 122 gA (#[Vi X.id,Vi X.so,Vi X.ta,Vi X.un,Vi X.q.kd,Vi X.q.pl,Vi X.q.n,.slice b1 l1 d1,.slice b2 l2 d2,Vi X.q.wa,.slice b3 l3 d3,.slice b4 l4 d4,.slice b5 l5 d5]:Array Value) ((w.heap.size+1+1+1)<= W4.heap.size/\az W4 (w.heap.size+1+1+1) W4.heap.size ([]++(qT X.q)++([.list 8 X.np (fun i=>ac (pT (X.pt i)))])++([ai X.hs])++([.list 6 X.nt (fun i=>ac (aT (X.tl i)))])) ([]++(qL X.q b1 l1 d1 b2 l2 d2)++([.slice b3 l3 d3])++([.slice b4 l4 d4])++([.slice b5 l5 d5])))):=by
  have hg:w4.grownBy W4 (some (w.heap.size+1+1)):=by rw [hW4];exact bf _ _ _
  have hs9:=G3.out.2.2.2.2.1;have hs8:=hb4.size;have hs7:=hg.size;refine ⟨by rw [hW4];exact aD (by omega) _ _ _ (af G3.out.1 hb4),by rw [hW4];exact ae.stNe (by omega) _ _ (G3.out.2.1.below hb4),by rw [hW4];exact ae.stNe (by omega) _ _ (G3.out.2.2.1.below hb4),pn hW4 O4,by omega,G3.out.2.2.2.2.2.next hb4 q hg (by omega) hs9⟩
 have hX4:W4=(w4.setCell ⟨w.heap.size+1+1,12,none⟩ (.slice b5 l5 d5)):=by rw [hW4];simp only [aF,Nat.reduceAdd,Nat.zero_add]
 clear O4 hb4 hW4 q;go_upto_region 10 with fail
 rw [<- hX4];clear hX4 zf z0 z1 z2 z3 z4 z5 z6 z7 z8 z9 bM cx z12 zg12;obtain ⟨W9,hW9⟩:∃ W9,W9=aF W4 (w.heap.size+1) 0 (dL X b1 l1 d1 b2 l2 d2 b3 l3 d3 b4 l4 d4 b5 l5 d5):=⟨_,rfl⟩
 have H9:Hid (az W9 w.heap.size W9.heap.size (dT X) (dL X b1 l1 d1 b2 l2 d2 b3 l3 d3 b4 l4 d4 b5 l5 d5)/\Below w.heap.size w W9/\ae W9 (w.heap.size+1) 122 (dL X b1 l1 d1 b2 l2 d2 b3 l3 d3 b4 l4 d4 b5 l5 d5).toArray):=by
  have hg:W4.grownBy W9 (some (w.heap.size+1)):=by rw [hW9];exact bf _ _ _
  have hs9:=G4.out.2.2.2.2.1;have hs7:=hg.size;exact ⟨(az.leaf (Vi X.id) (az.leaf (Vi X.so) (az.leaf (Vi X.ta) (az.leaf (Vi X.un) ((G4.out.2.2.2.2.2.kept hg (by omega) Nl).mono (lo':=w.heap.size) (by omega) hs7) (by omega)) (by omega)) (by omega)) (by omega)),by rw [hW9];exact aD (by omega) _ _ _ G4.out.1,by rw [hW9,show (dL X b1 l1 d1 b2 l2 d2 b3 l3 d3 b4 l4 d4 b5 l5 d5).toArray=bO (#[Vi 0,Vi 0,Vi 0,Vi 0,Vi 0,Vi 0,Vi 0,Zs,Zs,Vi 0,Zs,Zs,Zs]:Array Value) 0 (dL X b1 l1 d1 b2 l2 d2 b3 l3 d3 b4 l4 d4 b5 l5 d5) from (by simp [bO])];exact ae.stL _ _ G4.out.2.2.1⟩
 have hr:=G4.out.2.2.2.1.all;have ht:=G4.out.2.2.1.there 0 13 (by simp);clear G4;refine wp_region_lit ?_;refine wpList_load_mid rfl 122 (.tmp 3) rfl (w.heap.size+1+1) 0 rfl (dL X b1 l1 d1 b2 l2 d2 b3 l3 d3 b4 l4 d4 b5 l5 d5) _ hr underlying122 rfl (by kernel_rfl) ?_;refine wpList_store_mid rfl 122 (.tmp 2) (.tmp 32) rfl (w.heap.size+1) 0 (dL X b1 l1 d1 b2 l2 d2 b3 l3 d3 b4 l4 d4 b5 l5 d5).toArray rfl rfl ht (by kernel_rfl) (by simp [Value.oneCell']) ?_;rw [bm,<- hW9];clear hW9 hr ht;refine wpList_nil ?_;go_wp2;obtain ⟨⟨y0,y1,y2,y3,y4,y5,y6,y7,y8,y9,y10,y11,y12⟩,yf⟩:=H9.out.2.2.tc13;refine bodyPost_ret (v:=.agg (dL X b1 l1 d1 b2 l2 d2 b3 l3 d3 b4 l4 d4 b5 l5 d5).toArray) (by simp [results,results87,go_sem,y0,y1,y2,y3,y4,y5,y6,y7,y8,y9,y10,y11,y12]) rfl ⟨b1,d1,b2,d2,b3,d3,b4,d4,b5,d5,rfl,H9.out.1,H9.out.2.1⟩
theorem qD(n:Nat)(f:Nat->VD)(a:OA)(n' cap:Nat)(w:World)(hs:Rd w 0 (.list 13 n (fun k=>ac (dT (f k)))) (.slice a n' cap))(hz:(Tr.list 13 n (fun k=>ac (dT (f k)))).sz<= 1048576):
 Calls prog 52 #[.slice a n' cap] w fun e w'=>∃ b d,e=.returned (.slice b n' d)/\dk w' w.heap.size (.list 13 n (fun k=>ac (dT (f k)))) (.slice b n' d)/\Below w.heap.size w w':=by
 obtain ⟨a9,c9,h9,-,hn⟩:=hs.shape;simp only [Value.slice.injEq] at h9;obtain ⟨-,rfl,-⟩:=h9;clear a9 c9;have hn1:n'<= 1048576:=by rw [Tr.sz_list] at hz;omega
 have HZ:Hid (∀ k,k<n'->ax 13 (ac (dT (f k)))<= 1048576):=by
  show ∀ k,k<n'->ax 13 (ac (dT (f k)))<= 1048576;intro k hk;rw [Tr.sz_list] at hz;have:=ci (fun k=>ax 13 (ac (dT (f k)))) hk;omega
 have hmk:=ct (P:=prog) 36 122 (.agg gA) 13 184 underlying36 (by kernel_rfl) .i64 .i64 n' (by omega) (by omega);have HS:Hid (Rd w 0 (.list 13 n' (fun k=>ac (dT (f k)))) (.slice a n' cap)/\n'<= maxLen):=⟨hs,hn⟩
 clear hs hz hn;go_enter func52,ntmps52
 go_wp2;clear hmk;go_loopw [4] (fun i wr=>∃ (k:Nat),k<= n'/\i=Vi k/\bU wr w.heap.size 122 13 n' (fun i=>dT (f i)) k/\Below w.heap.size w wr) (fun i _=>n'-(intOf i).toNat)
 case atStart=>exact ⟨0,Nat.zero_le _,rfl,bU.start (aM.made w (gA).toList n' _ (by simp)),Br.alloc Nl _⟩
 case round=>
  obtain ⟨k,hk,rfl,hrow,hb⟩:=hrel;by_cases hlt:k<n'
  ·have hi:(k:Int)<(n':Int):=by omega
   obtain ⟨b,off,vs,rfl,_,hb0,hlen,hr,hrd⟩:=(HS.out.1.below hb).at hlt;obtain ⟨a1,c1,a2,c2,a3,c3,a4,c4,a5,c5,rfl,r1,r2,r3,r4,r5⟩:=VD.cells hrd hlen;clear hlen hrd;have d09:wr.cell? ⟨b,off+k*13,none⟩=_:=hr 0 _ rfl;have d19:=hr 1 _ rfl;have d29:=hr 2 _ rfl;have d39:=hr 3 _ rfl;have d49:=hr 4 _ rfl;have d59:=hr 5 _ rfl;have d69:=hr 6 _ rfl;have d79:=hr 7 _ rfl;have d89:=hr 8 _ rfl;have d99:=hr 9 _ rfl;have d109:=hr 10 _ rfl;have d119:=hr 11 _ rfl;have d129:=hr 12 _ rfl;have HK:Hid (bU wr w.heap.size 122 13 n' (fun i=>dT (f i)) k/\True/\Below w.heap.size w wr/\Rd wr 0 (aw (f k).q.ws) (.slice a1 ((f k).q.ws.length) c1)/\Rd wr 0 (ai (f k).q.bs) (.slice a2 ((f k).q.bs.length) c2)/\Rd wr 0 (.list 8 (f k).np (fun i=>ac (pT ((f k).pt i)))) (.slice a3 ((f k).np) c3)/\Rd wr 0 (ai (f k).hs) (.slice a4 ((f k).hs.length) c4)/\Rd wr 0 (.list 6 (f k).nt (fun i=>ac (aT ((f k).tl i)))) (.slice a5 ((f k).nt) c5)):=⟨hrow,trivial,hb,r1,r2,r3,r4,r5⟩
   clear hrow hb hr hb0 r1 r2 r3 r4 r5;go_wp2_with fail
   refine (rU (f k) a1 ((f k).q.ws.length) c1 a2 ((f k).q.bs.length) c2 a3 ((f k).np) c3 a4 ((f k).hs.length) c4 a5 ((f k).nt) c5 _ HK.out.2.2.2.1 HK.out.2.2.2.2.1 HK.out.2.2.2.2.2.1 HK.out.2.2.2.2.2.2.1 HK.out.2.2.2.2.2.2.2 (HZ.out k hlt)).mono ?_;rintro e w1 ⟨b1,d1,b2,d2,b3,d3,b4,d4,b5,d5,rfl,q1,hb1⟩;obtain ⟨F1,R1⟩:=(HK.out.1.cg (Cg.ofBelow (S:=fun _=>False) hb1) (fun b h=>h.elim)).row;obtain ⟨rx0,ry0⟩:∃ v,w1.cell? ⟨w.heap.size,k*13,none⟩=some v:=R1.ex hlt (j:=0) (by decide);obtain ⟨rx1,ry1⟩:=R1.ex hlt (j:=1) (by decide);obtain ⟨rx2,ry2⟩:=R1.ex hlt (j:=2) (by decide);obtain ⟨rx3,ry3⟩:=R1.ex hlt (j:=3) (by decide);obtain ⟨rx4,ry4⟩:=R1.ex hlt (j:=4) (by decide);obtain ⟨rx5,ry5⟩:=R1.ex hlt (j:=5) (by decide);obtain ⟨rx6,ry6⟩:=R1.ex hlt (j:=6) (by decide);obtain ⟨rx7,ry7⟩:=R1.ex hlt (j:=7) (by decide);obtain ⟨rx8,ry8⟩:=R1.ex hlt (j:=8) (by decide);obtain ⟨rx9,ry9⟩:=R1.ex hlt (j:=9) (by decide);obtain ⟨rx10,ry10⟩:=R1.ex hlt (j:=10) (by decide);obtain ⟨rx11,ry11⟩:=R1.ex hlt (j:=11) (by decide);obtain ⟨rx12,ry12⟩:=R1.ex hlt (j:=12) (by decide);obtain ⟨W2,hW2⟩:∃ W2,W2=aF w1 w.heap.size (k*13) (dL (f k) b1 ((f k).q.ws.length) d1 b2 ((f k).q.bs.length) d2 b3 ((f k).np) d3 b4 ((f k).hs.length) d4 b5 ((f k).nt) d5):=⟨_,rfl⟩
   have H2:Hid (bU W2 w.heap.size 122 13 n' (fun i=>dT (f i)) (k+1)/\Below w.heap.size w W2):=⟨by rw [hW2];exact HK.out.1.step (S:=fun _=>False) hlt (Cg.ofBelow hb1) (fun b h=>h.elim) q1 rfl,by rw [hW2];exact aD Nl _ _ _ (af HK.out.2.2.1 hb1)⟩
   have hW2':W2=(((((((((((((w1.setCell ⟨w.heap.size,k*13,none⟩ (Vi (f k).id)).setCell ⟨w.heap.size,k*13+1,none⟩ (Vi (f k).so)).setCell ⟨w.heap.size,k*13+2,none⟩ (Vi (f k).ta)).setCell ⟨w.heap.size,k*13+3,none⟩ (Vi (f k).un)).setCell ⟨w.heap.size,k*13+4,none⟩ (Vi (f k).q.kd)).setCell ⟨w.heap.size,k*13+5,none⟩ (Vi (f k).q.pl)).setCell ⟨w.heap.size,k*13+6,none⟩ (Vi (f k).q.n)).setCell ⟨w.heap.size,k*13+7,none⟩ (.slice b1 ((f k).q.ws.length) d1)).setCell ⟨w.heap.size,k*13+8,none⟩ (.slice b2 ((f k).q.bs.length) d2)).setCell ⟨w.heap.size,k*13+9,none⟩ (Vi (f k).q.wa)).setCell ⟨w.heap.size,k*13+10,none⟩ (.slice b3 ((f k).np) d3)).setCell ⟨w.heap.size,k*13+11,none⟩ (.slice b4 ((f k).hs.length) d4)).setCell ⟨w.heap.size,k*13+12,none⟩ (.slice b5 ((f k).nt) d5)):=by rw [hW2];simp only [aF,Nat.reduceAdd,Nat.zero_add,Nat.add_zero,Nat.add_assoc]
   have HE:Hid (∀ j,w1.frozen? ⟨w.heap.size,j,none⟩=false):=R1.fro;have qf0:=HE.out (k*13);have qf1:=HE.out (k*13+1);have qf2:=HE.out (k*13+2);have qf3:=HE.out (k*13+3);have qf4:=HE.out (k*13+4);have qf5:=HE.out (k*13+5);have qf6:=HE.out (k*13+6);have qf7:=HE.out (k*13+7);have qf8:=HE.out (k*13+8);have qf9:=HE.out (k*13+9);have qf10:=HE.out (k*13+10);have qf11:=HE.out (k*13+11);have qf12:=HE.out (k*13+12);clear R1 hb1 HK d09 d19 d29 d39 d49 d59 d69 d79 d89 d99 d109 d119 d129 hW2 HE q1;go_wp2;rw [<- hW2'];clear hW2';go_roundw
   case rel=>
    exact ⟨k+1,by omega,by go_num,H2.out.1,H2.out.2⟩
   case measure=>simp [intOf];omega
  have hi:¬ (k:Int)<(n':Int):=by omega
  have e9:k=n':=by omega
  subst e9;have HR:Hid (bU wr w.heap.size 122 13 k (fun i=>dT (f i)) k/\Below w.heap.size w wr):=⟨hrow,hb⟩
  clear hrow hb;go_wp2;go_ret;exact ⟨_,_,rfl,HR.out.1.done Nl HS.out.2 (fun _ _=>rfl),HR.out.2⟩
theorem qE(X:VT)(a1:OA)(l1 c1:Nat)(w:World)(r1:Rd w 0 (.list 13 X.m (fun i=>ac (dT (X.f i)))) (.slice a1 l1 c1))(hz:ax 2 (ac (tT X))<= 1048576):
 Calls prog 22 #[.agg (tL X a1 l1 c1).toArray] w fun e w'=>∃ b1 d1,e=.returned (.agg (tL X b1 l1 d1).toArray)/\az w' w.heap.size w'.heap.size (tT X) (tL X b1 l1 d1)/\Below w.heap.size w w':=by
 obtain ⟨W,hW⟩:∃ W,W=((w.alloc (.cells (tL X a1 l1 c1).toArray 27)).alloc (.cells #[Vi 0,Zs] 38)).alloc (.cells (#[Vi X.nx,Zs]:Array Value) 38):=⟨_,rfl⟩
 have bW:Below w.heap.size w W:=by rw [hW];exact af (af (aa w _) (aa _ _)) (aa _ _)
 have A0:ae W w.heap.size 27 (tL X a1 l1 c1).toArray:=by rw [hW];exact ((ae.new w _ _).below (aa _ _)).below (aa _ _)
 have R0:ae W (w.heap.size+1) 38 #[Vi 0,Zs]:=by
  rw [hW];have:=(ae.new (w.alloc (.cells (tL X a1 l1 c1).toArray 27)) #[Vi 0,Zs] 38).below (aa _ (.cells (#[Vi X.nx,Zs]:Array Value) 38));simpa using this
 have O0:ae W (w.heap.size+1+1) 38 (#[Vi X.nx,Zs]:Array Value):=by
  rw [hW];have:=ae.new ((w.alloc (.cells (tL X a1 l1 c1).toArray 27)).alloc (.cells #[Vi 0,Zs] 38)) (#[Vi X.nx,Zs]:Array Value) 38;simpa using this
 have hs0:W.heap.size=(w.heap.size+1+1+1):=by rw [hW];simp
 have HZ:Hid ((Tr.list 13 X.m (fun i=>ac (dT (X.f i)))).sz<= 1048576):=by
  rw [cQ] at hz;show (Tr.list 13 X.m (fun i=>ac (dT (X.f i)))).sz<= 1048576;try simp only [cC,db,dc,dd,cQ,true_and]
  omega
 have HR:Hid (Rd w 0 (.list 13 X.m (fun i=>ac (dT (X.f i)))) (.slice a1 l1 c1)):=r1;have G0:Hid (GF w W 27 (tL X a1 l1 c1).toArray 38 #[Vi 0,Zs] (#[Vi X.nx,Zs]:Array Value) ((w.heap.size+1+1+1)<= W.heap.size/\az W (w.heap.size+1+1+1) W.heap.size ([]) ([]))):=⟨bW,A0,R0,O0,by omega,az.nil _ _ _⟩
 clear bW A0 R0 O0 hs0 hz r1;go_enter func22,ntmps22
 go_upto_region 3 with fail
 rw [<- hW];clear hW;obtain ⟨⟨y0,y1⟩,yf⟩:=G0.out.2.1.tc2;clear yf;go_wp2_with fail
 refine (qD X.m X.f a1 l1 c1 _ (HR.out.below G0.out.1) HZ.out).mono ?_;rintro e w1 ⟨b1,d1,rfl,q,hb1⟩;clear y0 y1;have q:=az.one q;have O1:=G0.out.2.2.2.1.below hb1;obtain ⟨⟨z0,z1⟩,zf⟩:=O1.tc2;have zg1:=zf 1;obtain ⟨W1,hW1⟩:∃ W9,W9=aF w1 (w.heap.size+1+1) 1 [.slice b1 l1 d1]:=⟨_,rfl⟩
 have G1:Hid (GF w W1 27 (tL X a1 l1 c1).toArray 38 #[Vi 0,Zs] (#[Vi X.nx,.slice b1 l1 d1]:Array Value) ((w.heap.size+1+1+1)<= W1.heap.size/\az W1 (w.heap.size+1+1+1) W1.heap.size ([]++([.list 13 X.m (fun i=>ac (dT (X.f i)))])) ([]++([.slice b1 l1 d1])))):=by
  have hg:w1.grownBy W1 (some (w.heap.size+1+1)):=by rw [hW1];exact bf _ _ _
  have hs9:=G0.out.2.2.2.2.1;have hs8:=hb1.size;have hs7:=hg.size;refine ⟨by rw [hW1];exact aD (by omega) _ _ _ (af G0.out.1 hb1),by rw [hW1];exact ae.stNe (by omega) _ _ (G0.out.2.1.below hb1),by rw [hW1];exact ae.stNe (by omega) _ _ (G0.out.2.2.1.below hb1),pn hW1 O1,by omega,G0.out.2.2.2.2.2.next hb1 q hg (by omega) hs9⟩
 have hX1:W1=(w1.setCell ⟨w.heap.size+1+1,1,none⟩ (.slice b1 l1 d1)):=by rw [hW1];simp only [aF,Nat.reduceAdd,Nat.zero_add]
 clear O1 hb1 hW1 q;go_upto_region 4 with fail
 rw [<- hX1];clear hX1 zf z0 z1 zg1;obtain ⟨W9,hW9⟩:∃ W9,W9=aF W1 (w.heap.size+1) 0 (tL X b1 l1 d1):=⟨_,rfl⟩
 have H9:Hid (az W9 w.heap.size W9.heap.size (tT X) (tL X b1 l1 d1)/\Below w.heap.size w W9/\ae W9 (w.heap.size+1) 38 (tL X b1 l1 d1).toArray):=by
  have hg:W1.grownBy W9 (some (w.heap.size+1)):=by rw [hW9];exact bf _ _ _
  have hs9:=G1.out.2.2.2.2.1;have hs7:=hg.size;exact ⟨(az.leaf (Vi X.nx) ((G1.out.2.2.2.2.2.kept hg (by omega) Nl).mono (lo':=w.heap.size) (by omega) hs7) (by omega)),by rw [hW9];exact aD (by omega) _ _ _ G1.out.1,by rw [hW9,show (tL X b1 l1 d1).toArray=bO (#[Vi 0,Zs]:Array Value) 0 (tL X b1 l1 d1) from (by simp [bO])];exact ae.stL _ _ G1.out.2.2.1⟩
 have hr:=G1.out.2.2.2.1.all;have ht:=G1.out.2.2.1.there 0 2 (by simp);clear G1;refine wp_region_lit ?_;refine wpList_load_mid rfl 38 (.tmp 3) rfl (w.heap.size+1+1) 0 rfl (tL X b1 l1 d1) _ hr underlying38 rfl (by kernel_rfl) ?_;refine wpList_store_mid rfl 38 (.tmp 2) (.tmp 11) rfl (w.heap.size+1) 0 (tL X b1 l1 d1).toArray rfl rfl ht (by kernel_rfl) (by simp [Value.oneCell']) ?_;rw [bm,<- hW9];clear hW9 hr ht;refine wpList_nil ?_;go_wp2;obtain ⟨⟨y0,y1⟩,yf⟩:=H9.out.2.2.tc2;refine bodyPost_ret (v:=.agg (tL X b1 l1 d1).toArray) (by simp [results,results22,go_sem,y0,y1]) rfl ⟨b1,d1,rfl,H9.out.1,H9.out.2.1⟩
end Go.Proofs.YtohikbpolofklaaGreat
