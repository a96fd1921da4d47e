/- Texts that the proof needs, joined: Sw1. -/
import Derived.Test.YtohikbpolofklaaGreatY12
import Derived.Test.YtohikbpolofklaaGreatY13
set_option linter.unusedVariables false
set_option linter.unusedSimpArgs false
set_option maxHeartbeats 4000000
set_option maxRecDepth 20000
namespace Go.Proofs.YtohikbpolofklaaGreat
open Go.RowKit Go.Joins Go.Proofs.Tryz
abbrev pQ:Array Value:=#[Zs,.bool false,Vi 0,Vi 0,Vi 0,Vi 0,Vi 0,Vi 0,Zs,Zs,Vi 0,Vi 0,Vi 0,Vi 0,Vi 0,Vi 0,Vi 0]
abbrev rV:Array Value:=#[Vi 0,Vi 0,Vi 0,Vi 0,Vi 0,Vi 0,Zs,Zs,Vi 0]
theorem mL(X:VL)(a1:OA)(l1 c1:Nat)(a2:OA)(l2 c2:Nat)(w:World)(r1:Rd w 0 (aw X.q.ws) (.slice a1 l1 c1))(r2:Rd w 0 (ai X.q.bs) (.slice a2 l2 c2))(hz:ax 9 (ac (aJ X))<= 1048576):
 Calls prog 89 #[.agg (bh X a1 l1 c1 a2 l2 c2).toArray] w fun e w'=>∃ b1 d1 b2 d2,e=.returned (.agg (bh X b1 l1 d1 b2 l2 d2).toArray)/\az w' w.heap.size w'.heap.size (aJ X) (bh X b1 l1 d1 b2 l2 d2)/\Below w.heap.size w w':=by
 obtain ⟨W,hW⟩:∃ W,W=((w.alloc (.cells (bh X a1 l1 c1 a2 l2 c2).toArray 81)).alloc (.cells rV 88)).alloc (.cells #[Vi X.id,Vi X.pa,Vi X.un,Vi 0,Vi 0,Vi 0,Zs,Zs,Vi 0] 88):=⟨_,rfl⟩
 have G0:=TM.new hW
 have HZ:Hid (ax 6 (ac (qT X.q))<= 1048576):=by
  rw [dy] at hz;show ax 6 (ac (qT X.q))<= 1048576;simp only [cC];omega
 have HR:=dM (And.intro r1 <|r2);clear hz r1 r2;go_enter func89,ntmps89
 go_upto_region 5 with fail
 rw [<- hW];clear hW;obtain ⟨⟨y0,y1,y2,y3,y4,y5,y6,y7,y8⟩,-⟩:=G0.out.a.tc9;go_wp2_with fail
 refine (lc X.q a1 l1 c1 a2 l2 c2 _ (HR.out.1.below G0.out.b) (HR.out.2.below G0.out.b) HZ.out).mono ?_;rintro e w1 ⟨b1,d1,b2,d2,rfl,q,hb⟩;clear y0 y1 y2 y3 y4 y5 y6 y7 y8;obtain ⟨⟨z0,z1,z2,z3,z4,z5,z6,z7,z8⟩,zf⟩:=(G0.out.o.below hb).tc9;have g3:=zf 3;have g4:=zf 4;have g5:=zf 5;have g6:=zf 6;have g7:=zf 7;have g8:=zf 8;obtain ⟨W1,hX⟩:∃ z,z=aF w1 (w.heap.size+1+1) 3 [Vi X.q.kd,Vi X.q.pl,Vi X.q.n,.slice b1 l1 d1,.slice b2 l2 d2,Vi X.q.wa]:=⟨_,rfl⟩
 have G1:=TM.st G0 hb hX #[Vi X.id,Vi X.pa,Vi X.un,Vi X.q.kd,Vi X.q.pl,Vi X.q.n,.slice b1 l1 d1,.slice b2 l2 d2,Vi X.q.wa] (q);simp only [aF,Nat.reduceAdd,Nat.zero_add] at hX;clear hb q;go_upto_region 6 with fail
 rw [<- hX];clear hX zf z0 z1 z2 z3 z4 z5 z6 z7 z8 g3 g4 g5 g6 g7 g8;obtain ⟨V,hV⟩:∃ V,V=aF W1 (w.heap.size+1) 0 (bh X b1 l1 d1 b2 l2 d2):=⟨_,rfl⟩
 have H9:=TM.fin G1 hV;have hr:W1.rangeAt (w.heap.size+1+1) 0 (bh X b1 l1 d1 b2 l2 d2):=G1.out.o.all;have ht:=G1.out.z.there 0 9 (by simp);clear G1;refine wp_region_lit ?_;refine wpList_load_mid rfl 88 (.tmp 3) rfl (w.heap.size+1+1) 0 rfl (bh X b1 l1 d1 b2 l2 d2) _ hr underlying88 rfl (by kernel_rfl) ?_;refine wpList_store_mid rfl 88 (.tmp 2) (.tmp 17) rfl (w.heap.size+1) 0 (bh X b1 l1 d1 b2 l2 d2).toArray rfl rfl ht (by kernel_rfl) (by simp [Value.oneCell']) ?_;rw [bm,<- hV];clear hV hr ht;refine wpList_nil ?_;go_wp2;obtain ⟨⟨y0,y1,y2,y3,y4,y5,y6,y7,y8⟩,-⟩:=H9.out.2.1.tc9;obtain ⟨B,-,O⟩:=H9.out;refine bodyPost_ret (v:=.agg (bh X b1 l1 d1 b2 l2 d2).toArray) (by simp [results,results89,go_sem,y0,y1,y2,y3,y4,y5,y6,y7,y8]) rfl ⟨b1,d1,b2,d2,rfl,(az.leaf (Vi X.id) (az.leaf (Vi X.pa) (az.leaf (Vi X.un) O B.size) B.size) B.size),B⟩
theorem qF(n:Nat)(f:Nat->VL)(a:OA)(n' cap:Nat)(w:World)(hs:Rd w 0 (.list 9 n (fun k=>ac (aJ (f k)))) (.slice a n' cap))(hz:(Tr.list 9 n (fun k=>ac (aJ (f k)))).sz<= 1048576):
 Calls prog 88 #[.slice a n' cap] w fun e w'=>∃ b d,e=.returned (.slice b n' d)/\dk w' w.heap.size (.list 9 n (fun k=>ac (aJ (f k)))) (.slice b n' d)/\Below w.heap.size w w':=by
 obtain ⟨a9,c9,h9,-,hn⟩:=hs.shape;simp only [Value.slice.injEq] at h9;obtain ⟨-,rfl,-⟩:=h9;clear a9 c9;have hn1:n'<= 1048576:=by rw [Tr.sz_list] at hz;omega
 have HZ:Hid (∀ k,k<n'->ax 9 (ac (aJ (f k)))<= 1048576):=by
  show ∀ k,k<n'->ax 9 (ac (aJ (f k)))<= 1048576;intro k hk;rw [Tr.sz_list] at hz;have:=ci (fun k=>ax 9 (ac (aJ (f k)))) hk;omega
 have hmk:=ct (P:=prog) 85 88 (.agg rV) 9 104 underlying85 (by kernel_rfl) .i64 .i64 n' (by omega) (by omega);have HS:Hid (Rd w 0 (.list 9 n' (fun k=>ac (aJ (f k)))) (.slice a n' cap)/\n'<= maxLen):=⟨hs,hn⟩
 clear hs hz hn;go_enter func88,ntmps88
 go_wp2;clear hmk;go_loopw [4] (fun i wr=>∃ (k:Nat),k<= n'/\i=Vi k/\bU wr w.heap.size 88 9 n' (fun i=>aJ (f i)) k/\Below w.heap.size w wr) (fun i _=>n'-(intOf i).toNat)
 case atStart=>exact ⟨0,Nat.zero_le _,rfl,bU.start (aM.made w (rV).toList n' _ (by simp)),Br.alloc Nl _⟩
 case round=>
  obtain ⟨k,hk,rfl,hrow,hb⟩:=hrel;by_cases hlt:k<n'
  ·have hi:(k:Int)<(n':Int):=by omega
   obtain ⟨b,off,vs,rfl,_,hb0,hlen,hr,hrd⟩:=(HS.out.1.below hb).at hlt;obtain ⟨a1,c1,a2,c2,rfl,r1,r2⟩:=VL.cells hrd hlen;clear hlen hrd;have HK:Hid (bU wr w.heap.size 88 9 n' (fun i=>aJ (f i)) k/\True/\Below w.heap.size w wr/\Rd wr 0 (aw (f k).q.ws) (.slice a1 ((f k).q.ws.length) c1)/\Rd wr 0 (ai (f k).q.bs) (.slice a2 ((f k).q.bs.length) c2)):=⟨hrow,trivial,hb,r1,r2⟩
   clear hrow hb hb0 r1 r2;go_wp2_with (first|(refine wpList_load_mid rfl 81 _ rfl b (off+k*9) rfl _ _ hr underlying81 rfl (by kernel_rfl) ?_)|fail)
   refine (mL (f k) a1 ((f k).q.ws.length) c1 a2 ((f k).q.bs.length) c2 _ HK.out.2.2.2.1 HK.out.2.2.2.2 (HZ.out k hlt)).mono ?_;rintro e w1 ⟨b1,d1,b2,d2,rfl,q1,hb1⟩;obtain ⟨F1,R1⟩:=(HK.out.1.cg (Cg.ofBelow (S:=fun _=>False) hb1) (fun b h=>h.elim)).row;obtain ⟨W2,hW2⟩:∃ W2,W2=aF w1 w.heap.size (k*9) (bh (f k) b1 ((f k).q.ws.length) d1 b2 ((f k).q.bs.length) d2):=⟨_,rfl⟩
   have H2:Hid (bU W2 w.heap.size 88 9 n' (fun i=>aJ (f i)) (k+1)/\Below w.heap.size w W2):=⟨by rw [hW2];exact HK.out.1.step (S:=fun _=>False) hlt (Cg.ofBelow hb1) (fun b h=>h.elim) q1 rfl,by rw [hW2];exact aD Nl _ _ _ (af HK.out.2.2.1 hb1)⟩
   have ht:=R1.there hlt (m:=9) Nl;clear R1 hb1 HK hr q1;go_wp2_with (first|(refine wpList_store_mid rfl 88 _ _ rfl w.heap.size (k*9) (bh (f k) b1 ((f k).q.ws.length) d1 b2 ((f k).q.bs.length) d2).toArray rfl rfl ht (by kernel_rfl) (by simp [Value.oneCell']) ?_;rw [bm,<- hW2];clear hW2 ht)|fail)
   go_roundw
   case rel=>
    exact ⟨k+1,by omega,by go_num,H2.out.1,H2.out.2⟩
   case measure=>simp [intOf];omega
  have hi:¬ (k:Int)<(n':Int):=by omega
  have e9:k=n':=by omega
  subst e9;have HR:Hid (bU wr w.heap.size 88 9 k (fun i=>aJ (f i)) k/\Below w.heap.size w wr):=⟨hrow,hb⟩
  clear hrow hb;go_wp2;go_ret;exact ⟨_,_,rfl,HR.out.1.done Nl HS.out.2 (fun _ _=>rfl),HR.out.2⟩
theorem rW(X:VN)(a1:OA)(l1 c1:Nat)(a2:OA)(l2 c2:Nat)(a3:OA)(l3 c3:Nat)(w:World)(r1:Rd w 0 (.list 9 X.nq (fun i=>ac (aJ (X.qf i)))) (.slice a1 l1 c1))(r2:Rd w 0 (aw X.c.q.ws) (.slice a2 l2 c2))(r3:Rd w 0 (ai X.c.q.bs) (.slice a3 l3 c3))(hz:ax 17 (ac (aN X))<= 1048576):
 Calls prog 53 #[.agg (bj X a1 l1 c1 a2 l2 c2 a3 l3 c3).toArray] w fun e w'=>∃ b1 d1 b2 d2 b3 d3,e=.returned (.agg (bj X b1 l1 d1 b2 l2 d2 b3 l3 d3).toArray)/\az w' w.heap.size w'.heap.size (aN X) (bj X b1 l1 d1 b2 l2 d2 b3 l3 d3)/\Below w.heap.size w w':=by
 obtain ⟨W,hW⟩:∃ W,W=((w.alloc (.cells (bj X a1 l1 c1 a2 l2 c2 a3 l3 c3).toArray 83)).alloc (.cells pQ 90)).alloc (.cells pQ 90):=⟨_,rfl⟩
 have G0:=TM.new hW
 have HZ:Hid ((Tr.list 9 X.nq (fun i=>ac (aJ (X.qf i)))).sz<= 1048576/\ax 9 (ac (aJ X.c))<= 1048576):=by
  rw [eT] at hz;show (Tr.list 9 X.nq (fun i=>ac (aJ (X.qf i)))).sz<= 1048576/\ax 9 (ac (aJ X.c))<= 1048576;simp only [dy];omega
 have HR:=dM (And.intro r1 <|And.intro r2 <|r3);clear hz r1 r2 r3;go_enter func53,ntmps53
 go_upto_region 2 with fail
 rw [<- hW];clear hW;obtain ⟨⟨y0,y1,y2,y3,y4,y5,y6,y7,y8,y9,y10,y11,y12,y13,y14,y15,y16⟩,-⟩:=G0.out.a.tc17;go_wp2_with fail
 refine (qF X.nq X.qf a1 l1 c1 _ (HR.out.1.below G0.out.b) HZ.out.1).mono ?_;rintro e w1 ⟨b1,d1,rfl,q,hb⟩;clear y0 y1 y2 y3 y4 y5 y6 y7 y8 y9 y10 y11 y12 y13 y14 y15 y16;obtain ⟨⟨y0,y1,y2,y3,y4,y5,y6,y7,y8,y9,y10,y11,y12,y13,y14,y15,y16⟩,-⟩:=(G0.out.a.below hb).tc17;obtain ⟨⟨z0,z1,z2,z3,z4,z5,z6,z7,z8,z9,bM,cx,z12,z13,z14,z15,z16⟩,zf⟩:=(G0.out.o.below hb).tc17;have g0:=zf 0;have g1:=zf 1;obtain ⟨W1,hX⟩:∃ z,z=aF w1 (w.heap.size+1+1) 0 [.slice b1 l1 d1,.bool X.bz]:=⟨_,rfl⟩
 have G1:=TM.st G0 hb hX #[.slice b1 l1 d1,.bool X.bz,Vi 0,Vi 0,Vi 0,Vi 0,Vi 0,Vi 0,Zs,Zs,Vi 0,Vi 0,Vi 0,Vi 0,Vi 0,Vi 0,Vi 0] (az.lv (az.one q) [.bool X.bz] hb.size);simp only [aF,Nat.reduceAdd,Nat.zero_add] at hX;clear hb q;go_upto_region 4 with fail
 rw [<- hX];clear hX zf z0 z1 z2 z3 z4 z5 z6 z7 z8 z9 bM cx z12 z13 z14 z15 z16 g0 g1 y0 y1 y2 y3 y4 y5 y6 y7 y8 y9 y10 y11 y12 y13 y14 y15 y16;obtain ⟨⟨y0,y1,y2,y3,y4,y5,y6,y7,y8,y9,y10,y11,y12,y13,y14,y15,y16⟩,-⟩:=G1.out.a.tc17;go_wp2_with fail
 refine (mL X.c a2 l2 c2 a3 l3 c3 _ (HR.out.2.1.below G1.out.b) (HR.out.2.2.below G1.out.b) HZ.out.2).mono ?_;rintro e w2 ⟨b2,d2,b3,d3,rfl,q,hb⟩;clear y0 y1 y2 y3 y4 y5 y6 y7 y8 y9 y10 y11 y12 y13 y14 y15 y16;obtain ⟨⟨y0,y1,y2,y3,y4,y5,y6,y7,y8,y9,y10,y11,y12,y13,y14,y15,y16⟩,-⟩:=(G1.out.a.below hb).tc17;obtain ⟨⟨z0,z1,z2,z3,z4,z5,z6,z7,z8,z9,bM,cx,z12,z13,z14,z15,z16⟩,zf⟩:=(G1.out.o.below hb).tc17;have g2:=zf 2;have g3:=zf 3;have g4:=zf 4;have g5:=zf 5;have g6:=zf 6;have g7:=zf 7;have g8:=zf 8;have g9:=zf 9;have g10:=zf 10;have g11:=zf 11;have g12:=zf 12;have g13:=zf 13;have g14:=zf 14;have g15:=zf 15;have g16:=zf 16;obtain ⟨W2,hX⟩:∃ z,z=aF w2 (w.heap.size+1+1) 2 [Vi X.c.id,Vi X.c.pa,Vi X.c.un,Vi X.c.q.kd,Vi X.c.q.pl,Vi X.c.q.n,.slice b2 l2 d2,.slice b3 l3 d3,Vi X.c.q.wa,Vi X.nu,Vi X.du,Vi X.le,Vi X.nx,Vi X.wt,Vi X.tr]:=⟨_,rfl⟩
 have G2:=TM.st G1 hb hX #[.slice b1 l1 d1,.bool X.bz,Vi X.c.id,Vi X.c.pa,Vi X.c.un,Vi X.c.q.kd,Vi X.c.q.pl,Vi X.c.q.n,.slice b2 l2 d2,.slice b3 l3 d3,Vi X.c.q.wa,Vi X.nu,Vi X.du,Vi X.le,Vi X.nx,Vi X.wt,Vi X.tr] (az.lv q [Vi X.nu,Vi X.du,Vi X.le,Vi X.nx,Vi X.wt,Vi X.tr] hb.size);simp only [aF,Nat.reduceAdd,Nat.zero_add] at hX;clear hb q;go_upto_region 11 with fail
 rw [<- hX];clear hX zf z0 z1 z2 z3 z4 z5 z6 z7 z8 z9 bM cx z12 z13 z14 z15 z16 g2 g3 g4 g5 g6 g7 g8 g9 g10 g11 g12 g13 g14 g15 g16 y0 y1 y2 y3 y4 y5 y6 y7 y8 y9 y10 y11 y12 y13 y14 y15 y16;obtain ⟨V,hV⟩:∃ V,V=aF W2 (w.heap.size+1) 0 (bj X b1 l1 d1 b2 l2 d2 b3 l3 d3):=⟨_,rfl⟩
 have H9:=TM.fin G2 hV;have hr:W2.rangeAt (w.heap.size+1+1) 0 (bj X b1 l1 d1 b2 l2 d2 b3 l3 d3):=G2.out.o.all;have ht:=G2.out.z.there 0 17 (by simp);clear G2;refine wp_region_lit ?_;refine wpList_load_mid rfl 90 (.tmp 3) rfl (w.heap.size+1+1) 0 rfl (bj X b1 l1 d1 b2 l2 d2 b3 l3 d3) _ hr underlying90 rfl (by kernel_rfl) ?_;refine wpList_store_mid rfl 90 (.tmp 2) (.tmp 33) rfl (w.heap.size+1) 0 (bj X b1 l1 d1 b2 l2 d2 b3 l3 d3).toArray rfl rfl ht (by kernel_rfl) (by simp [Value.oneCell']) ?_;rw [bm,<- hV];clear hV hr ht;refine wpList_nil ?_;go_wp2;obtain ⟨⟨y0,y1,y2,y3,y4,y5,y6,y7,y8,y9,y10,y11,y12,y13,y14,y15,y16⟩,-⟩:=H9.out.2.1.tc17;obtain ⟨B,-,O⟩:=H9.out;refine bodyPost_ret (v:=.agg (bj X b1 l1 d1 b2 l2 d2 b3 l3 d3).toArray) (by simp [results,results53,go_sem,y0,y1,y2,y3,y4,y5,y6,y7,y8,y9,y10,y11,y12,y13,y14,y15,y16]) rfl ⟨b1,d1,b2,d2,b3,d3,rfl,O,B⟩
theorem qG(n:Nat)(f:Nat->VN)(a:OA)(n' cap:Nat)(w:World)(hs:Rd w 0 (.list 17 n (fun k=>ac (aN (f k)))) (.slice a n' cap))(hz:(Tr.list 17 n (fun k=>ac (aN (f k)))).sz<= 1048576):
 Calls prog 23 #[.slice a n' cap] w fun e w'=>∃ b d,e=.returned (.slice b n' d)/\dk w' w.heap.size (.list 17 n (fun k=>ac (aN (f k)))) (.slice b n' d)/\Below w.heap.size w w':=by
 obtain ⟨a9,c9,h9,-,hn⟩:=hs.shape;simp only [Value.slice.injEq] at h9;obtain ⟨-,rfl,-⟩:=h9;clear a9 c9;have hn1:n'<= 1048576:=by rw [Tr.sz_list] at hz;omega
 have HZ:Hid (∀ k,k<n'->ax 17 (ac (aN (f k)))<= 1048576):=by
  show ∀ k,k<n'->ax 17 (ac (aN (f k)))<= 1048576;intro k hk;rw [Tr.sz_list] at hz;have:=ci (fun k=>ax 17 (ac (aN (f k)))) hk;omega
 have hmk:=ct (P:=prog) 39 90 (.agg pQ) 17 184 underlying39 (by kernel_rfl) .i64 .i64 n' (by omega) (by omega);have HS:Hid (Rd w 0 (.list 17 n' (fun k=>ac (aN (f k)))) (.slice a n' cap)/\n'<= maxLen):=⟨hs,hn⟩
 clear hs hz hn;go_enter func23,ntmps23
 go_wp2;clear hmk;go_loopw [4] (fun i wr=>∃ (k:Nat),k<= n'/\i=Vi k/\bU wr w.heap.size 90 17 n' (fun i=>aN (f i)) k/\Below w.heap.size w wr) (fun i _=>n'-(intOf i).toNat)
 case atStart=>exact ⟨0,Nat.zero_le _,rfl,bU.start (aM.made w (pQ).toList n' _ (by simp)),Br.alloc Nl _⟩
 case round=>
  obtain ⟨k,hk,rfl,hrow,hb⟩:=hrel;by_cases hlt:k<n'
  ·have hi:(k:Int)<(n':Int):=by omega
   obtain ⟨b,off,vs,rfl,_,hb0,hlen,hr,hrd⟩:=(HS.out.1.below hb).at hlt;obtain ⟨a1,c1,a2,c2,a3,c3,rfl,r1,r2,r3⟩:=VN.cells hrd hlen;clear hlen hrd;have HK:Hid (bU wr w.heap.size 90 17 n' (fun i=>aN (f i)) k/\True/\Below w.heap.size w wr/\Rd wr 0 (.list 9 (f k).nq (fun i=>ac (aJ ((f k).qf i)))) (.slice a1 ((f k).nq) c1)/\Rd wr 0 (aw (f k).c.q.ws) (.slice a2 ((f k).c.q.ws.length) c2)/\Rd wr 0 (ai (f k).c.q.bs) (.slice a3 ((f k).c.q.bs.length) c3)):=⟨hrow,trivial,hb,r1,r2,r3⟩
   clear hrow hb hb0 r1 r2 r3;go_wp2_with (first|(refine wpList_load_mid rfl 83 _ rfl b (off+k*17) rfl _ _ hr underlying83 rfl (by kernel_rfl) ?_)|fail)
   refine (rW (f k) a1 ((f k).nq) c1 a2 ((f k).c.q.ws.length) c2 a3 ((f k).c.q.bs.length) c3 _ HK.out.2.2.2.1 HK.out.2.2.2.2.1 HK.out.2.2.2.2.2 (HZ.out k hlt)).mono ?_;rintro e w1 ⟨b1,d1,b2,d2,b3,d3,rfl,q1,hb1⟩;obtain ⟨F1,R1⟩:=(HK.out.1.cg (Cg.ofBelow (S:=fun _=>False) hb1) (fun b h=>h.elim)).row;obtain ⟨W2,hW2⟩:∃ W2,W2=aF w1 w.heap.size (k*17) (bj (f k) b1 ((f k).nq) d1 b2 ((f k).c.q.ws.length) d2 b3 ((f k).c.q.bs.length) d3):=⟨_,rfl⟩
   have H2:Hid (bU W2 w.heap.size 90 17 n' (fun i=>aN (f i)) (k+1)/\Below w.heap.size w W2):=⟨by rw [hW2];exact HK.out.1.step (S:=fun _=>False) hlt (Cg.ofBelow hb1) (fun b h=>h.elim) q1 rfl,by rw [hW2];exact aD Nl _ _ _ (af HK.out.2.2.1 hb1)⟩
   have ht:=R1.there hlt (m:=17) Nl;clear R1 hb1 HK hr q1;go_wp2_with (first|(refine wpList_store_mid rfl 90 _ _ rfl w.heap.size (k*17) (bj (f k) b1 ((f k).nq) d1 b2 ((f k).c.q.ws.length) d2 b3 ((f k).c.q.bs.length) d3).toArray rfl rfl ht (by kernel_rfl) (by simp [Value.oneCell']) ?_;rw [bm,<- hW2];clear hW2 ht)|fail)
   go_roundw
   case rel=>
    exact ⟨k+1,by omega,by go_num,H2.out.1,H2.out.2⟩
   case measure=>simp [intOf];omega
  have hi:¬ (k:Int)<(n':Int):=by omega
  have e9:k=n':=by omega
  subst e9;have HR:Hid (bU wr w.heap.size 90 17 k (fun i=>aN (f i)) k/\Below w.heap.size w wr):=⟨hrow,hb⟩
  clear hrow hb;go_wp2;go_ret;exact ⟨_,_,rfl,HR.out.1.done Nl HS.out.2 (fun _ _=>rfl),HR.out.2⟩
theorem pR(X:VC)(a1:OA)(l1 c1:Nat)(w:World)(r1:Rd w 0 (.list 7 X.n (fun i=>ac (aR (X.f i)))) (.slice a1 l1 c1))(hz:ax 3 (ac (eE X))<= 1048576):
 Calls prog 21 #[.agg (cX X a1 l1 c1).toArray] w fun e w'=>∃ b1 d1,e=.returned (.agg (cX X b1 l1 d1).toArray)/\az w' w.heap.size w'.heap.size (eE X) (cX X b1 l1 d1)/\Below w.heap.size w w':=by
 obtain ⟨W,hW⟩:∃ W,W=((w.alloc (.cells (cX X a1 l1 c1).toArray 24)).alloc (.cells #[Vi 0,Vi 0,Zs] 35)).alloc (.cells #[Vi X.wt,Vi X.tr,Zs] 35):=⟨_,rfl⟩
 have G0:=TM.new hW
 have HZ:Hid ((Tr.list 7 X.n (fun i=>ac (aR (X.f i)))).sz<= 1048576):=by
  rw [eS] at hz;show (Tr.list 7 X.n (fun i=>ac (aR (X.f i)))).sz<= 1048576;omega
 have HR:=dM (r1);clear hz r1;go_enter func21,ntmps21
 go_upto_region 4 with fail
 rw [<- hW];clear hW;obtain ⟨⟨y0,y1,y2⟩,-⟩:=G0.out.a.tc3;go_wp2_with fail
 refine (fV X.n X.f a1 l1 c1 _ (HR.out.below G0.out.b) HZ.out).mono ?_;rintro e w1 ⟨b1,d1,rfl,q,hb⟩;clear y0 y1 y2;obtain ⟨⟨z0,z1,z2⟩,zf⟩:=(G0.out.o.below hb).tc3;have g2:=zf 2;obtain ⟨W1,hX⟩:∃ z,z=aF w1 (w.heap.size+1+1) 2 [.slice b1 l1 d1]:=⟨_,rfl⟩
 have G1:=TM.st G0 hb hX #[Vi X.wt,Vi X.tr,.slice b1 l1 d1] (az.one q);simp only [aF,Nat.reduceAdd,Nat.zero_add] at hX;clear hb q;go_upto_region 5 with fail
 rw [<- hX];clear hX zf z0 z1 z2 g2;obtain ⟨V,hV⟩:∃ V,V=aF W1 (w.heap.size+1) 0 (cX X b1 l1 d1):=⟨_,rfl⟩
 have H9:=TM.fin G1 hV;have hr:W1.rangeAt (w.heap.size+1+1) 0 (cX X b1 l1 d1):=G1.out.o.all;have ht:=G1.out.z.there 0 3 (by simp);clear G1;refine wp_region_lit ?_;refine wpList_load_mid rfl 35 (.tmp 3) rfl (w.heap.size+1+1) 0 rfl (cX X b1 l1 d1) _ hr underlying35 rfl (by kernel_rfl) ?_;refine wpList_store_mid rfl 35 (.tmp 2) (.tmp 14) rfl (w.heap.size+1) 0 (cX X b1 l1 d1).toArray rfl rfl ht (by kernel_rfl) (by simp [Value.oneCell']) ?_;rw [bm,<- hV];clear hV hr ht;refine wpList_nil ?_;go_wp2;obtain ⟨⟨y0,y1,y2⟩,-⟩:=H9.out.2.1.tc3;obtain ⟨B,-,O⟩:=H9.out;refine bodyPost_ret (v:=.agg (cX X b1 l1 d1).toArray) (by simp [results,results21,go_sem,y0,y1,y2]) rfl ⟨b1,d1,rfl,(az.leaf (Vi X.wt) (az.leaf (Vi X.tr) O B.size) B.size),B⟩
theorem gk(X:VF)(a1:OA)(l1 c1:Nat)(a2:OA)(l2 c2:Nat)(a3:OA)(l3 c3:Nat)(w:World)(r1:Rd w 0 (.list 7 X.set.n (fun i=>ac (aR (X.set.f i)))) (.slice a1 l1 c1))(r2:Rd w 0 (.list 13 X.op.m (fun i=>ac (dT (X.op.f i)))) (.slice a2 l2 c2))(r3:Rd w 0 (.list 17 X.nl (fun i=>ac (aN (X.lf i)))) (.slice a3 l3 c3))(hz:ax 11 (ac (aX X))<= 1048576):
 Calls prog 7 #[.agg (aq X a1 l1 c1 a2 l2 c2 a3 l3 c3).toArray] w fun e w'=>∃ b1 d1 b2 d2 b3 d3,e=.returned (.agg (aq X b1 l1 d1 b2 l2 d2 b3 l3 d3).toArray)/\az w' w.heap.size w'.heap.size (aX X) (aq X b1 l1 d1 b2 l2 d2 b3 l3 d3)/\Below w.heap.size w w':=by
 obtain ⟨W,hW⟩:∃ W,W=((w.alloc (.cells (aq X a1 l1 c1 a2 l2 c2 a3 l3 c3).toArray 30)).alloc (.cells #[Vi 0,Vi 0,Vi 0,Zs,Vi 0,Zs,Zs,Vi 0,Vi 0,Vi 0,Vi 0] 41)).alloc (.cells #[Vi X.nw,Vi 0,Vi 0,Zs,Vi 0,Zs,Zs,Vi 0,Vi 0,Vi 0,Vi 0] 41):=⟨_,rfl⟩
 have G0:=TM.new hW
 have HZ:Hid (ax 3 (ac (eE X.set))<= 1048576/\ax 2 (ac (tT X.op))<= 1048576/\(Tr.list 17 X.nl (fun i=>ac (aN (X.lf i)))).sz<= 1048576):=by
  rw [eg] at hz;show ax 3 (ac (eE X.set))<= 1048576/\ax 2 (ac (tT X.op))<= 1048576/\(Tr.list 17 X.nl (fun i=>ac (aN (X.lf i)))).sz<= 1048576;simp only [cQ,eS];omega
 have HR:=dM (And.intro r1 <|And.intro r2 <|r3);clear hz r1 r2 r3;go_enter func7,ntmps7
 go_upto_region 3 with fail
 rw [<- hW];clear hW;obtain ⟨⟨y0,y1,y2,y3,y4,y5,y6,y7,y8,y9,y10⟩,-⟩:=G0.out.a.tc11;go_wp2_with fail
 refine (pR X.set a1 l1 c1 _ (HR.out.1.below G0.out.b) HZ.out.1).mono ?_;rintro e w1 ⟨b1,d1,rfl,q,hb⟩;clear y0 y1 y2 y3 y4 y5 y6 y7 y8 y9 y10;obtain ⟨⟨z0,z1,z2,z3,z4,z5,z6,z7,z8,z9,bM⟩,zf⟩:=(G0.out.o.below hb).tc11;have g1:=zf 1;have g2:=zf 2;have g3:=zf 3;obtain ⟨W1,hX⟩:∃ z,z=aF w1 (w.heap.size+1+1) 1 [Vi X.set.wt,Vi X.set.tr,.slice b1 l1 d1]:=⟨_,rfl⟩
 have G1:=TM.st G0 hb hX #[Vi X.nw,Vi X.set.wt,Vi X.set.tr,.slice b1 l1 d1,Vi 0,Zs,Zs,Vi 0,Vi 0,Vi 0,Vi 0] (q);simp only [aF,Nat.reduceAdd,Nat.zero_add] at hX;clear hb q;go_upto_region 4 with fail
 rw [<- hX];clear hX zf z0 z1 z2 z3 z4 z5 z6 z7 z8 z9 bM g1 g2 g3;obtain ⟨⟨y0,y1,y2,y3,y4,y5,y6,y7,y8,y9,y10⟩,-⟩:=G1.out.a.tc11;go_wp2_with fail
 refine (qE X.op a2 l2 c2 _ (HR.out.2.1.below G1.out.b) HZ.out.2.1).mono ?_;rintro e w2 ⟨b2,d2,rfl,q,hb⟩;clear y0 y1 y2 y3 y4 y5 y6 y7 y8 y9 y10;obtain ⟨⟨z0,z1,z2,z3,z4,z5,z6,z7,z8,z9,bM⟩,zf⟩:=(G1.out.o.below hb).tc11;have g4:=zf 4;have g5:=zf 5;obtain ⟨W2,hX⟩:∃ z,z=aF w2 (w.heap.size+1+1) 4 [Vi X.op.nx,.slice b2 l2 d2]:=⟨_,rfl⟩
 have G2:=TM.st G1 hb hX #[Vi X.nw,Vi X.set.wt,Vi X.set.tr,.slice b1 l1 d1,Vi X.op.nx,.slice b2 l2 d2,Zs,Vi 0,Vi 0,Vi 0,Vi 0] (q);simp only [aF,Nat.reduceAdd,Nat.zero_add] at hX;clear hb q;go_upto_region 5 with fail
 rw [<- hX];clear hX zf z0 z1 z2 z3 z4 z5 z6 z7 z8 z9 bM g4 g5;obtain ⟨⟨y0,y1,y2,y3,y4,y5,y6,y7,y8,y9,y10⟩,-⟩:=G2.out.a.tc11;go_wp2_with fail
 refine (qG X.nl X.lf a3 l3 c3 _ (HR.out.2.2.below G2.out.b) HZ.out.2.2).mono ?_;rintro e w3 ⟨b3,d3,rfl,q,hb⟩;clear y0 y1 y2 y3 y4 y5 y6 y7 y8 y9 y10;obtain ⟨⟨y0,y1,y2,y3,y4,y5,y6,y7,y8,y9,y10⟩,-⟩:=(G2.out.a.below hb).tc11;obtain ⟨⟨z0,z1,z2,z3,z4,z5,z6,z7,z8,z9,bM⟩,zf⟩:=(G2.out.o.below hb).tc11;have g6:=zf 6;have g7:=zf 7;have g8:=zf 8;have g9:=zf 9;have g10:=zf 10;obtain ⟨W3,hX⟩:∃ z,z=aF w3 (w.heap.size+1+1) 6 [.slice b3 l3 d3,Vi X.sk,Vi X.re,Vi X.fa,Vi X.se]:=⟨_,rfl⟩
 have G3:=TM.st G2 hb hX #[Vi X.nw,Vi X.set.wt,Vi X.set.tr,.slice b1 l1 d1,Vi X.op.nx,.slice b2 l2 d2,.slice b3 l3 d3,Vi X.sk,Vi X.re,Vi X.fa,Vi X.se] (az.lv (az.one q) [Vi X.sk,Vi X.re,Vi X.fa,Vi X.se] hb.size);simp only [aF,Nat.reduceAdd,Nat.zero_add] at hX;clear hb q;go_upto_region 10 with fail
 rw [<- hX];clear hX zf z0 z1 z2 z3 z4 z5 z6 z7 z8 z9 bM g6 g7 g8 g9 g10 y0 y1 y2 y3 y4 y5 y6 y7 y8 y9 y10;obtain ⟨V,hV⟩:∃ V,V=aF W3 (w.heap.size+1) 0 (aq X b1 l1 d1 b2 l2 d2 b3 l3 d3):=⟨_,rfl⟩
 have H9:=TM.fin G3 hV;have hr:W3.rangeAt (w.heap.size+1+1) 0 (aq X b1 l1 d1 b2 l2 d2 b3 l3 d3):=G3.out.o.all;have ht:=G3.out.z.there 0 11 (by simp);clear G3;refine wp_region_lit ?_;refine wpList_load_mid rfl 41 (.tmp 3) rfl (w.heap.size+1+1) 0 rfl (aq X b1 l1 d1 b2 l2 d2 b3 l3 d3) _ hr underlying41 rfl (by kernel_rfl) ?_;refine wpList_store_mid rfl 41 (.tmp 2) (.tmp 31) rfl (w.heap.size+1) 0 (aq X b1 l1 d1 b2 l2 d2 b3 l3 d3).toArray rfl rfl ht (by kernel_rfl) (by simp [Value.oneCell']) ?_;rw [bm,<- hV];clear hV hr ht;refine wpList_nil ?_;go_wp2;obtain ⟨⟨y0,y1,y2,y3,y4,y5,y6,y7,y8,y9,y10⟩,-⟩:=H9.out.2.1.tc11;obtain ⟨B,-,O⟩:=H9.out;refine bodyPost_ret (v:=.agg (aq X b1 l1 d1 b2 l2 d2 b3 l3 d3).toArray) (by simp [results,results7,go_sem,y0,y1,y2,y3,y4,y5,y6,y7,y8,y9,y10]) rfl ⟨b1,d1,b2,d2,b3,d3,rfl,(az.leaf (Vi X.nw) O B.size),B⟩
end Go.Proofs.YtohikbpolofklaaGreat
