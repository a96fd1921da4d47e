/- Texts that the proof needs, joined: Tr11. -/
import Derived.Test.YtohikbpolofklaaGreatY2
import Derived.Test.YtohikbpolofklaaGreatY5
import Derived.Test.YtohikbpolofklaaGreatY6
set_option linter.unusedVariables false
set_option linter.unusedSimpArgs false
set_option maxHeartbeats 2000000
set_option maxRecDepth 20000
namespace Go.Proofs.YtohikbpolofklaaGreat
open Go.RowKit Go.Joins Go.Proofs.Tryz
theorem Ru.back{w:World}{lo:Nat}{X:Ru}:aV w lo (ac (aR X)) (cG X):=by
 refine aV.mk (fun j v t hv ht=>?_) (by simp [aR]);match j,hv,ht with
 |0,hv,ht=>
  obtain rfl:=sj hv;obtain rfl:=sj ht;exact rfl
 |1,hv,ht=>
  obtain rfl:=sj hv;obtain rfl:=sj ht;exact rfl
 |2,hv,ht=>
  obtain rfl:=sj hv;obtain rfl:=sj ht;exact rfl
 |3,hv,ht=>
  obtain rfl:=sj hv;obtain rfl:=sj ht;exact rfl
 |4,hv,ht=>
  obtain rfl:=sj hv;obtain rfl:=sj ht;exact rfl
 |5,hv,ht=>
  obtain rfl:=sj hv;obtain rfl:=sj ht;exact rfl
 |6,hv,ht=>
  obtain rfl:=sj hv;obtain rfl:=sj ht;exact rfl
 |j+7,hv,ht=>simp at hv
theorem jx(n:Nat)(f:Nat->Ru):(Tr.list 7 n (fun k=>ac (aR (f k)))).sz=n:=by
 rw [Tr.sz_list,xW _ _ (fun k=>js (f k)),Nat.add_zero]
theorem gX(n:Nat)(f:Nat->Ru)(a:OA)(n' cap:Nat)(left:Nat)(w:World)(hs:Rd w 0 (.list 7 n (fun k=>ac (aR (f k)))) (.slice a n' cap))(hl:left<= 1048576):
 Calls prog 5 #[.slice a n' cap,Vi (left:Int)] w fun e w'=>e=.returned (Vi (aH left (Tr.list 7 n (fun k=>ac (aR (f k)))).sz))/\Below w.heap.size w w':=by
 rw [jx];obtain ⟨rfl,-⟩:=hs.slu;obtain ⟨_,_,h9,-,hm⟩:=hs.shape;by_cases h:n'<= left
 ·refine (mR a n' cap left w h hl).mono ?_
  rintro e w' ⟨rfl,rfl⟩;exact ⟨by unfold aH;rw [if_pos h];exact congrArg _ (congrArg _ (by omega)),Br⟩
 refine (ow a n' cap left w hm h hl).mono ?_;rintro e w' ⟨rfl,rfl⟩;exact ⟨by unfold aH;rw [if_neg h],Br⟩
theorem kX(X:VC)(a1:OA)(l1 c1:Nat)(left:Nat)(w:World)(r1:Rd w 0 (.list 7 X.n (fun i=>ac (aR (X.f i)))) (.slice a1 l1 c1))(hl:left<= 1048576):
 Calls prog 15 #[.agg (cX X a1 l1 c1).toArray,Vi (left:Int)] w fun e w'=>e=.returned (Vi (aH left (ax 3 (ac (eE X)))))/\Below w.heap.size w w':=by
 have HT:Hid (ax 3 (ac (eE X))=(Tr.list 7 X.n (fun i=>ac (aR (X.f i)))).sz):=by
  show _=_;simp only [eS];try omega
 obtain ⟨t1,ht1⟩:∃ t:Nat,t=(Tr.list 7 X.n (fun i=>ac (aR (X.f i)))).sz:=⟨_,rfl⟩
 obtain ⟨W,hW⟩:∃ W,W=w.alloc (.cells (cX X a1 l1 c1).toArray 24):=⟨_,rfl⟩
 have H0:Hid (Below w.heap.size w W/\ae W w.heap.size 24 (cX X a1 l1 c1).toArray/\ax 3 (ac (eE X))=t1/\Rd w 0 (.list 7 X.n (fun i=>ac (aR (X.f i)))) (.slice a1 l1 c1)):=⟨by rw [hW];exact aa _ _,by rw [hW];exact ae.new _ _ _,by rw [HT.out];omega,r1⟩
 have K1:Hid (t1=(Tr.list 7 X.n (fun i=>ac (aR (X.f i)))).sz):=ht1;clear HT r1 ht1;go_enter func15,ntmps15
 go_upto_region 1 with fail
 rw [<- hW];clear hW;have G0:Hid (Below w.heap.size w W/\ae W w.heap.size 24 (cX X a1 l1 c1).toArray):=⟨H0.out.1,H0.out.2.1⟩
 have Q0:Hid (left<= 1048576/\left=left):=⟨hl,rfl⟩
 obtain ⟨⟨y0,y1,y2⟩,yf⟩:=G0.out.2.tc3;clear yf;by_cases g1:t1<= left
 rotate_left
 ·have E:Hid (aH left ((Tr.list 7 X.n (fun i=>ac (aR (X.f i)))).sz) = -1/\aH left (ax 3 (ac (eE X))) = -1):=by
   have h9:=Q0.out.2;have h8:=H0.out.2.2.1;refine ⟨?_,?_⟩
   ·rw [<- K1.out];unfold aH;rw [if_neg g1]
   rw [h8];unfold aH;rw [if_neg (by omega)]
  go_wp2_with fail
  refine (gX X.n X.f a1 l1 c1 left _ (H0.out.2.2.2.below G0.out.1) Q0.out.1).mono ?_;rintro e w9 ⟨rfl,b9⟩;rw [E.out.1];have B9:=af G0.out.1 b9;clear b9 y0 y1 y2;go_wp2;go_ret;exact ⟨by rw [E.out.2];rfl,B9⟩
 obtain ⟨L1,hL1⟩:∃ m:Nat,m+t1=left:=⟨left-t1,by omega⟩
 have E1:Hid (aH left ((Tr.list 7 X.n (fun i=>ac (aR (X.f i)))).sz)=(L1:Int)):=by
  show _=_;rw [<- K1.out];unfold aH;rw [if_pos g1];omega
 have n1:¬ ((L1:Int)<0):=by omega
 have Q1:Hid (L1<= 1048576/\L1+t1=left):=by
  have h9:=Q0.out;exact ⟨by omega,by omega⟩
 clear hL1 g1;go_wp2_with fail
 refine (gX X.n X.f a1 l1 c1 left _ (H0.out.2.2.2.below G0.out.1) Q0.out.1).mono ?_;rintro e w1 ⟨rfl,b1⟩;rw [E1.out];have G1:Hid (Below w.heap.size w w1/\ae w1 w.heap.size 24 (cX X a1 l1 c1).toArray):=⟨af G0.out.1 b1,G0.out.2.below b1⟩
 clear b1 y0 y1 y2
 have E:Hid (aH left (ax 3 (ac (eE X)))=(L1:Int)):=by
  have h9:=Q1.out.2;have h8:=H0.out.2.2.1;show _=_;rw [h8];unfold aH;rw [if_pos (by omega)];omega
 go_wp2;go_ret;exact ⟨by rw [E.out];rfl,G1.out.1⟩
theorem iM(X:VL)(a1:OA)(l1 c1:Nat)(a2:OA)(l2 c2:Nat)(left:Nat)(w:World)(r1:Rd w 0 (aw X.q.ws) (.slice a1 l1 c1))(r2:Rd w 0 (ai X.q.bs) (.slice a2 l2 c2))(hl:left<= 1048576):
 Calls prog 79 #[.agg (bh X a1 l1 c1 a2 l2 c2).toArray,Vi (left:Int)] w fun e w'=>e=.returned (Vi (aH left (ax 9 (ac (aJ X)))))/\Below w.heap.size w w':=by
 have HT:Hid (ax 9 (ac (aJ X))=ax 6 (ac (qT X.q))):=by
  show _=_;simp only [dy,cC];try omega
 obtain ⟨t1,ht1⟩:∃ t:Nat,t=ax 6 (ac (qT X.q)):=⟨_,rfl⟩
 obtain ⟨W,hW⟩:∃ W,W=w.alloc (.cells (bh X a1 l1 c1 a2 l2 c2).toArray 81):=⟨_,rfl⟩
 have H0:Hid (Below w.heap.size w W/\ae W w.heap.size 81 (bh X a1 l1 c1 a2 l2 c2).toArray/\ax 9 (ac (aJ X))=t1/\Rd w 0 (aw X.q.ws) (.slice a1 l1 c1)/\Rd w 0 (ai X.q.bs) (.slice a2 l2 c2)):=⟨by rw [hW];exact aa _ _,by rw [hW];exact ae.new _ _ _,by rw [HT.out];omega,r1,r2⟩
 have K1:Hid (t1=ax 6 (ac (qT X.q))):=ht1;clear HT r1 r2 ht1;go_enter func79,ntmps79
 go_upto_region 1 with fail
 rw [<- hW];clear hW;have G0:Hid (Below w.heap.size w W/\ae W w.heap.size 81 (bh X a1 l1 c1 a2 l2 c2).toArray):=⟨H0.out.1,H0.out.2.1⟩
 have Q0:Hid (left<= 1048576/\left=left):=⟨hl,rfl⟩
 obtain ⟨⟨y0,y1,y2,y3,y4,y5,y6,y7,y8⟩,yf⟩:=G0.out.2.tc9;clear yf;by_cases g1:t1<= left
 rotate_left
 ·have E:Hid (aH left (ax 6 (ac (qT X.q))) = -1/\aH left (ax 9 (ac (aJ X))) = -1):=by
   have h9:=Q0.out.2;have h8:=H0.out.2.2.1;refine ⟨?_,?_⟩
   ·rw [<- K1.out];unfold aH;rw [if_neg g1]
   rw [h8];unfold aH;rw [if_neg (by omega)]
  go_wp2_with fail
  refine (gy X.q a1 l1 c1 a2 l2 c2 left _ (H0.out.2.2.2.1.below G0.out.1) (H0.out.2.2.2.2.below G0.out.1) Q0.out.1).mono ?_;rintro e w9 ⟨rfl,b9⟩;rw [E.out.1];have B9:=af G0.out.1 b9;clear b9 y0 y1 y2 y3 y4 y5 y6 y7 y8;go_wp2;go_ret;exact ⟨by rw [E.out.2];rfl,B9⟩
 obtain ⟨L1,hL1⟩:∃ m:Nat,m+t1=left:=⟨left-t1,by omega⟩
 have E1:Hid (aH left (ax 6 (ac (qT X.q)))=(L1:Int)):=by
  show _=_;rw [<- K1.out];unfold aH;rw [if_pos g1];omega
 have n1:¬ ((L1:Int)<0):=by omega
 have Q1:Hid (L1<= 1048576/\L1+t1=left):=by
  have h9:=Q0.out;exact ⟨by omega,by omega⟩
 clear hL1 g1;go_wp2_with fail
 refine (gy X.q a1 l1 c1 a2 l2 c2 left _ (H0.out.2.2.2.1.below G0.out.1) (H0.out.2.2.2.2.below G0.out.1) Q0.out.1).mono ?_;rintro e w1 ⟨rfl,b1⟩;rw [E1.out];have G1:Hid (Below w.heap.size w w1/\ae w1 w.heap.size 81 (bh X a1 l1 c1 a2 l2 c2).toArray):=⟨af G0.out.1 b1,G0.out.2.below b1⟩
 clear b1 y0 y1 y2 y3 y4 y5 y6 y7 y8
 have E:Hid (aH left (ax 9 (ac (aJ X)))=(L1:Int)):=by
  have h9:=Q1.out.2;have h8:=H0.out.2.2.1;show _=_;rw [h8];unfold aH;rw [if_pos (by omega)];omega
 go_wp2;go_ret;exact ⟨by rw [E.out];rfl,G1.out.1⟩
theorem mr(n:Nat)(f:Nat->VL)(a:OA)(n' cap:Nat)(left:Nat)(w:World)(hs:Rd w 0 (.list 9 n (fun k=>ac (aJ (f k)))) (.slice a n' cap))(hl:left<= 1048576):
 Calls prog 78 #[.slice a n' cap,Vi (left:Int)] w fun e w'=>e=.returned (Vi (aH left (Tr.list 9 n (fun k=>ac (aJ (f k)))).sz))/\Below w.heap.size w w':=by
 obtain ⟨a9,c9,h9,-,hn⟩:=hs.shape;simp only [Value.slice.injEq] at h9;obtain ⟨-,rfl,-⟩:=h9;clear a9 c9;unfold maxLen at hn;have w1:IntKind.i64.wrap ((left:Int)-(n':Int))=(left:Int)-(n':Int):=by rw [IntKind.wrap_i64];omega
 obtain ⟨g,hg⟩:∃ g:Nat->Nat,g=fun k=>ax 9 (ac (aJ (f k))):=⟨_,rfl⟩
 have HT:Hid ((Tr.list 9 n' (fun k=>ac (aJ (f k)))).sz=n'+ag n' g):=by show _=_;rw [hg];exact Tr.sz_list _ _ _
 have HG:Hid (∀ k,g k=ax 9 (ac (aJ (f k)))):=by show ∀ k,g k=_;intro k;rw [hg]
 clear hg;by_cases h0:n'<= left
 ·have h1:¬ ((left:Int)-(n':Int)<0):=by omega
  have HS:Hid (Rd w 0 (.list 9 n' (fun k=>ac (aJ (f k)))) (.slice a n' cap)):=hs;have HL:Hid (left<= 1048576):=hl;clear hs hn;go_enter func78,ntmps78
  go_wp2;go_loopw [1,5] (fun lv i wr=>∃ k:Nat,k<= n'/\i=Vi k/\n'+ag k g<= left/\lv=Vi ((left:Int)-(n':Int)-(ag k g:Int))/\Below w.heap.size w wr) (fun _ i _=>n'-(intOf i).toNat)
  case atStart=>exact ⟨0,Nat.zero_le _,rfl,by simp [ag];omega,by simp [ag],Br⟩
  case round=>
   obtain ⟨k,hk,rfl,ht,rfl,hb⟩:=hrel;by_cases hlt:k<n'
   ·have hi:(k:Int)<(n':Int):=by omega
    obtain ⟨b,off,vs,rfl,_,hb0,hlen,hr,hrd⟩:=(HS.out.below hb).at hlt;obtain ⟨a1,c1,a2,c2,rfl,r1,r2⟩:=VL.cells hrd hlen;clear hlen hrd;have d0:wr.cell? ⟨b,off+k*9,none⟩=_:=hr 0 _ rfl;have d1:=hr 1 _ rfl;have d2:=hr 2 _ rfl;have d3:=hr 3 _ rfl;have d4:=hr 4 _ rfl;have d5:=hr 5 _ rfl;have d6:=hr 6 _ rfl;have d7:=hr 7 _ rfl;have d8:=hr 8 _ rfl;obtain ⟨lf,hlf⟩:∃ lf:Nat,(lf:Int)=(left:Int)-(n':Int)-(ag k g:Int):=⟨left-n'-ag k g,by omega⟩
    rw [<- hlf];obtain ⟨x,hx⟩:∃ x,x=g k:=⟨_,rfl⟩
    have HK:Hid ((lf:Int)=(left:Int)-(n':Int)-(ag k g:Int)/\lf<= 1048576/\ag (k+1) g=ag k g+x/\Below w.heap.size w wr/\x=ax 9 (ac (aJ (f k)))/\Rd wr 0 (aw (f k).q.ws) (.slice a1 ((f k).q.ws.length) c1)/\Rd wr 0 (ai (f k).q.bs) (.slice a2 ((f k).q.bs.length) c2)):=⟨hlf,by have:=HL.out;omega,by rw [hx];rfl,hb,by rw [hx];exact HG.out k,r1,r2⟩
    clear hlf hb HS hx hr hb0 r1 r2;by_cases hf:x<= lf
    ·obtain ⟨lg,hlg⟩:∃ m:Nat,m+x=lf:=⟨lf-x,by omega⟩
     have hx0:¬ ((lg:Int)<0):=by omega
     have HF:Hid (aH lf (ax 9 (ac (aJ (f k))))=(lg:Int)/\(lg:Int)=(left:Int)-(n':Int)-(ag (k+1) g:Int)/\n'+ag (k+1) g<= left):=by
      have h9:=HK.out;refine ⟨?_,?_,?_⟩
      ·rw [<- h9.2.2.2.2.1];unfold aH;rw [if_pos hf];omega
      ·omega
      omega
     clear ht hf hlg;go_wp2_with fail
     refine (iM (f k) a1 ((f k).q.ws.length) c1 a2 ((f k).q.bs.length) c2 lf _ HK.out.2.2.2.2.2.1 HK.out.2.2.2.2.2.2 HK.out.2.1).mono ?_;rintro e w2 ⟨rfl,b2⟩;rw [HF.out.1];have HB:Hid (Below w.heap.size w w2):=af HK.out.2.2.2.1 b2;clear b2 d0 d1 d2 d3 d4 d5 d6 d7 d8;go_wp2;go_roundw
     case rel=>exact ⟨k+1,by omega,by go_num,HF.out.2.2,by rw [HF.out.2.1],HB.out⟩
     case measure=>simp [intOf];omega
    have HF:Hid (aH lf (ax 9 (ac (aJ (f k)))) = -1/\aH left (Tr.list 9 n' (fun k=>ac (aJ (f k)))).sz = -1):=by
     have h9:=HK.out;have h8:=eH g (show k+1<= n' by omega);have h7:=HT.out;refine ⟨?_,?_⟩
     ·rw [<- h9.2.2.2.2.1];unfold aH;rw [if_neg hf]
     rw [h7];unfold aH;rw [if_neg (by omega)]
    clear ht hf;go_wp2_with fail
    refine (iM (f k) a1 ((f k).q.ws.length) c1 a2 ((f k).q.bs.length) c2 lf _ HK.out.2.2.2.2.2.1 HK.out.2.2.2.2.2.2 HK.out.2.1).mono ?_;rintro e w2 ⟨rfl,b2⟩;rw [HF.out.1];have HB:Hid (Below w.heap.size w w2):=af HK.out.2.2.2.1 b2;clear b2 d0 d1 d2 d3 d4 d5 d6 d7 d8;go_wp2;go_ret;exact ⟨(by rw [HF.out.2];rfl),HB.out⟩
   have hi:¬ (k:Int)<(n':Int):=by omega
   have e9:k=n':=by omega
   subst e9
   have HE:Hid (aH left (Tr.list 9 k (fun k=>ac (aJ (f k)))).sz=(left:Int)-(k:Int)-(ag k g:Int)):=by
    show _=_;rw [HT.out];unfold aH;rw [if_pos ht];omega
   clear ht;go_wp2;go_ret;exact ⟨(by rw [HE.out];rfl),hb⟩
 have h1:(left:Int)-(n':Int)<0:=by omega
 have HE:Hid (aH left (Tr.list 9 n' (fun k=>ac (aJ (f k)))).sz = -1):=by
  show _=_;rw [HT.out];unfold aH;rw [if_neg (by omega)]
 clear hs hn hl;go_enter func78,ntmps78
 go_wp2;go_ret;exact ⟨(by rw [HE.out];rfl),Br⟩
theorem nZ(X:VN)(a1:OA)(l1 c1:Nat)(a2:OA)(l2 c2:Nat)(a3:OA)(l3 c3:Nat)(left:Nat)(w:World)(r1:Rd w 0 (.list 9 X.nq (fun i=>ac (aJ (X.qf i)))) (.slice a1 l1 c1))(r2:Rd w 0 (aw X.c.q.ws) (.slice a2 l2 c2))(r3:Rd w 0 (ai X.c.q.bs) (.slice a3 l3 c3))(hl:left<= 1048576):
 Calls prog 40 #[.agg (bj X a1 l1 c1 a2 l2 c2 a3 l3 c3).toArray,Vi (left:Int)] w fun e w'=>e=.returned (Vi (aH left (ax 17 (ac (aN X)))))/\Below w.heap.size w w':=by
 have HT:Hid (ax 17 (ac (aN X))=(Tr.list 9 X.nq (fun i=>ac (aJ (X.qf i)))).sz+ax 9 (ac (aJ X.c))):=by
  show _=_;simp only [eT,dy];try omega
 obtain ⟨t1,ht1⟩:∃ t:Nat,t=(Tr.list 9 X.nq (fun i=>ac (aJ (X.qf i)))).sz:=⟨_,rfl⟩
 obtain ⟨t2,ht2⟩:∃ t:Nat,t=ax 9 (ac (aJ X.c)):=⟨_,rfl⟩
 obtain ⟨W,hW⟩:∃ W,W=w.alloc (.cells (bj X a1 l1 c1 a2 l2 c2 a3 l3 c3).toArray 83):=⟨_,rfl⟩
 have H0:Hid (Below w.heap.size w W/\ae W w.heap.size 83 (bj X a1 l1 c1 a2 l2 c2 a3 l3 c3).toArray/\ax 17 (ac (aN X))=t1+t2/\Rd w 0 (.list 9 X.nq (fun i=>ac (aJ (X.qf i)))) (.slice a1 l1 c1)/\Rd w 0 (aw X.c.q.ws) (.slice a2 l2 c2)/\Rd w 0 (ai X.c.q.bs) (.slice a3 l3 c3)):=⟨by rw [hW];exact aa _ _,by rw [hW];exact ae.new _ _ _,by rw [HT.out];omega,r1,r2,r3⟩
 have K1:Hid (t1=(Tr.list 9 X.nq (fun i=>ac (aJ (X.qf i)))).sz):=ht1;have K2:Hid (t2=ax 9 (ac (aJ X.c))):=ht2;clear HT r1 r2 r3 ht1 ht2;go_enter func40,ntmps40
 go_upto_region 1 with fail
 rw [<- hW];clear hW;have G0:Hid (Below w.heap.size w W/\ae W w.heap.size 83 (bj X a1 l1 c1 a2 l2 c2 a3 l3 c3).toArray):=⟨H0.out.1,H0.out.2.1⟩
 have Q0:Hid (left<= 1048576/\left=left):=⟨hl,rfl⟩
 obtain ⟨⟨y0,y1,y2,y3,y4,y5,y6,y7,y8,y9,y10,y11,y12,y13,y14,y15,y16⟩,yf⟩:=G0.out.2.tc17;clear yf;by_cases g1:t1<= left
 rotate_left
 ·have E:Hid (aH left ((Tr.list 9 X.nq (fun i=>ac (aJ (X.qf i)))).sz) = -1/\aH left (ax 17 (ac (aN X))) = -1):=by
   have h9:=Q0.out.2;have h8:=H0.out.2.2.1;refine ⟨?_,?_⟩
   ·rw [<- K1.out];unfold aH;rw [if_neg g1]
   rw [h8];unfold aH;rw [if_neg (by omega)]
  go_wp2_with fail
  refine (mr X.nq X.qf a1 l1 c1 left _ (H0.out.2.2.2.1.below G0.out.1) Q0.out.1).mono ?_;rintro e w9 ⟨rfl,b9⟩;rw [E.out.1];have B9:=af G0.out.1 b9;clear b9 y0 y1 y2 y3 y4 y5 y6 y7 y8 y9 y10 y11 y12 y13 y14 y15 y16;go_wp2;go_ret;exact ⟨by rw [E.out.2];rfl,B9⟩
 obtain ⟨L1,hL1⟩:∃ m:Nat,m+t1=left:=⟨left-t1,by omega⟩
 have E1:Hid (aH left ((Tr.list 9 X.nq (fun i=>ac (aJ (X.qf i)))).sz)=(L1:Int)):=by
  show _=_;rw [<- K1.out];unfold aH;rw [if_pos g1];omega
 have n1:¬ ((L1:Int)<0):=by omega
 have Q1:Hid (L1<= 1048576/\L1+t1=left):=by
  have h9:=Q0.out;exact ⟨by omega,by omega⟩
 clear hL1 g1;go_wp2_with fail
 refine (mr X.nq X.qf a1 l1 c1 left _ (H0.out.2.2.2.1.below G0.out.1) Q0.out.1).mono ?_;rintro e w1 ⟨rfl,b1⟩;rw [E1.out];have G1:Hid (Below w.heap.size w w1/\ae w1 w.heap.size 83 (bj X a1 l1 c1 a2 l2 c2 a3 l3 c3).toArray):=⟨af G0.out.1 b1,G0.out.2.below b1⟩
 clear b1 y0 y1 y2 y3 y4 y5 y6 y7 y8 y9 y10 y11 y12 y13 y14 y15 y16;obtain ⟨⟨y0,y1,y2,y3,y4,y5,y6,y7,y8,y9,y10,y11,y12,y13,y14,y15,y16⟩,yf⟩:=G1.out.2.tc17;clear yf;by_cases g2:t2<= L1
 rotate_left
 ·have E:Hid (aH L1 (ax 9 (ac (aJ X.c))) = -1/\aH left (ax 17 (ac (aN X))) = -1):=by
   have h9:=Q1.out.2;have h8:=H0.out.2.2.1;refine ⟨?_,?_⟩
   ·rw [<- K2.out];unfold aH;rw [if_neg g2]
   rw [h8];unfold aH;rw [if_neg (by omega)]
  go_wp2_with fail
  refine (iM X.c a2 l2 c2 a3 l3 c3 L1 _ (H0.out.2.2.2.2.1.below G1.out.1) (H0.out.2.2.2.2.2.below G1.out.1) Q1.out.1).mono ?_;rintro e w9 ⟨rfl,b9⟩;rw [E.out.1];have B9:=af G1.out.1 b9;clear b9 y0 y1 y2 y3 y4 y5 y6 y7 y8 y9 y10 y11 y12 y13 y14 y15 y16;go_wp2;go_ret;exact ⟨by rw [E.out.2];rfl,B9⟩
 obtain ⟨L2,hL2⟩:∃ m:Nat,m+t2=L1:=⟨L1-t2,by omega⟩
 have E2:Hid (aH L1 (ax 9 (ac (aJ X.c)))=(L2:Int)):=by
  show _=_;rw [<- K2.out];unfold aH;rw [if_pos g2];omega
 have n2:¬ ((L2:Int)<0):=by omega
 have Q2:Hid (L2<= 1048576/\L2+t1+t2=left):=by
  have h9:=Q1.out;exact ⟨by omega,by omega⟩
 clear hL2 g2;go_wp2_with fail
 refine (iM X.c a2 l2 c2 a3 l3 c3 L1 _ (H0.out.2.2.2.2.1.below G1.out.1) (H0.out.2.2.2.2.2.below G1.out.1) Q1.out.1).mono ?_;rintro e w2 ⟨rfl,b2⟩;rw [E2.out];have G2:Hid (Below w.heap.size w w2/\ae w2 w.heap.size 83 (bj X a1 l1 c1 a2 l2 c2 a3 l3 c3).toArray):=⟨af G1.out.1 b2,G1.out.2.below b2⟩
 clear b2 y0 y1 y2 y3 y4 y5 y6 y7 y8 y9 y10 y11 y12 y13 y14 y15 y16
 have E:Hid (aH left (ax 17 (ac (aN X)))=(L2:Int)):=by
  have h9:=Q2.out.2;have h8:=H0.out.2.2.1;show _=_;rw [h8];unfold aH;rw [if_pos (by omega)];omega
 go_wp2;go_ret;exact ⟨by rw [E.out];rfl,G2.out.1⟩
theorem ms(n:Nat)(f:Nat->VN)(a:OA)(n' cap:Nat)(left:Nat)(w:World)(hs:Rd w 0 (.list 17 n (fun k=>ac (aN (f k)))) (.slice a n' cap))(hl:left<= 1048576):
 Calls prog 17 #[.slice a n' cap,Vi (left:Int)] w fun e w'=>e=.returned (Vi (aH left (Tr.list 17 n (fun k=>ac (aN (f k)))).sz))/\Below w.heap.size w w':=by
 obtain ⟨a9,c9,h9,-,hn⟩:=hs.shape;simp only [Value.slice.injEq] at h9;obtain ⟨-,rfl,-⟩:=h9;clear a9 c9;unfold maxLen at hn;have w1:IntKind.i64.wrap ((left:Int)-(n':Int))=(left:Int)-(n':Int):=by rw [IntKind.wrap_i64];omega
 obtain ⟨g,hg⟩:∃ g:Nat->Nat,g=fun k=>ax 17 (ac (aN (f k))):=⟨_,rfl⟩
 have HT:Hid ((Tr.list 17 n' (fun k=>ac (aN (f k)))).sz=n'+ag n' g):=by show _=_;rw [hg];exact Tr.sz_list _ _ _
 have HG:Hid (∀ k,g k=ax 17 (ac (aN (f k)))):=by show ∀ k,g k=_;intro k;rw [hg]
 clear hg;by_cases h0:n'<= left
 ·have h1:¬ ((left:Int)-(n':Int)<0):=by omega
  have HS:Hid (Rd w 0 (.list 17 n' (fun k=>ac (aN (f k)))) (.slice a n' cap)):=hs;have HL:Hid (left<= 1048576):=hl;clear hs hn;go_enter func17,ntmps17
  go_wp2;go_loopw [1,5] (fun lv i wr=>∃ k:Nat,k<= n'/\i=Vi k/\n'+ag k g<= left/\lv=Vi ((left:Int)-(n':Int)-(ag k g:Int))/\Below w.heap.size w wr) (fun _ i _=>n'-(intOf i).toNat)
  case atStart=>exact ⟨0,Nat.zero_le _,rfl,by simp [ag];omega,by simp [ag],Br⟩
  case round=>
   obtain ⟨k,hk,rfl,ht,rfl,hb⟩:=hrel;by_cases hlt:k<n'
   ·have hi:(k:Int)<(n':Int):=by omega
    obtain ⟨b,off,vs,rfl,_,hb0,hlen,hr,hrd⟩:=(HS.out.below hb).at hlt;obtain ⟨a1,c1,a2,c2,a3,c3,rfl,r1,r2,r3⟩:=VN.cells hrd hlen;clear hlen hrd;have d0:wr.cell? ⟨b,off+k*17,none⟩=_:=hr 0 _ rfl;have d1:=hr 1 _ rfl;have d2:=hr 2 _ rfl;have d3:=hr 3 _ rfl;have d4:=hr 4 _ rfl;have d5:=hr 5 _ rfl;have d6:=hr 6 _ rfl;have d7:=hr 7 _ rfl;have d8:=hr 8 _ rfl;have d9:=hr 9 _ rfl;have d10:=hr 10 _ rfl;have d11:=hr 11 _ rfl;have d12:=hr 12 _ rfl;have d13:=hr 13 _ rfl;have d14:=hr 14 _ rfl;have d15:=hr 15 _ rfl;have d16:=hr 16 _ rfl;obtain ⟨lf,hlf⟩:∃ lf:Nat,(lf:Int)=(left:Int)-(n':Int)-(ag k g:Int):=⟨left-n'-ag k g,by omega⟩
    rw [<- hlf];obtain ⟨x,hx⟩:∃ x,x=g k:=⟨_,rfl⟩
    have HK:Hid ((lf:Int)=(left:Int)-(n':Int)-(ag k g:Int)/\lf<= 1048576/\ag (k+1) g=ag k g+x/\Below w.heap.size w wr/\x=ax 17 (ac (aN (f k)))/\Rd wr 0 (.list 9 (f k).nq (fun i=>ac (aJ ((f k).qf i)))) (.slice a1 ((f k).nq) c1)/\Rd wr 0 (aw (f k).c.q.ws) (.slice a2 ((f k).c.q.ws.length) c2)/\Rd wr 0 (ai (f k).c.q.bs) (.slice a3 ((f k).c.q.bs.length) c3)):=⟨hlf,by have:=HL.out;omega,by rw [hx];rfl,hb,by rw [hx];exact HG.out k,r1,r2,r3⟩
    clear hlf hb HS hx hr hb0 r1 r2 r3;by_cases hf:x<= lf
    ·obtain ⟨lg,hlg⟩:∃ m:Nat,m+x=lf:=⟨lf-x,by omega⟩
     have hx0:¬ ((lg:Int)<0):=by omega
     have HF:Hid (aH lf (ax 17 (ac (aN (f k))))=(lg:Int)/\(lg:Int)=(left:Int)-(n':Int)-(ag (k+1) g:Int)/\n'+ag (k+1) g<= left):=by
      have h9:=HK.out;refine ⟨?_,?_,?_⟩
      ·rw [<- h9.2.2.2.2.1];unfold aH;rw [if_pos hf];omega
      ·omega
      omega
     clear ht hf hlg;go_wp2_with fail
     refine (nZ (f k) a1 ((f k).nq) c1 a2 ((f k).c.q.ws.length) c2 a3 ((f k).c.q.bs.length) c3 lf _ HK.out.2.2.2.2.2.1 HK.out.2.2.2.2.2.2.1 HK.out.2.2.2.2.2.2.2 HK.out.2.1).mono ?_;rintro e w2 ⟨rfl,b2⟩;rw [HF.out.1];have HB:Hid (Below w.heap.size w w2):=af HK.out.2.2.2.1 b2;clear b2 d0 d1 d2 d3 d4 d5 d6 d7 d8 d9 d10 d11 d12 d13 d14 d15 d16;go_wp2;go_roundw
     case rel=>exact ⟨k+1,by omega,by go_num,HF.out.2.2,by rw [HF.out.2.1],HB.out⟩
     case measure=>simp [intOf];omega
    have HF:Hid (aH lf (ax 17 (ac (aN (f k)))) = -1/\aH left (Tr.list 17 n' (fun k=>ac (aN (f k)))).sz = -1):=by
     have h9:=HK.out;have h8:=eH g (show k+1<= n' by omega);have h7:=HT.out;refine ⟨?_,?_⟩
     ·rw [<- h9.2.2.2.2.1];unfold aH;rw [if_neg hf]
     rw [h7];unfold aH;rw [if_neg (by omega)]
    clear ht hf;go_wp2_with fail
    refine (nZ (f k) a1 ((f k).nq) c1 a2 ((f k).c.q.ws.length) c2 a3 ((f k).c.q.bs.length) c3 lf _ HK.out.2.2.2.2.2.1 HK.out.2.2.2.2.2.2.1 HK.out.2.2.2.2.2.2.2 HK.out.2.1).mono ?_;rintro e w2 ⟨rfl,b2⟩;rw [HF.out.1];have HB:Hid (Below w.heap.size w w2):=af HK.out.2.2.2.1 b2;clear b2 d0 d1 d2 d3 d4 d5 d6 d7 d8 d9 d10 d11 d12 d13 d14 d15 d16;go_wp2;go_ret;exact ⟨(by rw [HF.out.2];rfl),HB.out⟩
   have hi:¬ (k:Int)<(n':Int):=by omega
   have e9:k=n':=by omega
   subst e9
   have HE:Hid (aH left (Tr.list 17 k (fun k=>ac (aN (f k)))).sz=(left:Int)-(k:Int)-(ag k g:Int)):=by
    show _=_;rw [HT.out];unfold aH;rw [if_pos ht];omega
   clear ht;go_wp2;go_ret;exact ⟨(by rw [HE.out];rfl),hb⟩
 have h1:(left:Int)-(n':Int)<0:=by omega
 have HE:Hid (aH left (Tr.list 17 n' (fun k=>ac (aN (f k)))).sz = -1):=by
  show _=_;rw [HT.out];unfold aH;rw [if_neg (by omega)]
 clear hs hn hl;go_enter func17,ntmps17
 go_wp2;go_ret;exact ⟨(by rw [HE.out];rfl),Br⟩
theorem iN(X:VF)(a1:OA)(l1 c1:Nat)(a2:OA)(l2 c2:Nat)(a3:OA)(l3 c3:Nat)(left:Nat)(w:World)(r1:Rd w 0 (.list 7 X.set.n (fun i=>ac (aR (X.set.f i)))) (.slice a1 l1 c1))(r2:Rd w 0 (.list 13 X.op.m (fun i=>ac (dT (X.op.f i)))) (.slice a2 l2 c2))(r3:Rd w 0 (.list 17 X.nl (fun i=>ac (aN (X.lf i)))) (.slice a3 l3 c3))(hl:left<= 1048576):
 Calls prog 4 #[.agg (aq X a1 l1 c1 a2 l2 c2 a3 l3 c3).toArray,Vi (left:Int)] w fun e w'=>e=.returned (Vi (aH left (ax 11 (ac (aX X)))))/\Below w.heap.size w w':=by
 have HT:Hid (ax 11 (ac (aX X))=ax 3 (ac (eE X.set))+ax 2 (ac (tT X.op))+(Tr.list 17 X.nl (fun i=>ac (aN (X.lf i)))).sz):=by
  show _=_;simp only [eg,eS,cQ];try omega
 obtain ⟨t1,ht1⟩:∃ t:Nat,t=ax 3 (ac (eE X.set)):=⟨_,rfl⟩
 obtain ⟨t2,ht2⟩:∃ t:Nat,t=ax 2 (ac (tT X.op)):=⟨_,rfl⟩
 obtain ⟨t3,ht3⟩:∃ t:Nat,t=(Tr.list 17 X.nl (fun i=>ac (aN (X.lf i)))).sz:=⟨_,rfl⟩
 obtain ⟨W,hW⟩:∃ W,W=w.alloc (.cells (aq X a1 l1 c1 a2 l2 c2 a3 l3 c3).toArray 30):=⟨_,rfl⟩
 have H0:Hid (Below w.heap.size w W/\ae W w.heap.size 30 (aq X a1 l1 c1 a2 l2 c2 a3 l3 c3).toArray/\ax 11 (ac (aX X))=t1+t2+t3/\Rd w 0 (.list 7 X.set.n (fun i=>ac (aR (X.set.f i)))) (.slice a1 l1 c1)/\Rd w 0 (.list 13 X.op.m (fun i=>ac (dT (X.op.f i)))) (.slice a2 l2 c2)/\Rd w 0 (.list 17 X.nl (fun i=>ac (aN (X.lf i)))) (.slice a3 l3 c3)):=⟨by rw [hW];exact aa _ _,by rw [hW];exact ae.new _ _ _,by rw [HT.out];omega,r1,r2,r3⟩
 have K1:Hid (t1=ax 3 (ac (eE X.set))):=ht1;have K2:Hid (t2=ax 2 (ac (tT X.op))):=ht2;have K3:Hid (t3=(Tr.list 17 X.nl (fun i=>ac (aN (X.lf i)))).sz):=ht3;clear HT r1 r2 r3 ht1 ht2 ht3;go_enter func4,ntmps4
 go_upto_region 1 with fail
 rw [<- hW];clear hW;have G0:Hid (Below w.heap.size w W/\ae W w.heap.size 30 (aq X a1 l1 c1 a2 l2 c2 a3 l3 c3).toArray):=⟨H0.out.1,H0.out.2.1⟩
 have Q0:Hid (left<= 1048576/\left=left):=⟨hl,rfl⟩
 obtain ⟨⟨y0,y1,y2,y3,y4,y5,y6,y7,y8,y9,y10⟩,yf⟩:=G0.out.2.tc11;clear yf;by_cases g1:t1<= left
 rotate_left
 ·have E:Hid (aH left (ax 3 (ac (eE X.set))) = -1/\aH left (ax 11 (ac (aX X))) = -1):=by
   have h9:=Q0.out.2;have h8:=H0.out.2.2.1;refine ⟨?_,?_⟩
   ·rw [<- K1.out];unfold aH;rw [if_neg g1]
   rw [h8];unfold aH;rw [if_neg (by omega)]
  go_wp2_with fail
  refine (kX X.set a1 l1 c1 left _ (H0.out.2.2.2.1.below G0.out.1) Q0.out.1).mono ?_;rintro e w9 ⟨rfl,b9⟩;rw [E.out.1];have B9:=af G0.out.1 b9;clear b9 y0 y1 y2 y3 y4 y5 y6 y7 y8 y9 y10;go_wp2;go_ret;exact ⟨by rw [E.out.2];rfl,B9⟩
 obtain ⟨L1,hL1⟩:∃ m:Nat,m+t1=left:=⟨left-t1,by omega⟩
 have E1:Hid (aH left (ax 3 (ac (eE X.set)))=(L1:Int)):=by
  show _=_;rw [<- K1.out];unfold aH;rw [if_pos g1];omega
 have n1:¬ ((L1:Int)<0):=by omega
 have Q1:Hid (L1<= 1048576/\L1+t1=left):=by
  have h9:=Q0.out;exact ⟨by omega,by omega⟩
 clear hL1 g1;go_wp2_with fail
 refine (kX X.set a1 l1 c1 left _ (H0.out.2.2.2.1.below G0.out.1) Q0.out.1).mono ?_;rintro e w1 ⟨rfl,b1⟩;rw [E1.out];have G1:Hid (Below w.heap.size w w1/\ae w1 w.heap.size 30 (aq X a1 l1 c1 a2 l2 c2 a3 l3 c3).toArray):=⟨af G0.out.1 b1,G0.out.2.below b1⟩
 clear b1 y0 y1 y2 y3 y4 y5 y6 y7 y8 y9 y10;obtain ⟨⟨y0,y1,y2,y3,y4,y5,y6,y7,y8,y9,y10⟩,yf⟩:=G1.out.2.tc11;clear yf;by_cases g2:t2<= L1
 rotate_left
 ·have E:Hid (aH L1 (ax 2 (ac (tT X.op))) = -1/\aH left (ax 11 (ac (aX X))) = -1):=by
   have h9:=Q1.out.2;have h8:=H0.out.2.2.1;refine ⟨?_,?_⟩
   ·rw [<- K2.out];unfold aH;rw [if_neg g2]
   rw [h8];unfold aH;rw [if_neg (by omega)]
  go_wp2_with fail
  refine (lX X.op a2 l2 c2 L1 _ (H0.out.2.2.2.2.1.below G1.out.1) Q1.out.1).mono ?_;rintro e w9 ⟨rfl,b9⟩;rw [E.out.1];have B9:=af G1.out.1 b9;clear b9 y0 y1 y2 y3 y4 y5 y6 y7 y8 y9 y10;go_wp2;go_ret;exact ⟨by rw [E.out.2];rfl,B9⟩
 obtain ⟨L2,hL2⟩:∃ m:Nat,m+t2=L1:=⟨L1-t2,by omega⟩
 have E2:Hid (aH L1 (ax 2 (ac (tT X.op)))=(L2:Int)):=by
  show _=_;rw [<- K2.out];unfold aH;rw [if_pos g2];omega
 have n2:¬ ((L2:Int)<0):=by omega
 have Q2:Hid (L2<= 1048576/\L2+t1+t2=left):=by
  have h9:=Q1.out;exact ⟨by omega,by omega⟩
 clear hL2 g2;go_wp2_with fail
 refine (lX X.op a2 l2 c2 L1 _ (H0.out.2.2.2.2.1.below G1.out.1) Q1.out.1).mono ?_;rintro e w2 ⟨rfl,b2⟩;rw [E2.out];have G2:Hid (Below w.heap.size w w2/\ae w2 w.heap.size 30 (aq X a1 l1 c1 a2 l2 c2 a3 l3 c3).toArray):=⟨af G1.out.1 b2,G1.out.2.below b2⟩
 clear b2 y0 y1 y2 y3 y4 y5 y6 y7 y8 y9 y10;obtain ⟨⟨y0,y1,y2,y3,y4,y5,y6,y7,y8,y9,y10⟩,yf⟩:=G2.out.2.tc11;clear yf;by_cases g3:t3<= L2
 rotate_left
 ·have E:Hid (aH L2 ((Tr.list 17 X.nl (fun i=>ac (aN (X.lf i)))).sz) = -1/\aH left (ax 11 (ac (aX X))) = -1):=by
   have h9:=Q2.out.2;have h8:=H0.out.2.2.1;refine ⟨?_,?_⟩
   ·rw [<- K3.out];unfold aH;rw [if_neg g3]
   rw [h8];unfold aH;rw [if_neg (by omega)]
  go_wp2_with fail
  refine (ms X.nl X.lf a3 l3 c3 L2 _ (H0.out.2.2.2.2.2.below G2.out.1) Q2.out.1).mono ?_;rintro e w9 ⟨rfl,b9⟩;rw [E.out.1];have B9:=af G2.out.1 b9;clear b9 y0 y1 y2 y3 y4 y5 y6 y7 y8 y9 y10;go_wp2;go_ret;exact ⟨by rw [E.out.2];rfl,B9⟩
 obtain ⟨L3,hL3⟩:∃ m:Nat,m+t3=L2:=⟨L2-t3,by omega⟩
 have E3:Hid (aH L2 ((Tr.list 17 X.nl (fun i=>ac (aN (X.lf i)))).sz)=(L3:Int)):=by
  show _=_;rw [<- K3.out];unfold aH;rw [if_pos g3];omega
 have n3:¬ ((L3:Int)<0):=by omega
 have Q3:Hid (L3<= 1048576/\L3+t1+t2+t3=left):=by
  have h9:=Q2.out;exact ⟨by omega,by omega⟩
 clear hL3 g3;go_wp2_with fail
 refine (ms X.nl X.lf a3 l3 c3 L2 _ (H0.out.2.2.2.2.2.below G2.out.1) Q2.out.1).mono ?_;rintro e w3 ⟨rfl,b3⟩;rw [E3.out];have G3:Hid (Below w.heap.size w w3/\ae w3 w.heap.size 30 (aq X a1 l1 c1 a2 l2 c2 a3 l3 c3).toArray):=⟨af G2.out.1 b3,G2.out.2.below b3⟩
 clear b3 y0 y1 y2 y3 y4 y5 y6 y7 y8 y9 y10
 have E:Hid (aH left (ax 11 (ac (aX X)))=(L3:Int)):=by
  have h9:=Q3.out.2;have h8:=H0.out.2.2.1;show _=_;rw [h8];unfold aH;rw [if_pos (by omega)];omega
 go_wp2;go_ret;exact ⟨by rw [E.out];rfl,G3.out.1⟩
end Go.Proofs.YtohikbpolofklaaGreat
