/- Texts that the proof needs, joined: Tb4. -/
import Derived.Test.YtohikbpolofklaaGreatY36
import Derived.Test.YtohikbpolofklaaGreatY30
import Derived.Test.YtohikbpolofklaaGreatY40
set_option linter.unusedVariables false
set_option linter.unusedSimpArgs false
set_option maxHeartbeats 16000000
set_option maxRecDepth 20000
namespace Go.Proofs.YtohikbpolofklaaGreat
open Go.RowKit Go.Joins Go.Proofs.Tryz
theorem u4(Q:VQ)(A:VA)(a1:OA)(l1 c1:Nat)(a2:OA)(l2 c2:Nat)(b1:OA)(m1 d1:Nat)(b2:OA)(m2 d2:Nat)(w:World)(r1:Rd w 0 (aw Q.ws) (.slice a1 l1 c1))(r2:Rd w 0 (ai Q.bs) (.slice a2 l2 c2))(r3:Rd w 0 (aw A.ws) (.slice b1 m1 d1))(r4:Rd w 0 (ai A.bs) (.slice b2 m2 d2))(hb:cV Q)(ha:nD A):
 Calls prog 127 #[.agg (qL Q a1 l1 c1 a2 l2 c2).toArray,.agg (aL A b1 m1 d1 b2 m2 d2).toArray] w fun e w'=>e=.returned (.bool (kJ Q A))/\Below w.heap.size w w':=by
 obtain ⟨e1,_,s1⟩:=r1.int3;obtain ⟨e2,_,s2⟩:=r2.bool3;obtain ⟨e3,_,s3⟩:=r3.int3;obtain ⟨e4,h4,s4⟩:=r4.bool3;unfold kJ;rw [<- e1,<- e2,<- e3,<- e4];exact oS Q.kd A.kd A.fl Q.pl Q.n Q.wa a1 a2 l1 l2 c1 c2 Q.ws Q.bs A.pl A.n b1 b2 m1 m2 d1 d2 A.ws A.bs w e1 e2 s1 s2 hb.1 hb.2 e3 e4 s3 s4 ha.1 ha.2
theorem qp(X:VA)(a1:OA)(c1:Nat)(a2:OA)(c2:Nat)(w:World):
 Calls prog 128 #[.agg (aL X a1 X.ws.length c1 a2 X.bs.length c2).toArray] w fun e w'=>e=.returned (.bool (iX X))/\Below w.heap.size w w':=by
 obtain ⟨t0,q0⟩:∃ t,(X.kd == 0)=t:=⟨_,rfl⟩
 obtain ⟨t1,q1⟩:∃ t,(X.fl == 0)=t:=⟨_,rfl⟩
 obtain ⟨t2,q2⟩:∃ t,(X.pl == 0)=t:=⟨_,rfl⟩
 obtain ⟨t3,q3⟩:∃ t,(X.n == 0)=t:=⟨_,rfl⟩
 obtain ⟨t4,q4⟩:∃ t,((X.ws.length:Int) == 0)=t:=⟨_,rfl⟩
 obtain ⟨t5,q5⟩:∃ t,((X.bs.length:Int) == 0)=t:=⟨_,rfl⟩
 obtain ⟨W,hW⟩:∃ W,W=w.alloc (.cells (aL X a1 X.ws.length c1 a2 X.bs.length c2).toArray 162):=⟨_,rfl⟩
 have HE:Hid (iX X=(t0 && (t1 && (t2 && (t3 && (t4 && t5)))))/\Below w.heap.size w W):=⟨by unfold iX;rw [q0,q1,q2,q3,q4,q5],by rw [hW];exact aa _ _⟩
 have A0:ae W w.heap.size 162 (aL X a1 X.ws.length c1 a2 X.bs.length c2).toArray:=by rw [hW];exact ae.new _ _ _
 rw [HE.out.1];obtain ⟨⟨y0,y1,y2,y3,y4,y5⟩,yf⟩:=A0.tc6;clear yf A0;cases t0
 case false=>
  go_enter func128,ntmps128
  go_upto_region 1 with fail
  rw [<- hW];clear hW;go_wp2;go_ret;exact ⟨rfl,HE.out.2⟩
 cases t1
 case false=>
  go_enter func128,ntmps128
  go_upto_region 1 with fail
  rw [<- hW];clear hW;go_wp2;go_ret;exact ⟨rfl,HE.out.2⟩
 cases t2
 case false=>
  go_enter func128,ntmps128
  go_upto_region 1 with fail
  rw [<- hW];clear hW;go_wp2;go_ret;exact ⟨rfl,HE.out.2⟩
 cases t3
 case false=>
  go_enter func128,ntmps128
  go_upto_region 1 with fail
  rw [<- hW];clear hW;go_wp2;go_ret;exact ⟨rfl,HE.out.2⟩
 cases t4
 case false=>
  go_enter func128,ntmps128
  go_upto_region 1 with fail
  rw [<- hW];clear hW;go_wp2;go_ret;exact ⟨rfl,HE.out.2⟩
 cases t5
 case false=>
  go_enter func128,ntmps128
  go_upto_region 1 with fail
  rw [<- hW];clear hW;go_wp2;go_ret;exact ⟨rfl,HE.out.2⟩
 go_enter func128,ntmps128
 go_upto_region 1 with fail
 rw [<- hW];clear hW;go_wp2;go_ret;exact ⟨rfl,HE.out.2⟩
theorem nS(D:VD)(a1:OA)(c1:Nat)(a2:OA)(c2:Nat)(a3:OA)(c3:Nat)(a4:OA)(c4:Nat)(a5:OA)(c5:Nat)(w:World)(r1:Rd w 0 (aw D.q.ws) (.slice a1 D.q.ws.length c1))(r2:Rd w 0 (ai D.q.bs) (.slice a2 D.q.bs.length c2))(r3:Rd w 0 (.list 8 D.np (fun i=>ac (pT (D.pt i)))) (.slice a3 D.np c3))(r4:Rd w 0 (ai D.hs) (.slice a4 D.hs.length c4))(r5:Rd w 0 (.list 6 D.nt (fun i=>ac (aT (D.tl i)))) (.slice a5 D.nt c5))(hb:gS D):
 Calls prog 82 #[.agg (dL D a1 D.q.ws.length c1 a2 D.q.bs.length c2 a3 D.np c3 a4 D.hs.length c4 a5 D.nt c5).toArray] w fun e w'=>e=.returned (.bool (fq D))/\Below w.heap.size w w':=by
 obtain ⟨x0,hx0⟩:∃ x,aB D.so 0 1000000000=x:=⟨_,rfl⟩
 obtain ⟨x1,hx1⟩:∃ x,aB D.ta 0 1000000000=x:=⟨_,rfl⟩
 obtain ⟨x2,hx2⟩:∃ x,gR D.q=x:=⟨_,rfl⟩
 obtain ⟨x3,hx3⟩:∃ x,aB (D.np:Int) 1 8=x:=⟨_,rfl⟩
 have hx3':decide (1<= D.np/\D.np<= 8)=x3:=by rw [<- hx3];unfold aB;exact decide_eq_decide.2 (by omega)
 obtain ⟨G,hG⟩:∃ G,G=w.heap.size:=⟨_,rfl⟩
 obtain ⟨W,hW⟩:∃ W,W=w.alloc (.cells (dL D a1 D.q.ws.length c1 a2 D.q.bs.length c2 a3 D.np c3 a4 D.hs.length c4 a5 D.nt c5).toArray 122):=⟨_,rfl⟩
 have bW:Below w.heap.size w W:=by rw [hW];exact aa _ _
 have HE:Hid (fq D=(x0 && (x1 && (x2 && (x3 && (aO (fun i=>cr (D.pt i)) D.np && (decide (D.hs.length=D.np) && (decide (D.nt=D.np) && (aO (ec D) D.np && decide (0<cN D.hs D.hs.length)))))))))/\aB D.so 0 1000000000=x0/\aB D.ta 0 1000000000=x1/\gR D.q=x2/\aB (D.np:Int) 1 8=x3/\gS D/\Below w.heap.size w W/\ae W G 122 (dL D a1 D.q.ws.length c1 a2 D.q.bs.length c2 a3 D.np c3 a4 D.hs.length c4 a5 D.nt c5).toArray):=⟨by unfold fq;rw [hx0,hx1,hx2,hx3'],hx0,hx1,hx2,hx3,hb,bW,by rw [hW,hG];exact ae.new _ _ _⟩
 have HR:Hid (Rd W 0 (aw D.q.ws) (.slice a1 D.q.ws.length c1)/\Rd W 0 (ai D.q.bs) (.slice a2 D.q.bs.length c2)/\Rd W 0 (.list 8 D.np (fun i=>ac (pT (D.pt i)))) (.slice a3 D.np c3)/\Rd W 0 (ai D.hs) (.slice a4 D.hs.length c4)/\Rd W 0 (.list 6 D.nt (fun i=>ac (aT (D.tl i)))) (.slice a5 D.nt c5)):=⟨r1.below bW,r2.below bW,r3.below bW,r4.below bW,r5.below bW⟩
 rw [HE.out.1];obtain ⟨⟨y0,y1,y2,y3,y4,y5,y6,y7,y8,y9,y10,y11,y12⟩,yf⟩:=HE.out.2.2.2.2.2.2.2.tc13;have hn1:=hb.2.1;have hn2:=hb.2.2.1;have hn3:=hb.2.2.2.1;clear hx0 hx1 hx2 hx3 hx3' hb r1 r2 r3 r4 r5 bW yf;go_enter func82,ntmps82
 go_upto_region 1 with fail
 rw [<- hW,<- hG];clear hW hG;go_wp2_with fail
 refine (aI _ _ _ _ _ HE.out.2.1).mono ?_;rintro e w1 ⟨rfl,hw⟩;have hw:=hw.symm;subst hw;cases x0
 case false=>
  go_wp2;go_ret;exact ⟨rfl,HE.out.2.2.2.2.2.2.1⟩
 go_wp2_with fail
 refine (aI _ _ _ _ _ HE.out.2.2.1).mono ?_;rintro e w1 ⟨rfl,hw⟩;have hw:=hw.symm;subst hw;cases x1
 case false=>
  go_wp2;go_ret;exact ⟨rfl,HE.out.2.2.2.2.2.2.1⟩
 go_wp2_with fail
 refine (pG D.q a1 _ c1 a2 _ c2 _ HR.out.1 HR.out.2.1 HE.out.2.2.2.2.2.1.1).mono ?_;rintro e w1 ⟨rfl,b1⟩;rw [HE.out.2.2.2.1];have HB:Hid (Below W.heap.size W w1/\Below w.heap.size w w1):=⟨b1,af HE.out.2.2.2.2.2.2.1 b1⟩
 clear b1 y0 y1 y2 y3 y4 y5 y6 y7 y8 y9 y10 y11 y12;cases x2
 case false=>
  go_wp2;go_ret;exact ⟨rfl,HB.out.2⟩
 obtain ⟨⟨y0,y1,y2,y3,y4,y5,y6,y7,y8,y9,y10,y11,y12⟩,yf⟩:=(HE.out.2.2.2.2.2.2.2.below HB.out.1).tc13;clear yf;go_wp2_with fail
 refine (aI _ _ _ _ _ HE.out.2.2.2.2.1).mono ?_;rintro e w2 ⟨rfl,hw⟩;have hw:=hw.symm;subst hw;cases x3
 case false=>
  go_wp2;go_ret;exact ⟨rfl,HB.out.2⟩
 by_cases e1:D.hs.length=D.np
 ·have f1:((D.hs.length:Int) != (D.np:Int))=false:=by simp [e1]
  by_cases e2:D.nt=D.np
  ·have f2:((D.nt:Int) != (D.np:Int))=false:=by simp [e2]
   have HT:Hid (decide (D.hs.length=D.np)=true/\decide (D.nt=D.np)=true/\D.hs.length=D.np/\D.nt=D.np):=⟨decide_eq_true e1,decide_eq_true e2,e1,e2⟩
   clear e1 e2;go_wp2;clear y0 y1 y2 y3 y4 y5 y6 y7 y8 y9 y10 y11 y12 f1 f2;go_loopw [3,4] (fun al i wr=>∃ k:Nat,k<= D.np/\i=Vi k/\al=.bool (aO (fun i=>D.hs.getD i false) k)/\aO (fun i=>cr (D.pt i)) k=true/\aO (ec D) k=true/\Below w1.heap.size w1 wr) (fun _ i _=>D.np-(intOf i).toNat)
   case atStart=>exact ⟨0,Nat.zero_le _,rfl,rfl,rfl,rfl,Br⟩
   case round=>
    obtain ⟨k,hk,rfl,rfl,hall,hall2,hbl⟩:=hrel;obtain ⟨al,hal⟩:∃ x,aO (fun i=>D.hs.getD i false) k=x:=⟨_,rfl⟩
    rw [hal];have HL:Hid (aO (fun i=>D.hs.getD i false) k=al):=hal;clear hal;obtain ⟨⟨y0,y1,y2,y3,y4,y5,y6,y7,y8,y9,y10,y11,y12⟩,yf⟩:=((HE.out.2.2.2.2.2.2.2.below HB.out.1).below hbl).tc13;clear yf;have HB2:Hid (Below W.heap.size W wr/\Below w.heap.size w wr):=⟨af HB.out.1 hbl,af HB.out.2 hbl⟩
    by_cases hlt:k<D.np
    ·have hi:(k:Int)<(D.np:Int):=by omega
     have hi4:(k:Int)<(D.hs.length:Int):=by have:=HT.out.2.2.1;omega
     have hi5:(k:Int)<(D.nt:Int):=by have:=HT.out.2.2;omega
     obtain ⟨b4,o4,rfl,hb4,d0⟩:=(HR.out.2.2.2.1.below HB2.out.1).bit (k:=k) (n:=D.np) (by have:=HT.out.2.2.1;omega);obtain ⟨b3,o3,vs,rfl,_,hb3,hlen,hr3,hrd⟩:=(HR.out.2.2.1.below HB2.out.1).at (k:=k) hlt;obtain ⟨p1,k1,p2,k2,rfl,rp1,rp2⟩:=VP.cells hrd hlen;clear hlen hrd;obtain ⟨b5,o5,vs,rfl,_,hb5,hlen,hr5,hrd⟩:=(HR.out.2.2.2.2.below HB2.out.1).at (k:=k) (by have:=HT.out.2.2;omega);obtain ⟨t1,j1,t2,j2,rfl,rt1,rt2⟩:=VA.cells hrd hlen;clear hlen hrd;obtain ⟨hs,hhs⟩:∃ x,D.hs.getD k false=x:=⟨_,rfl⟩
     rw [hhs] at d0;obtain ⟨x,hx⟩:∃ x,ec D k=x:=⟨_,rfl⟩
     obtain ⟨xp,hxp⟩:∃ x,cr (D.pt k)=x:=⟨_,rfl⟩
     have hbq:=HE.out.2.2.2.2.2.1.2.2.2.2.1 k hlt;have hba:=HE.out.2.2.2.2.2.1.2.2.2.2.2 k (by have:=HT.out.2.2;omega);have HA:Hid (aO (fun i=>cr (D.pt i)) k=true/\aO (ec D) k=true/\cr (D.pt k)=xp/\ec D k=x/\D.hs.getD k false=hs/\Below w1.heap.size w1 wr):=⟨hall,hall2,hxp,hx,hhs,hbl⟩
     have c4':wr.rangeAt b4 (o4+k) [.bool hs]:=fun j v hv=>by
      match j,hv with
      |0,hv=>simp at hv;subst hv;exact d0
      |j+1,hv=>simp at hv
     have hBk:=HE.out.2.2.2.2.2.2.2.below HB2.out.1;clear hall hall2 hbl d0;have hx2:hs=true->kJ (D.pt k).q (D.tl k)=x:=fun e=>by rw [<- hx];unfold ec;rw [hhs,e];rfl
     have hx3:hs=false->iX (D.tl k)=x:=fun e=>by rw [<- hx];unfold ec;rw [hhs,e];rfl
     have HK:Hid (ae wr G 122 (dL D a1 D.q.ws.length c1 a2 D.q.bs.length c2 (some ⟨b3,o3,none⟩) D.np c3 (some ⟨b4,o4,none⟩) D.hs.length c4 (some ⟨b5,o5,none⟩) D.nt c5).toArray/\b3<wr.heap.size/\wr.rangeAt b3 (o3+k*8) (pL (D.pt k) p1 (D.pt k).q.ws.length k1 p2 (D.pt k).q.bs.length k2)/\b5<wr.heap.size/\wr.rangeAt b5 (o5+k*6) (aL (D.tl k) t1 (D.tl k).ws.length j1 t2 (D.tl k).bs.length j2)/\b4<wr.heap.size/\wr.rangeAt b4 (o4+k) [.bool hs]/\Rd wr 0 (aw (D.pt k).q.ws) (.slice p1 (D.pt k).q.ws.length k1)/\Rd wr 0 (ai (D.pt k).q.bs) (.slice p2 (D.pt k).q.bs.length k2)/\Rd wr 0 (aw (D.tl k).ws) (.slice t1 (D.tl k).ws.length j1)/\Rd wr 0 (ai (D.tl k).bs) (.slice t2 (D.tl k).bs.length j2)/\cV (D.pt k).q/\nD (D.tl k)/\cr (D.pt k)=xp/\(hs=true->kJ (D.pt k).q (D.tl k)=x)/\(hs=false->iX (D.tl k)=x)):=⟨hBk,hb3,hr3,hb5,hr5,hb4,c4',rp1,rp2,rt1,rt2,hbq,hba,hxp,hx2,hx3⟩
     clear hx hx2 hx3 hhs hb3 hr3 hb5 hr5 hb4 c4' rp1 rp2 rt1 rt2 hbq hba hxp hBk;go_upto_region 7 with fail
     clear y0 y1 y2 y3 y4 y5 y6 y7 y8 y9 y10 y11 y12;refine wp_region_any (by kernel_rfl) ?_
     refine bw (fun u=>Below wr.heap.size wr u) (fun i v u=>match i with
      |0=>v=Vp G 10
      |1=>v=.slice (some ⟨b3,o3,none⟩) D.np c3
      |2=>v=Vi (k:Int)
      |3=>v=Vp b3 (o3+k*8)
      |4=>v=.agg (pL (D.pt k) p1 (D.pt k).q.ws.length k1 p2 (D.pt k).q.bs.length k2).toArray
      |5=>v=.bool xp
      |6=>v=.bool (!xp)
      |7=>v=.bool (!xp)
      |8=>v=cond xp (Vp G 11) undef
      |9=>v=cond xp (.slice (some ⟨b4,o4,none⟩) D.hs.length c4) undef
      |10=>v=cond xp (Vi (k:Int)) undef
      |11=>v=cond xp (Vp b4 (o4+k)) undef
      |12=>v=cond xp (.bool hs) undef
      |13=>v=cond xp (.bool hs) undef
      |14=>v=cond xp (cond hs (Vp G 10) undef) undef
      |15=>v=cond xp (cond hs (.slice (some ⟨b3,o3,none⟩) D.np c3) undef) undef
      |16=>v=cond xp (cond hs (Vi (k:Int)) undef) undef
      |17=>v=cond xp (cond hs (Vp b3 (o3+k*8)) undef) undef
      |18=>v=cond xp (cond hs (Vp b3 (o3+k*8+2)) undef) undef
      |19=>v=cond xp (cond hs (.agg ([Vi (D.pt k).q.kd,Vi (D.pt k).q.pl,Vi (D.pt k).q.n,.slice p1 ((D.pt k).q.ws.length) k1,.slice p2 ((D.pt k).q.bs.length) k2,Vi (D.pt k).q.wa]).toArray) undef) undef
      |20=>v=cond xp (cond hs (Vp G 12) undef) undef
      |21=>v=cond xp (cond hs (.slice (some ⟨b5,o5,none⟩) D.nt c5) undef) undef
      |22=>v=cond xp (cond hs (Vi (k:Int)) undef) undef
      |23=>v=cond xp (cond hs (Vp b5 (o5+k*6)) undef) undef
      |24=>v=cond xp (cond hs (.agg (aL (D.tl k) t1 (D.tl k).ws.length j1 t2 (D.tl k).bs.length j2).toArray) undef) undef
      |25=>v=cond xp (cond hs (.bool x) undef) undef
      |26=>v=cond xp (cond hs (.bool (!x)) undef) undef
      |27=>v=cond xp (cond hs (.bool (!x)) (.bool false)) undef
      |28=>v=cond xp (cond hs (.bool (!x)) (.bool false)) (.bool true)
      |29=>v=cond xp (cond hs (.bool (!x)) (.bool false)) (.bool true)
      |30=>v=cond xp (cond hs (cond x (Vp G 11) undef) (Vp G 11)) undef
      |31=>v=cond xp (cond hs (cond x (.slice (some ⟨b4,o4,none⟩) D.hs.length c4) undef) (.slice (some ⟨b4,o4,none⟩) D.hs.length c4)) undef
      |32=>v=cond xp (cond hs (cond x (Vi (k:Int)) undef) (Vi (k:Int))) undef
      |33=>v=cond xp (cond hs (cond x (Vp b4 (o4+k)) undef) (Vp b4 (o4+k))) undef
      |34=>v=cond xp (cond hs (cond x (.bool true) undef) (.bool false)) undef
      |35=>v=cond xp (cond hs (cond x (.bool false) undef) (.bool true)) undef
      |36=>v=cond xp (cond hs (cond x (.bool false) undef) (.bool true)) undef
      |37=>v=cond xp (cond hs undef (Vp G 12)) undef
      |38=>v=cond xp (cond hs undef (.slice (some ⟨b5,o5,none⟩) D.nt c5)) undef
      |39=>v=cond xp (cond hs undef (Vi (k:Int))) undef
      |40=>v=cond xp (cond hs undef (Vp b5 (o5+k*6))) undef
      |41=>v=cond xp (cond hs undef (.agg (aL (D.tl k) t1 (D.tl k).ws.length j1 t2 (D.tl k).bs.length j2).toArray)) undef
      |42=>v=cond xp (cond hs undef (.bool x)) undef
      |43=>v=cond xp (cond hs undef (.bool (!x))) undef
      |44=>v=cond xp (cond hs (cond x (.bool false) undef) (.bool (!x))) undef
      |45=>v=cond xp (.bool (!x)) (.bool true)
      |_=>v=undef) (by kernel_rfl) (by kernel_rfl) (fun _ _ _ _ h _=>h) (by first|exact Br|exact Br.drew) ?_ ?_ _ _ rfl (by decide) (fun i=>by simp [Array.getD];try (split <;> rfl))
     ·intro vs u hR hall
      simp only [bI];cases xp
      ·have e45:vs 45=.bool true:=hall 45 (by simp)
       rw [e45];clear hall e45;have HF:Hid (aO (fun i=>cr (D.pt i)) D.np=false/\Below w.heap.size w u):=⟨cT hlt HA.out.2.2.1,af HB2.out.2 hR⟩
       clear HK HA hR;go_simp;go_wp2;go_ret;exact ⟨by rw [HF.out.1];rfl,HF.out.2⟩
      cases hs
      ·cases x
       ·have e45:vs 45=.bool true:=hall 45 (by simp)
        rw [e45];clear hall e45;have HF:Hid (aO (ec D) D.np=false/\Below w.heap.size w u):=⟨cT hlt HA.out.2.2.2.1,af HB2.out.2 hR⟩
        clear HK HA hR;go_simp;go_wp2;go_ret;exact ⟨by rw [HF.out.1];simp,HF.out.2⟩
       have e45:vs 45=.bool false:=hall 45 (by simp);rw [e45];clear hall e45;have HF:Hid (aO (fun i=>cr (D.pt i)) (k+1)=true/\aO (ec D) (k+1)=true/\aO (fun i=>D.hs.getD i false) (k+1)=(al && false)/\Below w1.heap.size w1 u):=⟨cL HA.out.1 HA.out.2.2.1,cL HA.out.2.1 HA.out.2.2.2.1,by show (aO (fun i=>D.hs.getD i false) k && D.hs.getD k false)=_;rw [HL.out,HA.out.2.2.2.2.1],af HA.out.2.2.2.2.2 hR⟩
       obtain ⟨⟨y0,y1,y2,y3,y4,y5,y6,y7,y8,y9,y10,y11,y12⟩,yf⟩:=(HK.out.1.below hR).tc13;clear yf;have d0:u.cell? ⟨b4,o4+k,none⟩=some (.bool false):=(ay HK.out.2.2.2.2.2.2.1 HK.out.2.2.2.2.2.1 hR) 0 _ rfl;clear HK HA hR;go_simp;cases al
       all_goals (
        go_wp2;go_roundw
        case rel=>exact ⟨k+1,by omega,by go_num,by rw [HF.out.2.2.1];rfl,HF.out.1,HF.out.2.1,HF.out.2.2.2⟩
        case measure=>simp [intOf];omega)
      cases x
      ·have e45:vs 45=.bool true:=hall 45 (by simp)
       rw [e45];clear hall e45;have HF:Hid (aO (ec D) D.np=false/\Below w.heap.size w u):=⟨cT hlt HA.out.2.2.2.1,af HB2.out.2 hR⟩
       clear HK HA hR;go_simp;go_wp2;go_ret;exact ⟨by rw [HF.out.1];simp,HF.out.2⟩
      have e45:vs 45=.bool false:=hall 45 (by simp);rw [e45];clear hall e45;have HF:Hid (aO (fun i=>cr (D.pt i)) (k+1)=true/\aO (ec D) (k+1)=true/\aO (fun i=>D.hs.getD i false) (k+1)=(al && true)/\Below w1.heap.size w1 u):=⟨cL HA.out.1 HA.out.2.2.1,cL HA.out.2.1 HA.out.2.2.2.1,by show (aO (fun i=>D.hs.getD i false) k && D.hs.getD k false)=_;rw [HL.out,HA.out.2.2.2.2.1],af HA.out.2.2.2.2.2 hR⟩
      obtain ⟨⟨y0,y1,y2,y3,y4,y5,y6,y7,y8,y9,y10,y11,y12⟩,yf⟩:=(HK.out.1.below hR).tc13;clear yf;have d0:u.cell? ⟨b4,o4+k,none⟩=some (.bool true):=(ay HK.out.2.2.2.2.2.2.1 HK.out.2.2.2.2.2.1 hR) 0 _ rfl;clear HK HA hR;go_simp;cases al
      all_goals (
       go_wp2;go_roundw
       case rel=>exact ⟨k+1,by omega,by go_num,by rw [HF.out.2.2.1];rfl,HF.out.1,HF.out.2.1,HF.out.2.2.2⟩
       case measure=>simp [intOf];omega)
     intro u i o ρ hR ho hρ hc hf hd
     have hi:i<46:=by
      have:=(Array.getElem?_eq_some_iff.1 ho).1;simpa using this
     obtain rfl|rfl|rfl|rfl|rfl|rfl|rfl|rfl|rfl|rfl|rfl|rfl|rfl|rfl|rfl|rfl|rfl|rfl|rfl|rfl|rfl|rfl|rfl|rfl|rfl|rfl|rfl|rfl|rfl|rfl|rfl|rfl|rfl|rfl|rfl|rfl|rfl|rfl|rfl|rfl|rfl|rfl|rfl|rfl|rfl|rfl:i=0\/i=1\/i=2\/i=3\/i=4\/i=5\/i=6\/i=7\/i=8\/i=9\/i=10\/i=11\/i=12\/i=13\/i=14\/i=15\/i=16\/i=17\/i=18\/i=19\/i=20\/i=21\/i=22\/i=23\/i=24\/i=25\/i=26\/i=27\/i=28\/i=29\/i=30\/i=31\/i=32\/i=33\/i=34\/i=35\/i=36\/i=37\/i=38\/i=39\/i=40\/i=41\/i=42\/i=43\/i=44\/i=45:=by omega
     all_goals (simp only [List.getElem?_toArray,List.getElem?_cons_zero,List.getElem?_cons_succ,Option.some.injEq] at ho;subst ho)
     ·exact yr (ao rfl (hρ 1 (by kernel_rfl)) (by go_simp)) rfl hR
     ·have y9:=(HK.out.1.below hR).rng 10 _ rfl
      exact yr (ah rfl (dq hd 0 53) (by go_simp)) rfl hR
     ·exact yr rfl (hρ 4 (by kernel_rfl)) hR
     ·exact yr (au rfl (dq hd 1 54) (dq hd 2 55) (by go_simp)) rfl hR
     ·have h3:_=_:=dq hd 3 56
      have hr:(Instr.loadAt 128 (Vp b3 (o3+k*8))).run prog u=.ok (.agg (pL (D.pt k) p1 (D.pt k).q.ws.length k1 p2 (D.pt k).q.bs.length k2).toArray) u:=run_loadAt_mid u b3 (o3+k*8) 128 (pL (D.pt k) p1 (D.pt k).q.ws.length k1 p2 (D.pt k).q.bs.length k2) _ (ay HK.out.2.2.1 HK.out.2.1 hR) underlying128 rfl (by kernel_rfl);exact yr (ah rfl h3 hr) rfl hR
     ·have h4:_=_:=dq hd 4 57
      refine .inl ⟨rfl,.inr ⟨_,_,bv rfl (hf _) (args:=#[.agg (pL (D.pt k) p1 (D.pt k).q.ws.length k1 p2 (D.pt k).q.bs.length k2).toArray]) (by simp [h4]) (by kernel_rfl),?_⟩⟩;refine (nK (D.pt k) p1 k1 p2 k2 _ (HK.out.2.2.2.2.2.2.2.1.below hR) (HK.out.2.2.2.2.2.2.2.2.1.below hR) HK.out.2.2.2.2.2.2.2.2.2.2.2.1).mono ?_;rintro e u' ⟨he,b'⟩;exact ⟨_,he.trans (by rw [HK.out.2.2.2.2.2.2.2.2.2.2.2.2.2.1] <;> rfl),rfl,af hR b',b'⟩
     ·exact yr (bT rfl (dq hd 5 58) (by go_simp)) rfl hR
     ·exact yr rfl (dq hd 6 59) hR
     ·cases xp
      ·exact aj (.bool true) hd 7 60
      exact yq hd 7 60 (ao rfl (hρ 1 (by kernel_rfl)) (by go_simp)) rfl hR
     ·cases xp
      ·exact aj (.bool true) hd 7 60
      have y9:=(HK.out.1.below hR).rng 11 _ rfl;exact yq hd 7 60 (ah rfl (dq hd 8 61) (by go_simp)) rfl hR
     ·cases xp
      ·exact aj (.bool true) hd 7 60
      exact yq hd 7 60 rfl (hρ 4 (by kernel_rfl)) hR
     ·cases xp
      ·exact aj (.bool true) hd 7 60
      exact yq hd 7 60 (au rfl (dq hd 9 62) (dq hd 10 63) (by go_simp)) rfl hR
     ·cases xp
      ·exact aj (.bool true) hd 7 60
      cases hs
      ·have y9:u.cell? ⟨b4,o4+k,none⟩=some (.bool false):=(ay HK.out.2.2.2.2.2.2.1 HK.out.2.2.2.2.2.1 hR) 0 _ rfl
       exact yq hd 7 60 (ah rfl (dq hd 11 64) (by go_simp)) rfl hR
      have y9:u.cell? ⟨b4,o4+k,none⟩=some (.bool true):=(ay HK.out.2.2.2.2.2.2.1 HK.out.2.2.2.2.2.1 hR) 0 _ rfl;exact yq hd 7 60 (ah rfl (dq hd 11 64) (by go_simp)) rfl hR
     ·cases xp
      ·exact aj (.bool true) hd 7 60
      exact yq hd 7 60 rfl (dq hd 12 65) hR
     ·cases xp
      ·exact aj undef hd 13 66
      cases hs
      ·exact aj (.bool false) hd 13 66
      exact yq hd 13 66 (ao rfl (hρ 1 (by kernel_rfl)) (by go_simp)) rfl hR
     ·cases xp
      ·exact aj undef hd 13 66
      cases hs
      ·exact aj (.bool false) hd 13 66
      have y9:=(HK.out.1.below hR).rng 10 _ rfl;exact yq hd 13 66 (ah rfl (dq hd 14 67) (by go_simp)) rfl hR
     ·cases xp
      ·exact aj undef hd 13 66
      cases hs
      ·exact aj (.bool false) hd 13 66
      exact yq hd 13 66 rfl (hρ 4 (by kernel_rfl)) hR
     ·cases xp
      ·exact aj undef hd 13 66
      cases hs
      ·exact aj (.bool false) hd 13 66
      exact yq hd 13 66 (au rfl (dq hd 15 68) (dq hd 16 69) (by go_simp)) rfl hR
     ·cases xp
      ·exact aj undef hd 13 66
      cases hs
      ·exact aj (.bool false) hd 13 66
      exact yq hd 13 66 (ao rfl (dq hd 17 70) (by go_simp)) rfl hR
     ·cases xp
      ·exact aj undef hd 13 66
      cases hs
      ·exact aj (.bool false) hd 13 66
      have h18:_=_:=dq hd 18 71;have hr:(Instr.loadAt 86 (Vp b3 (o3+k*8+2))).run prog u=.ok (.agg ([Vi (D.pt k).q.kd,Vi (D.pt k).q.pl,Vi (D.pt k).q.n,.slice p1 ((D.pt k).q.ws.length) k1,.slice p2 ((D.pt k).q.bs.length) k2,Vi (D.pt k).q.wa]).toArray) u:=run_loadAt_mid u b3 (o3+k*8+2) 86 ([Vi (D.pt k).q.kd,Vi (D.pt k).q.pl,Vi (D.pt k).q.n,.slice p1 ((D.pt k).q.ws.length) k1,.slice p2 ((D.pt k).q.bs.length) k2,Vi (D.pt k).q.wa]) _ (er [Vi (D.pt k).p,Vi (D.pt k).t] [Vi (D.pt k).q.kd,Vi (D.pt k).q.pl,Vi (D.pt k).q.n,.slice p1 ((D.pt k).q.ws.length) k1,.slice p2 ((D.pt k).q.bs.length) k2,Vi (D.pt k).q.wa] [] (ay HK.out.2.2.1 HK.out.2.1 hR) rfl) underlying86 rfl (by kernel_rfl);exact yq hd 13 66 (ah rfl h18 hr) rfl hR
     ·cases xp
      ·exact aj undef hd 13 66
      cases hs
      ·exact aj (.bool false) hd 13 66
      exact yq hd 13 66 (ao rfl (hρ 1 (by kernel_rfl)) (by go_simp)) rfl hR
     ·cases xp
      ·exact aj undef hd 13 66
      cases hs
      ·exact aj (.bool false) hd 13 66
      have y9:=(HK.out.1.below hR).rng 12 _ rfl;exact yq hd 13 66 (ah rfl (dq hd 20 73) (by go_simp)) rfl hR
     ·cases xp
      ·exact aj undef hd 13 66
      cases hs
      ·exact aj (.bool false) hd 13 66
      exact yq hd 13 66 rfl (hρ 4 (by kernel_rfl)) hR
     ·cases xp
      ·exact aj undef hd 13 66
      cases hs
      ·exact aj (.bool false) hd 13 66
      exact yq hd 13 66 (au rfl (dq hd 21 74) (dq hd 22 75) (by go_simp)) rfl hR
     ·cases xp
      ·exact aj undef hd 13 66
      cases hs
      ·exact aj (.bool false) hd 13 66
      have h23:_=_:=dq hd 23 76;have hr:(Instr.loadAt 162 (Vp b5 (o5+k*6))).run prog u=.ok (.agg (aL (D.tl k) t1 (D.tl k).ws.length j1 t2 (D.tl k).bs.length j2).toArray) u:=run_loadAt_mid u b5 (o5+k*6) 162 (aL (D.tl k) t1 (D.tl k).ws.length j1 t2 (D.tl k).bs.length j2) _ (ay HK.out.2.2.2.2.1 HK.out.2.2.2.1 hR) underlying162 rfl (by kernel_rfl);exact yq hd 13 66 (ah rfl h23 hr) rfl hR
     ·cases xp
      ·exact aj undef hd 13 66
      cases hs
      ·exact aj (.bool false) hd 13 66
      have g13:ρ (.tmp 66)=.bool true:=gq hd 13 66;have h19:_=_:=dq hd 19 72;have h24:_=_:=dq hd 24 77;refine .inl ⟨(by show (match ρ (.tmp 66) with| .bool b=>b == true|_=>false)=true;rw [g13];rfl),.inr ⟨_,_,bv rfl (hf _) (args:=#[.agg ([Vi (D.pt k).q.kd,Vi (D.pt k).q.pl,Vi (D.pt k).q.n,.slice p1 ((D.pt k).q.ws.length) k1,.slice p2 ((D.pt k).q.bs.length) k2,Vi (D.pt k).q.wa]).toArray,.agg (aL (D.tl k) t1 (D.tl k).ws.length j1 t2 (D.tl k).bs.length j2).toArray]) (by simp [h19,h24]) (by kernel_rfl),?_⟩⟩;refine (u4 (D.pt k).q (D.tl k) p1 _ k1 p2 _ k2 t1 _ j1 t2 _ j2 _ (HK.out.2.2.2.2.2.2.2.1.below hR) (HK.out.2.2.2.2.2.2.2.2.1.below hR) (HK.out.2.2.2.2.2.2.2.2.2.1.below hR) (HK.out.2.2.2.2.2.2.2.2.2.2.1.below hR) HK.out.2.2.2.2.2.2.2.2.2.2.2.1 HK.out.2.2.2.2.2.2.2.2.2.2.2.2.1).mono ?_;rintro e u' ⟨he,b'⟩;exact ⟨_,he.trans (by rw [HK.out.2.2.2.2.2.2.2.2.2.2.2.2.2.2.1 rfl] <;> rfl),rfl,af hR b',b'⟩
     ·cases xp
      ·exact aj undef hd 13 66
      cases hs
      ·exact aj (.bool false) hd 13 66
      exact yq hd 13 66 (bT rfl (dq hd 25 78) (by go_simp)) rfl hR
     ·cases xp
      ·exact aj (.bool true) hd 7 60
      cases hs
      ·exact yq hd 7 60 (aC rfl (dq hd 13 66)) (by simpa using hc _) hR
      exact yq hd 7 60 (aC rfl (dq hd 13 66)) (by simpa using (dq hd 26 79)) hR
     ·cases xp
      ·exact yr (aC rfl (dq hd 7 60)) (by simpa using hc _) hR
      exact yr (aC rfl (dq hd 7 60)) (by simpa using (dq hd 27 80)) hR
     ·exact yr rfl (dq hd 28 81) hR
     ·cases xp
      ·exact aj (.bool true) hd 29 82
      cases hs
      ·exact yq hd 29 82 (ao rfl (hρ 1 (by kernel_rfl)) (by go_simp)) rfl hR
      cases x
      ·exact aj (.bool true) hd 29 82
      exact yq hd 29 82 (ao rfl (hρ 1 (by kernel_rfl)) (by go_simp)) rfl hR
     ·cases xp
      ·exact aj (.bool true) hd 29 82
      cases hs
      ·have y9:=(HK.out.1.below hR).rng 11 _ rfl
       exact yq hd 29 82 (ah rfl (dq hd 30 83) (by go_simp)) rfl hR
      cases x
      ·exact aj (.bool true) hd 29 82
      have y9:=(HK.out.1.below hR).rng 11 _ rfl;exact yq hd 29 82 (ah rfl (dq hd 30 83) (by go_simp)) rfl hR
     ·cases xp
      ·exact aj (.bool true) hd 29 82
      cases hs
      ·exact yq hd 29 82 rfl (hρ 4 (by kernel_rfl)) hR
      cases x
      ·exact aj (.bool true) hd 29 82
      exact yq hd 29 82 rfl (hρ 4 (by kernel_rfl)) hR
     ·cases xp
      ·exact aj (.bool true) hd 29 82
      cases hs
      ·exact yq hd 29 82 (au rfl (dq hd 31 84) (dq hd 32 85) (by go_simp)) rfl hR
      cases x
      ·exact aj (.bool true) hd 29 82
      exact yq hd 29 82 (au rfl (dq hd 31 84) (dq hd 32 85) (by go_simp)) rfl hR
     ·cases xp
      ·exact aj (.bool true) hd 29 82
      cases hs
      ·have y9:u.cell? ⟨b4,o4+k,none⟩=some (.bool false):=(ay HK.out.2.2.2.2.2.2.1 HK.out.2.2.2.2.2.1 hR) 0 _ rfl
       exact yq hd 29 82 (ah rfl (dq hd 33 86) (by go_simp)) rfl hR
      cases x
      ·exact aj (.bool true) hd 29 82
      have y9:u.cell? ⟨b4,o4+k,none⟩=some (.bool true):=(ay HK.out.2.2.2.2.2.2.1 HK.out.2.2.2.2.2.1 hR) 0 _ rfl;exact yq hd 29 82 (ah rfl (dq hd 33 86) (by go_simp)) rfl hR
     ·cases xp
      ·exact aj (.bool true) hd 29 82
      cases hs
      ·exact yq hd 29 82 (bT rfl (dq hd 34 87) (by go_simp)) rfl hR
      cases x
      ·exact aj (.bool true) hd 29 82
      exact yq hd 29 82 (bT rfl (dq hd 34 87) (by go_simp)) rfl hR
     ·cases xp
      ·exact aj (.bool true) hd 29 82
      cases hs
      ·exact yq hd 29 82 rfl (dq hd 35 88) hR
      cases x
      ·exact aj (.bool true) hd 29 82
      exact yq hd 29 82 rfl (dq hd 35 88) hR
     ·cases xp
      ·exact aj undef hd 36 89
      cases hs
      ·exact yq hd 36 89 (ao rfl (hρ 1 (by kernel_rfl)) (by go_simp)) rfl hR
      cases x
      ·exact aj undef hd 36 89
      exact aj (.bool false) hd 36 89
     ·cases xp
      ·exact aj undef hd 36 89
      cases hs
      ·have y9:=(HK.out.1.below hR).rng 12 _ rfl
       exact yq hd 36 89 (ah rfl (dq hd 37 90) (by go_simp)) rfl hR
      cases x
      ·exact aj undef hd 36 89
      exact aj (.bool false) hd 36 89
     ·cases xp
      ·exact aj undef hd 36 89
      cases hs
      ·exact yq hd 36 89 rfl (hρ 4 (by kernel_rfl)) hR
      cases x
      ·exact aj undef hd 36 89
      exact aj (.bool false) hd 36 89
     ·cases xp
      ·exact aj undef hd 36 89
      cases hs
      ·exact yq hd 36 89 (au rfl (dq hd 38 91) (dq hd 39 92) (by go_simp)) rfl hR
      cases x
      ·exact aj undef hd 36 89
      exact aj (.bool false) hd 36 89
     ·cases xp
      ·exact aj undef hd 36 89
      cases hs
      ·have h40:_=_:=dq hd 40 93
       have hr:(Instr.loadAt 162 (Vp b5 (o5+k*6))).run prog u=.ok (.agg (aL (D.tl k) t1 (D.tl k).ws.length j1 t2 (D.tl k).bs.length j2).toArray) u:=run_loadAt_mid u b5 (o5+k*6) 162 (aL (D.tl k) t1 (D.tl k).ws.length j1 t2 (D.tl k).bs.length j2) _ (ay HK.out.2.2.2.2.1 HK.out.2.2.2.1 hR) underlying162 rfl (by kernel_rfl);exact yq hd 36 89 (ah rfl h40 hr) rfl hR
      cases x
      ·exact aj undef hd 36 89
      exact aj (.bool false) hd 36 89
     ·cases xp
      ·exact aj undef hd 36 89
      cases hs
      ·have g36:ρ (.tmp 89)=.bool true:=gq hd 36 89
       have h41:_=_:=dq hd 41 94;refine .inl ⟨(by show (match ρ (.tmp 89) with| .bool b=>b == true|_=>false)=true;rw [g36];rfl),.inr ⟨_,_,bv rfl (hf _) (args:=#[.agg (aL (D.tl k) t1 (D.tl k).ws.length j1 t2 (D.tl k).bs.length j2).toArray]) (by simp [h41]) (by kernel_rfl),?_⟩⟩;refine (qp (D.tl k) t1 j1 t2 j2 _).mono ?_;rintro e u' ⟨he,b'⟩;exact ⟨_,he.trans (by rw [HK.out.2.2.2.2.2.2.2.2.2.2.2.2.2.2.2 rfl] <;> rfl),rfl,af hR b',b'⟩
      cases x
      ·exact aj undef hd 36 89
      exact aj (.bool false) hd 36 89
     ·cases xp
      ·exact aj undef hd 36 89
      cases hs
      ·exact yq hd 36 89 (bT rfl (dq hd 42 95) (by go_simp)) rfl hR
      cases x
      ·exact aj undef hd 36 89
      exact aj (.bool false) hd 36 89
     ·cases xp
      ·exact aj (.bool true) hd 29 82
      cases hs
      ·exact yq hd 29 82 (aC rfl (dq hd 36 89)) (by simpa using (dq hd 43 96)) hR
      cases x
      ·exact aj (.bool true) hd 29 82
      exact yq hd 29 82 (aC rfl (dq hd 36 89)) (by simpa using hc _) hR
     cases xp
     ·exact yr (aC rfl (dq hd 29 82)) (by simpa using hc _) hR
     cases hs
     ·exact yr (aC rfl (dq hd 29 82)) (by simpa using (dq hd 44 97)) hR
     cases x
     ·exact yr (aC rfl (dq hd 29 82)) (by simpa using hc _) hR
     exact yr (aC rfl (dq hd 29 82)) (by simpa using (dq hd 44 97)) hR
    have hi:¬ (k:Int)<(D.np:Int):=by omega
    have e9:k=D.np:=by omega
    have HF:Hid (aO (fun i=>cr (D.pt i)) D.np=true/\aO (ec D) D.np=true/\decide (0<cN D.hs D.hs.length) = !al):=by
     refine ⟨by rw [<- e9];exact hall,by rw [<- e9];exact hall2,?_⟩
     have h8:=nC (bs:=D.hs) (n:=D.hs.length);have h9:=HL.out;rw [show k=D.hs.length by have:=HT.out.2.2.1;omega] at h9;rw [h9] at h8;cases al
     ·simp at h8 ⊢;omega
     simp at h8 ⊢;omega
    clear hall hall2 hbl e9;go_wp2;go_ret;exact ⟨by rw [HF.out.1,HF.out.2.1,HF.out.2.2,HT.out.1,HT.out.2.1];cases al <;> rfl,HB2.out.2⟩
  have f2:((D.nt:Int) != (D.np:Int))=true:=by simp;omega
  have HT:Hid (decide (D.nt=D.np)=false):=decide_eq_false e2;clear e1 e2;go_wp2;go_ret;exact ⟨by rw [HT.out];simp,HB.out.2⟩
 have f1:((D.hs.length:Int) != (D.np:Int))=true:=by simp;omega
 have HT:Hid (decide (D.hs.length=D.np)=false):=decide_eq_false e1;clear e1;go_wp2;go_ret;exact ⟨by rw [HT.out];simp,HB.out.2⟩
end Go.Proofs.YtohikbpolofklaaGreat
