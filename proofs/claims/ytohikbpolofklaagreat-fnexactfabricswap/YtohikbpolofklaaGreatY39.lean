/- Texts that the proof needs, joined: Tb2 Tb3 Fo7. -/
import Derived.Test.YtohikbpolofklaaGreatY36
import Derived.Test.YtohikbpolofklaaGreatY30
import Derived.Test.YtohikbpolofklaaGreatY38
import Derived.BigQuiet
import Derived.Test.YtohikbpolofklaaGreatY23
set_option linter.unusedVariables false
set_option linter.unusedSimpArgs false
set_option maxHeartbeats 8000000
set_option maxRecDepth 20000
namespace Go.Proofs.YtohikbpolofklaaGreat
open Go.RowKit Go.Joins Go.Proofs.Tryz
theorem wS(w:World)(n:Nat):Below w.heap.size w (w.drewN n):=⟨rfl,rfl,rfl,Nl,fun _ _=>rfl⟩
theorem uZ(Q:VQ)(A:VA)(a1:OA)(l1 c1:Nat)(a2:OA)(l2 c2:Nat)(b1:OA)(m1 d1:Nat)(b2:OA)(m2 d2:Nat)(w:World)(r1:Rd w 0 (aw Q.ws) (.slice a1 l1 c1))(r2:Rd w 0 (ai Q.bs) (.slice a2 l2 c2))(r3:Rd w 0 (aw A.ws) (.slice b1 m1 d1))(r4:Rd w 0 (ai A.bs) (.slice b2 m2 d2))(hb:cV Q)(ha:nD A):
 Calls prog 173 #[.agg (qL Q a1 l1 c1 a2 l2 c2).toArray,.agg (aL A b1 m1 d1 b2 m2 d2).toArray] w fun e w'=>e=.returned (.bool (kJ Q A))/\Below w.heap.size w w':=by
 obtain ⟨e1,_,s1⟩:=r1.int3;obtain ⟨e2,_,s2⟩:=r2.bool3;obtain ⟨e3,_,s3⟩:=r3.int3;obtain ⟨e4,h4,s4⟩:=r4.bool3;unfold kJ;rw [<- e1,<- e2,<- e3,<- e4];exact oP Q.kd A.kd A.fl Q.pl Q.n Q.wa a1 a2 l1 l2 c1 c2 Q.ws Q.bs A.pl A.n b1 b2 m1 m2 d1 d2 A.ws A.bs w e1 e2 s1 s2 hb.1 hb.2 e3 e4 s3 s4 ha.1 ha.2 h4
theorem wT(X:VA):iX X=((X.kd == 0) && ((X.fl == 0) && ((X.pl == 0) && ((X.n == 0) && (decide (X.ws=[]) && decide (X.bs=[])))))):=by
 unfold iX;have h1:((X.ws.length:Int) == 0)=decide (X.ws=[]):=by cases X.ws <;> simp;omega
 have h2:((X.bs.length:Int) == 0)=decide (X.bs=[]):=by cases X.bs <;> simp;omega
 rw [h1,h2]
theorem qn(X:VA)(a1:OA)(c1:Nat)(a2:OA)(c2:Nat)(w:World)(r1:Rd w 0 (aw X.ws) (.slice a1 X.ws.length c1))(r2:Rd w 0 (ai X.bs) (.slice a2 X.bs.length c2))(hb:nD X):
 Calls prog 174 #[.agg (aL X a1 X.ws.length c1 a2 X.bs.length c2).toArray,.agg ([Vi 0,Vi 0,Vi 0,Vi 0,Zs,Zs]).toArray] w fun e w'=>e=.returned (.bool (iX X))/\Below w.heap.size w w':=by
 obtain ⟨t0,q0⟩:∃ t,(X.kd == 0)=t:=⟨_,rfl⟩
 obtain ⟨t1,q1⟩:∃ t,(X.fl == 0)=t:=⟨_,rfl⟩
 obtain ⟨t2,q2⟩:∃ t,(X.pl == 0)=t:=⟨_,rfl⟩
 obtain ⟨t3,q3⟩:∃ t,(X.n == 0)=t:=⟨_,rfl⟩
 obtain ⟨t4,q4⟩:∃ t,decide (X.ws=[])=t:=⟨_,rfl⟩
 obtain ⟨t5,q5⟩:∃ t,decide (X.bs=[])=t:=⟨_,rfl⟩
 obtain ⟨W,hW⟩:∃ W,W=(w.alloc (.cells (aL X a1 X.ws.length c1 a2 X.bs.length c2).toArray 162)).alloc (.cells ([Vi 0,Vi 0,Vi 0,Vi 0,Zs,Zs]).toArray 162):=⟨_,rfl⟩
 have HE:Hid (iX X=(t0 && (t1 && (t2 && (t3 && (t4 && t5)))))/\decide (X.ws=[])=t4/\decide (X.bs=[])=t5/\Below w.heap.size w W/\ae W w.heap.size 162 (aL X a1 X.ws.length c1 a2 X.bs.length c2).toArray/\ae W (w.heap.size+1) 162 ([Vi 0,Vi 0,Vi 0,Vi 0,Zs,Zs]).toArray/\aZ W a1 X.ws/\be W a2 X.bs):=by
  have B:Below w.heap.size w W:=by rw [hW];exact af (aa _ _) (aa _ _)
  exact ⟨by rw [wT,q0,q1,q2,q3,q4,q5],q4,q5,B,by rw [hW];exact (ae.new w _ _).below (aa _ _),by rw [hW];have:=ae.new (w.alloc (.cells (aL X a1 X.ws.length c1 a2 X.bs.length c2).toArray 162)) ([Vi 0,Vi 0,Vi 0,Vi 0,Zs,Zs]).toArray 162;simpa using this,(r1.below B).int3.2.2,(r2.below B).bool3.2.2⟩
 rw [HE.out.1];obtain ⟨⟨y0,y1,y2,y3,y4,y5⟩,yf⟩:=HE.out.2.2.2.2.1.tc6;obtain ⟨⟨z0,z1,z2,z3,z4,z5⟩,zf⟩:=HE.out.2.2.2.2.2.1.tc6;clear q4 q5 r1 r2 yf zf;cases t0
 case false=>
  go_enter func174,ntmps174
  go_upto_region 1 with fail
  rw [<- hW];clear hW;go_wp2;go_ret;exact ⟨rfl,HE.out.2.2.2.1⟩
 cases t1
 case false=>
  go_enter func174,ntmps174
  go_upto_region 1 with fail
  rw [<- hW];clear hW;go_wp2;go_ret;exact ⟨rfl,HE.out.2.2.2.1⟩
 cases t2
 case false=>
  go_enter func174,ntmps174
  go_upto_region 1 with fail
  rw [<- hW];clear hW;go_wp2;go_ret;exact ⟨rfl,HE.out.2.2.2.1⟩
 cases t3
 case false=>
  go_enter func174,ntmps174
  go_upto_region 1 with fail
  rw [<- hW];clear hW;go_wp2;go_ret;exact ⟨rfl,HE.out.2.2.2.1⟩
 go_enter func174,ntmps174
 go_upto_region 1 with fail
 rw [<- hW];clear hW;go_wp2_with fail
 refine (gg a1 none _ 0 c1 0 X.ws [] _ rfl rfl HE.out.2.2.2.2.2.2.1 (.inl rfl) hb.1 (by simp) t4 HE.out.2.1).mono ?_;rintro e w1 ⟨rfl,b1⟩;have HB:Hid (Below W.heap.size W w1):=b1;clear b1 y0 y1 y2 y3 y4 y5 z0 z1 z2 z3 z4 z5;cases t4
 case false=>
  go_wp2;go_ret;exact ⟨rfl,af HE.out.2.2.2.1 HB.out⟩
 obtain ⟨⟨y0,y1,y2,y3,y4,y5⟩,yf⟩:=(HE.out.2.2.2.2.1.below HB.out).tc6;obtain ⟨⟨z0,z1,z2,z3,z4,z5⟩,zf⟩:=(HE.out.2.2.2.2.2.1.below HB.out).tc6;clear yf zf;go_wp2_with fail
 refine (fQ a2 none _ 0 c2 0 X.bs [] _ rfl rfl (HE.out.2.2.2.2.2.2.2.below HB.out) (.inl rfl) hb.2 (by simp) t5 HE.out.2.2.1).mono ?_;rintro e w2 ⟨rfl,b2⟩;have B2:=af (af HE.out.2.2.2.1 HB.out) b2;clear b2 y0 y1 y2 y3 y4 y5 z0 z1 z2 z3 z4 z5;go_wp2;go_ret;exact ⟨rfl,B2⟩
theorem mF(D:VD)(g o:Nat)(w:World)(h:fR w g o D)(hb:gS D):
 Calls prog 145 #[Vp g o] w fun e w'=>e=.returned (.bool (decide (D.hs.length=D.np) && (decide (D.nt=D.np) && aO (ec D) D.np)))/\Below w.heap.size w w':=by
 have HP:Hid (fR w g o D/\gS D):=⟨h,hb⟩
 obtain ⟨hg,a1,c1,a2,c2,a3,c3,a4,c4,a5,c5,hr,r1,r2,r3,r4,r5⟩:=h.cells;have y10:=hr 10 _ rfl;have y11:=hr 11 _ rfl;have y12:=hr 12 _ rfl;obtain ⟨-,hn1,hn2,hn3,-,-⟩:=hb;by_cases e1:D.hs.length=D.np
 ·have f1:((D.hs.length:Int) != (D.np:Int))=false:=by simp [e1]
  have f1':((D.hs.length:Int) == (D.np:Int))=true:=by simp [e1]
  by_cases e2:D.nt=D.np
  ·have f2:((D.nt:Int) != (D.np:Int))=false:=by simp [e2]
   have HT:Hid (decide (D.hs.length=D.np)=true/\decide (D.nt=D.np)=true/\D.hs.length=D.np/\D.nt=D.np):=⟨decide_eq_true e1,decide_eq_true e2,e1,e2⟩
   rw [HT.out.1,HT.out.2.1,Bool.true_and,Bool.true_and];have HR:Hid (w.rangeAt g o (dL D a1 D.q.ws.length c1 a2 D.q.bs.length c2 a3 D.np c3 a4 D.hs.length c4 a5 D.nt c5)/\g<w.heap.size/\Rd w 0 (.list 8 D.np (fun i=>ac (pT (D.pt i)))) (.slice a3 D.np c3)/\Rd w 0 (ai D.hs) (.slice a4 D.hs.length c4)/\Rd w 0 (.list 6 D.nt (fun i=>ac (aT (D.tl i)))) (.slice a5 D.nt c5)):=⟨hr,hg,r3,r4,r5⟩
   clear hr r1 r2 r3 r4 r5 hg h e1 e2;go_enter func145,ntmps145
   go_upto_region 1 with fail
   go_quiet (fail)
   go_wp2;clear y10 y11 y12 f1 f1' f2;go_loopw [34] (fun i wr=>∃ k:Nat,k<= D.hs.length/\i=Vi k/\aO (ec D) k=true/\Below w.heap.size w wr) (fun i _=>D.hs.length-(intOf i).toNat)
   case atStart=>exact ⟨0,Nat.zero_le _,rfl,rfl,by first|exact Br|exact Br.drew|exact wS _ _⟩
   case round=>
    obtain ⟨k,hk,rfl,hall,hbl⟩:=hrel;by_cases hlt:k<D.hs.length
    ·have hi:(k:Int)<(D.hs.length:Int):=by omega
     have hi3:(k:Int)<(D.np:Int):=by have:=HT.out.2.2.1;omega
     have hi5:(k:Int)<(D.nt:Int):=by have:=HT.out.2.2;omega
     obtain ⟨b4,o4,rfl,hb4,d0⟩:=(HR.out.2.2.2.1.below hbl).bit (k:=k) (n:=D.np) hlt;obtain ⟨b3,o3,vs,rfl,_,hb3,hlen,hr3,hrd⟩:=(HR.out.2.2.1.below hbl).at (k:=k) (by have:=HT.out.2.2.1;omega);obtain ⟨p1,k1,p2,k2,rfl,rp1,rp2⟩:=VP.cells hrd hlen;clear hlen hrd;obtain ⟨b5,o5,vs,rfl,_,hb5,hlen,hr5,hrd⟩:=(HR.out.2.2.2.2.below hbl).at (k:=k) (by have:=HT.out.2.2;omega);obtain ⟨t1,j1,t2,j2,rfl,rt1,rt2⟩:=VA.cells hrd hlen;clear hlen hrd;obtain ⟨hs,hhs⟩:∃ x,D.hs.getD k false=x:=⟨_,rfl⟩
     rw [hhs] at d0;obtain ⟨x,hx⟩:∃ x,ec D k=x:=⟨_,rfl⟩
     have HA:Hid (aO (ec D) k=true/\ec D k=x/\Below w.heap.size w wr):=⟨hall,hx,hbl⟩
     have hbq:=HP.out.2.2.2.2.2.1 k (by have:=HT.out.2.2.1;omega);have hba:=HP.out.2.2.2.2.2.2 k (by have:=HT.out.2.2;omega);have hgw:=Nat.lt_of_lt_of_le HR.out.2.1 hbl.size;have hrw:=ay HR.out.1 HR.out.2.1 hbl;have HB:Hid (cV (D.pt k).q/\nD (D.tl k)):=⟨hbq,hba⟩
     have hx2:hs=true->kJ (D.pt k).q (D.tl k)=x:=fun e=>by rw [<- hx];unfold ec;rw [hhs,e];rfl
     have hx3:hs=false->iX (D.tl k)=x:=fun e=>by rw [<- hx];unfold ec;rw [hhs,e];rfl
     have HK:Hid (g<wr.heap.size/\wr.rangeAt g o (dL D a1 D.q.ws.length c1 a2 D.q.bs.length c2 (some ⟨b3,o3,none⟩) D.np c3 (some ⟨b4,o4,none⟩) D.hs.length c4 (some ⟨b5,o5,none⟩) D.nt c5)/\b3<wr.heap.size/\wr.rangeAt b3 (o3+k*8) (pL (D.pt k) p1 (D.pt k).q.ws.length k1 p2 (D.pt k).q.bs.length k2)/\b5<wr.heap.size/\wr.rangeAt b5 (o5+k*6) (aL (D.tl k) t1 (D.tl k).ws.length j1 t2 (D.tl k).bs.length j2)/\Rd wr 0 (aw (D.pt k).q.ws) (.slice p1 (D.pt k).q.ws.length k1)/\Rd wr 0 (ai (D.pt k).q.bs) (.slice p2 (D.pt k).q.bs.length k2)/\Rd wr 0 (aw (D.tl k).ws) (.slice t1 (D.tl k).ws.length j1)/\Rd wr 0 (ai (D.tl k).bs) (.slice t2 (D.tl k).bs.length j2)/\cV (D.pt k).q/\nD (D.tl k)/\(hs=true->kJ (D.pt k).q (D.tl k)=x)/\(hs=false->iX (D.tl k)=x)):=⟨hgw,hrw,hb3,hr3,hb5,hr5,rp1,rp2,rt1,rt2,hbq,hba,hx2,hx3⟩
     clear hx hx2 hx3 hhs hgw hrw hb3 hr3 hb5 hr5 rp1 rp2 rt1 rt2 hbq hba hall hbl hb4;go_upto_region 6 with fail
     clear d0;refine wp_region_any (by kernel_rfl) ?_
     refine bw (fun u=>Below wr.heap.size wr u) (fun i v u=>match i with
      |0=>v=.bool hs
      |1=>v=.bool hs
      |2=>v=cond hs (Vp g o) undef
      |3=>v=cond hs (Vp g o) undef
      |4=>v=cond hs (Vp g (o+10)) undef
      |5=>v=cond hs (.slice (some ⟨b3,o3,none⟩) D.np c3) undef
      |6=>v=cond hs (Vi (k:Int)) undef
      |7=>v=cond hs (Vp b3 (o3+k*8)) undef
      |8=>v=cond hs (Vp b3 (o3+k*8+2)) undef
      |9=>v=cond hs (.agg ([Vi (D.pt k).q.kd,Vi (D.pt k).q.pl,Vi (D.pt k).q.n,.slice p1 ((D.pt k).q.ws.length) k1,.slice p2 ((D.pt k).q.bs.length) k2,Vi (D.pt k).q.wa]).toArray) undef
      |10=>v=cond hs (Vp g o) undef
      |11=>v=cond hs (Vp g o) undef
      |12=>v=cond hs (Vp g (o+12)) undef
      |13=>v=cond hs (.slice (some ⟨b5,o5,none⟩) D.nt c5) undef
      |14=>v=cond hs (Vi (k:Int)) undef
      |15=>v=cond hs (Vp b5 (o5+k*6)) undef
      |16=>v=cond hs (.agg (aL (D.tl k) t1 (D.tl k).ws.length j1 t2 (D.tl k).bs.length j2).toArray) undef
      |17=>v=cond hs (.bool x) undef
      |18=>v=cond hs (.bool (!x)) undef
      |19=>v=cond hs (.bool (!x)) (.bool false)
      |20=>v=cond hs (.bool (!x)) (.bool false)
      |21=>v=cond hs (cond x (.bool true) undef) (.bool false)
      |22=>v=cond hs (cond x (.bool false) undef) (.bool true)
      |23=>v=cond hs (cond x (.bool false) undef) (.bool true)
      |24=>v=cond hs undef (Vp g o)
      |25=>v=cond hs undef (Vp g o)
      |26=>v=cond hs undef (Vp g (o+12))
      |27=>v=cond hs undef (.slice (some ⟨b5,o5,none⟩) D.nt c5)
      |28=>v=cond hs undef (Vi (k:Int))
      |29=>v=cond hs undef (Vp b5 (o5+k*6))
      |30=>v=cond hs undef (.agg (aL (D.tl k) t1 (D.tl k).ws.length j1 t2 (D.tl k).bs.length j2).toArray)
      |31=>v=cond hs undef (.agg ([Vi 0,Vi 0,Vi 0,Vi 0,Zs,Zs]).toArray)
      |32=>v=cond hs undef (.bool x)
      |33=>v=cond hs undef (.bool (!x))
      |34=>v=cond hs (cond x (.bool false) undef) (.bool (!x))
      |35=>v=.bool (!x)
      |_=>v=undef) (by kernel_rfl) (by kernel_rfl) (fun _ _ _ _ h _=>h) (by first|exact Br|exact Br.drew) ?_ ?_ _ _ rfl (by decide) (fun i=>by simp [Array.getD];try (split <;> rfl))
     ·intro vs u hR hall
      simp only [bI];cases x
      ·have e35:vs 35=.bool true:=hall 35 (by simp)
       rw [e35];clear hall e35;have HF:Hid (aO (ec D) D.np=false/\Below w.heap.size w u):=⟨cT (by have:=HT.out.2.2.1;omega) HA.out.2.1,af HA.out.2.2 hR⟩
       clear HK HA hR;go_simp;go_wp2;go_ret;exact ⟨by rw [HF.out.1];rfl,HF.out.2⟩
      have e35:vs 35=.bool false:=hall 35 (by simp);rw [e35];clear hall e35;have HF:Hid (aO (ec D) (k+1)=true/\Below w.heap.size w u):=⟨cL HA.out.1 HA.out.2.1,af HA.out.2.2 hR⟩
      clear HK HA hR;go_simp;go_wp2;go_roundw
      case rel=>exact ⟨k+1,by omega,by go_num,HF.out.1,HF.out.2⟩
      case measure=>simp [intOf];omega
     intro u i o ρ hR ho hρ hc hf hd
     have hi:i<36:=by
      have:=(Array.getElem?_eq_some_iff.1 ho).1;simpa using this
     obtain rfl|rfl|rfl|rfl|rfl|rfl|rfl|rfl|rfl|rfl|rfl|rfl|rfl|rfl|rfl|rfl|rfl|rfl|rfl|rfl|rfl|rfl|rfl|rfl|rfl|rfl|rfl|rfl|rfl|rfl|rfl|rfl|rfl|rfl|rfl|rfl:i=0\/i=1\/i=2\/i=3\/i=4\/i=5\/i=6\/i=7\/i=8\/i=9\/i=10\/i=11\/i=12\/i=13\/i=14\/i=15\/i=16\/i=17\/i=18\/i=19\/i=20\/i=21\/i=22\/i=23\/i=24\/i=25\/i=26\/i=27\/i=28\/i=29\/i=30\/i=31\/i=32\/i=33\/i=34\/i=35:=by omega
     all_goals (simp only [List.getElem?_toArray,List.getElem?_cons_zero,List.getElem?_cons_succ,Option.some.injEq] at ho;subst ho)
     ·cases hs
      ·exact yr rfl (hρ 4 (by kernel_rfl)) hR
      exact yr rfl (hρ 4 (by kernel_rfl)) hR
     ·exact yr rfl (dq hd 0 39) hR
     ·cases hs
      ·exact aj (.bool false) hd 1 40
      exact yq hd 1 40 rfl (hρ 0 (by kernel_rfl)) hR
     ·cases hs
      ·exact aj (.bool false) hd 1 40
      exact yq hd 1 40 (cE rfl (dq hd 2 41)) rfl hR
     ·cases hs
      ·exact aj (.bool false) hd 1 40
      exact yq hd 1 40 (ao rfl (dq hd 3 42) (by go_simp)) rfl hR
     ·cases hs
      ·exact aj (.bool false) hd 1 40
      have y9:=(ay HK.out.2.1 HK.out.1 hR) 10 _ rfl;exact yq hd 1 40 (ah rfl (dq hd 4 43) (by go_simp)) rfl hR
     ·cases hs
      ·exact aj (.bool false) hd 1 40
      exact yq hd 1 40 rfl (hρ 3 (by kernel_rfl)) hR
     ·cases hs
      ·exact aj (.bool false) hd 1 40
      exact yq hd 1 40 (au rfl (dq hd 5 44) (dq hd 6 45) (by go_simp)) rfl hR
     ·cases hs
      ·exact aj (.bool false) hd 1 40
      exact yq hd 1 40 (ao rfl (dq hd 7 46) (by go_simp)) rfl hR
     ·cases hs
      ·exact aj (.bool false) hd 1 40
      have h8:_=_:=dq hd 8 47;have hr:(Instr.loadAt 86 (Vp b3 (o3+k*8+2))).run prog u=.ok (.agg ([Vi (D.pt k).q.kd,Vi (D.pt k).q.pl,Vi (D.pt k).q.n,.slice p1 ((D.pt k).q.ws.length) k1,.slice p2 ((D.pt k).q.bs.length) k2,Vi (D.pt k).q.wa]).toArray) u:=run_loadAt_mid u b3 (o3+k*8+2) 86 ([Vi (D.pt k).q.kd,Vi (D.pt k).q.pl,Vi (D.pt k).q.n,.slice p1 ((D.pt k).q.ws.length) k1,.slice p2 ((D.pt k).q.bs.length) k2,Vi (D.pt k).q.wa]) _ (er [Vi (D.pt k).p,Vi (D.pt k).t] [Vi (D.pt k).q.kd,Vi (D.pt k).q.pl,Vi (D.pt k).q.n,.slice p1 ((D.pt k).q.ws.length) k1,.slice p2 ((D.pt k).q.bs.length) k2,Vi (D.pt k).q.wa] [] (ay HK.out.2.2.2.1 HK.out.2.2.1 hR) rfl) underlying86 rfl (by kernel_rfl);exact yq hd 1 40 (ah rfl h8 hr) rfl hR
     ·cases hs
      ·exact aj (.bool false) hd 1 40
      exact yq hd 1 40 rfl (hρ 0 (by kernel_rfl)) hR
     ·cases hs
      ·exact aj (.bool false) hd 1 40
      exact yq hd 1 40 (cE rfl (dq hd 10 49)) rfl hR
     ·cases hs
      ·exact aj (.bool false) hd 1 40
      exact yq hd 1 40 (ao rfl (dq hd 11 50) (by go_simp)) rfl hR
     ·cases hs
      ·exact aj (.bool false) hd 1 40
      have y9:=(ay HK.out.2.1 HK.out.1 hR) 12 _ rfl;exact yq hd 1 40 (ah rfl (dq hd 12 51) (by go_simp)) rfl hR
     ·cases hs
      ·exact aj (.bool false) hd 1 40
      exact yq hd 1 40 rfl (hρ 3 (by kernel_rfl)) hR
     ·cases hs
      ·exact aj (.bool false) hd 1 40
      exact yq hd 1 40 (au rfl (dq hd 13 52) (dq hd 14 53) (by go_simp)) rfl hR
     ·cases hs
      ·exact aj (.bool false) hd 1 40
      have h15:_=_:=dq hd 15 54;have hr:(Instr.loadAt 162 (Vp b5 (o5+k*6))).run prog u=.ok (.agg (aL (D.tl k) t1 (D.tl k).ws.length j1 t2 (D.tl k).bs.length j2).toArray) u:=run_loadAt_mid u b5 (o5+k*6) 162 (aL (D.tl k) t1 (D.tl k).ws.length j1 t2 (D.tl k).bs.length j2) _ (ay HK.out.2.2.2.2.2.1 HK.out.2.2.2.2.1 hR) underlying162 rfl (by kernel_rfl);exact yq hd 1 40 (ah rfl h15 hr) rfl hR
     ·cases hs
      ·exact aj (.bool false) hd 1 40
      have g1:ρ (.tmp 40)=.bool true:=gq hd 1 40;have h9:_=_:=dq hd 9 48;have h16:_=_:=dq hd 16 55;refine .inl ⟨(by show (match ρ (.tmp 40) with| .bool b=>b == true|_=>false)=true;rw [g1];rfl),.inr ⟨_,_,bv rfl (hf _) (args:=#[.agg ([Vi (D.pt k).q.kd,Vi (D.pt k).q.pl,Vi (D.pt k).q.n,.slice p1 ((D.pt k).q.ws.length) k1,.slice p2 ((D.pt k).q.bs.length) k2,Vi (D.pt k).q.wa]).toArray,.agg (aL (D.tl k) t1 (D.tl k).ws.length j1 t2 (D.tl k).bs.length j2).toArray]) (by simp [h9,h16]) (by kernel_rfl),?_⟩⟩;refine (uZ (D.pt k).q (D.tl k) p1 _ k1 p2 _ k2 t1 _ j1 t2 _ j2 _ (HK.out.2.2.2.2.2.2.1.below hR) (HK.out.2.2.2.2.2.2.2.1.below hR) (HK.out.2.2.2.2.2.2.2.2.1.below hR) (HK.out.2.2.2.2.2.2.2.2.2.1.below hR) HK.out.2.2.2.2.2.2.2.2.2.2.1 HK.out.2.2.2.2.2.2.2.2.2.2.2.1).mono ?_;rintro e u' ⟨he,b'⟩;exact ⟨_,he.trans (by rw [HK.out.2.2.2.2.2.2.2.2.2.2.2.2.1 rfl] <;> rfl),rfl,af hR b',b'⟩
     ·cases hs
      ·exact aj (.bool false) hd 1 40
      exact yq hd 1 40 (bT rfl (dq hd 17 56) (by go_simp)) rfl hR
     ·cases hs
      ·exact yr (aC rfl (dq hd 1 40)) (by simpa using hc _) hR
      exact yr (aC rfl (dq hd 1 40)) (by simpa using (dq hd 18 57)) hR
     ·exact yr rfl (dq hd 19 58) hR
     ·cases hs
      ·exact yq hd 20 59 rfl (hρ 4 (by kernel_rfl)) hR
      cases x
      ·exact aj (.bool true) hd 20 59
      exact yq hd 20 59 rfl (hρ 4 (by kernel_rfl)) hR
     ·cases hs
      ·exact yq hd 20 59 (bT rfl (dq hd 21 60) (by go_simp)) rfl hR
      cases x
      ·exact aj (.bool true) hd 20 59
      exact yq hd 20 59 (bT rfl (dq hd 21 60) (by go_simp)) rfl hR
     ·cases hs
      ·exact yq hd 20 59 rfl (dq hd 22 61) hR
      cases x
      ·exact aj (.bool true) hd 20 59
      exact yq hd 20 59 rfl (dq hd 22 61) hR
     ·cases hs
      ·exact yq hd 23 62 rfl (hρ 0 (by kernel_rfl)) hR
      cases x
      ·exact aj undef hd 23 62
      exact aj (.bool false) hd 23 62
     ·cases hs
      ·exact yq hd 23 62 (cE rfl (dq hd 24 63)) rfl hR
      cases x
      ·exact aj undef hd 23 62
      exact aj (.bool false) hd 23 62
     ·cases hs
      ·exact yq hd 23 62 (ao rfl (dq hd 25 64) (by go_simp)) rfl hR
      cases x
      ·exact aj undef hd 23 62
      exact aj (.bool false) hd 23 62
     ·cases hs
      ·have y9:=(ay HK.out.2.1 HK.out.1 hR) 12 _ rfl
       exact yq hd 23 62 (ah rfl (dq hd 26 65) (by go_simp)) rfl hR
      cases x
      ·exact aj undef hd 23 62
      exact aj (.bool false) hd 23 62
     ·cases hs
      ·exact yq hd 23 62 rfl (hρ 3 (by kernel_rfl)) hR
      cases x
      ·exact aj undef hd 23 62
      exact aj (.bool false) hd 23 62
     ·cases hs
      ·exact yq hd 23 62 (au rfl (dq hd 27 66) (dq hd 28 67) (by go_simp)) rfl hR
      cases x
      ·exact aj undef hd 23 62
      exact aj (.bool false) hd 23 62
     ·cases hs
      ·have h29:_=_:=dq hd 29 68
       have hr:(Instr.loadAt 162 (Vp b5 (o5+k*6))).run prog u=.ok (.agg (aL (D.tl k) t1 (D.tl k).ws.length j1 t2 (D.tl k).bs.length j2).toArray) u:=run_loadAt_mid u b5 (o5+k*6) 162 (aL (D.tl k) t1 (D.tl k).ws.length j1 t2 (D.tl k).bs.length j2) _ (ay HK.out.2.2.2.2.2.1 HK.out.2.2.2.2.1 hR) underlying162 rfl (by kernel_rfl);exact yq hd 23 62 (ah rfl h29 hr) rfl hR
      cases x
      ·exact aj undef hd 23 62
      exact aj (.bool false) hd 23 62
     ·cases hs
      ·exact yq hd 23 62 (jX rfl (qs:=#[]) (by simp) (by kernel_rfl)) rfl hR
      cases x
      ·exact aj undef hd 23 62
      exact aj (.bool false) hd 23 62
     ·cases hs
      ·have g23:ρ (.tmp 62)=.bool true:=gq hd 23 62
       have h30:_=_:=dq hd 30 69;have h31:_=_:=dq hd 31 70;refine .inl ⟨(by show (match ρ (.tmp 62) with| .bool b=>b == true|_=>false)=true;rw [g23];rfl),.inr ⟨_,_,bv rfl (hf _) (args:=#[.agg (aL (D.tl k) t1 (D.tl k).ws.length j1 t2 (D.tl k).bs.length j2).toArray,.agg ([Vi 0,Vi 0,Vi 0,Vi 0,Zs,Zs]).toArray]) (by simp [h30,h31]) (by kernel_rfl),?_⟩⟩;refine (qn (D.tl k) t1 j1 t2 j2 _ (HK.out.2.2.2.2.2.2.2.2.1.below hR) (HK.out.2.2.2.2.2.2.2.2.2.1.below hR) HK.out.2.2.2.2.2.2.2.2.2.2.2.1).mono ?_;rintro e u' ⟨he,b'⟩;exact ⟨_,he.trans (by rw [HK.out.2.2.2.2.2.2.2.2.2.2.2.2.2 rfl] <;> rfl),rfl,af hR b',b'⟩
      cases x
      ·exact aj undef hd 23 62
      exact aj (.bool false) hd 23 62
     ·cases hs
      ·exact yq hd 23 62 (bT rfl (dq hd 32 71) (by go_simp)) rfl hR
      cases x
      ·exact aj undef hd 23 62
      exact aj (.bool false) hd 23 62
     ·cases hs
      ·exact yq hd 20 59 (aC rfl (dq hd 23 62)) (by simpa using (dq hd 33 72)) hR
      cases x
      ·exact aj (.bool true) hd 20 59
      exact yq hd 20 59 (aC rfl (dq hd 23 62)) (by simpa using hc _) hR
     cases hs
     ·exact yr (aC rfl (dq hd 20 59)) (by simpa using (dq hd 34 73)) hR
     cases x
     ·exact yr (aC rfl (dq hd 20 59)) (by simpa using hc _) hR
     exact yr (aC rfl (dq hd 20 59)) (by simpa using (dq hd 34 73)) hR
    have hi:¬ (k:Int)<(D.hs.length:Int):=by omega
    have HF:Hid (aO (ec D) D.np=true/\Below w.heap.size w wr):=⟨by have h9:=HT.out.2.2.1;rw [show D.np=k by omega];exact hall,hbl⟩
    clear hall hbl;go_wp2;go_ret;exact ⟨by rw [HF.out.1];rfl,HF.out.2⟩
  have f2:((D.nt:Int) != (D.np:Int))=true:=by simp;omega
  have HT:Hid (decide (D.hs.length=D.np)=true/\decide (D.nt=D.np)=false):=⟨decide_eq_true e1,decide_eq_false e2⟩
  rw [HT.out.1,HT.out.2,Bool.true_and,Bool.false_and];clear hr r1 r2 r3 r4 r5 hg h e1 e2;go_enter func145,ntmps145
  go_upto_region 1 with fail
  go_quiet (fail)
  go_wp2;go_ret;exact ⟨rfl,by first|exact Br|exact Br.drew|exact wS _ _⟩
 have f1:((D.hs.length:Int) != (D.np:Int))=true:=by simp;omega
 have HT:Hid (decide (D.hs.length=D.np)=false):=decide_eq_false e1;rw [HT.out,Bool.false_and];clear hr r1 r2 r3 r4 r5 hg h e1;go_enter func145,ntmps145
 go_upto_region 1 with fail
 go_quiet (fail)
 go_wp2;go_ret;exact ⟨rfl,by first|exact Br|exact Br.drew|exact wS _ _⟩
theorem mG(D:VD)(g o:Nat)(w:World)(h:fR w g o D)(hb:gS D):
 Calls prog 98 #[Vp g o] w fun e w'=>e=.returned (.bool (fq D))/\Below w.heap.size w w':=by
 obtain ⟨x0,hx0⟩:∃ x,aB D.so 0 1000000000=x:=⟨_,rfl⟩
 obtain ⟨x1,hx1⟩:∃ x,aB D.ta 0 1000000000=x:=⟨_,rfl⟩
 obtain ⟨x2,hx2⟩:∃ x,gR D.q=x:=⟨_,rfl⟩
 obtain ⟨x3,hx3⟩:∃ x,(decide (1<= D.np/\D.np<= 8) && aO (fun i=>cr (D.pt i)) D.np)=x:=⟨_,rfl⟩
 obtain ⟨x4,hx4⟩:∃ x,(decide (D.hs.length=D.np) && (decide (D.nt=D.np) && aO (ec D) D.np))=x:=⟨_,rfl⟩
 obtain ⟨n5,hn5⟩:∃ n,n=cN D.hs D.hs.length:=⟨_,rfl⟩
 have HE:Hid (fq D=(x0 && (x1 && (x2 && (x3 && (x4 && decide (0<n5))))))/\aB D.so 0 1000000000=x0/\aB D.ta 0 1000000000=x1/\gR D.q=x2/\(decide (1<= D.np/\D.np<= 8) && aO (fun i=>cr (D.pt i)) D.np)=x3/\(decide (D.hs.length=D.np) && (decide (D.nt=D.np) && aO (ec D) D.np))=x4/\n5=cN D.hs D.hs.length/\fR w g o D/\gS D):=⟨by unfold fq;rw [hx0,hx1,hx2,<- hn5,<- hx3,<- hx4];simp only [Bool.and_assoc],hx0,hx1,hx2,hx3,hx4,hn5,h,hb⟩
 obtain ⟨hg,a1,c1,a2,c2,a3,c3,a4,c4,a5,c5,hr,r1,r2,r3,r4,r5⟩:=h.cells;have HR:Hid (w.rangeAt g o (dL D a1 D.q.ws.length c1 a2 D.q.bs.length c2 a3 D.np c3 a4 D.hs.length c4 a5 D.nt c5)/\Rd w 0 (aw D.q.ws) (.slice a1 D.q.ws.length c1)/\Rd w 0 (ai D.q.bs) (.slice a2 D.q.bs.length c2)):=⟨hr,r1,r2⟩
 rw [HE.out.1];have hn9:n5<= 2000000:=by have:=jA D.hs D.hs.length;have:=hb.2.2.1;omega
 have y1:=hr 1 _ rfl;have y2:=hr 2 _ rfl;have y3:=hr 3 _ rfl;have y4:=hr 4 _ rfl;have y5:=hr 5 _ rfl;have y6:=hr 6 _ rfl;have y7:=hr 7 _ rfl;have y8:=hr 8 _ rfl;have y9:=hr 9 _ rfl;clear hx0 hx1 hx2 hx3 hx4 hn5 hr r1 r2 r3 r4 r5 h hb hg;go_enter func98,ntmps98
 go_wp2_with fail
 refine (qj _ _ _ HE.out.2.1).mono ?_;rintro e w1 ⟨rfl,hw⟩;have hw:=hw.symm;subst hw;cases x0
 case false=>
  go_wp2;go_ret;exact ⟨rfl,Br⟩
 go_wp2_with fail
 refine (qj _ _ _ HE.out.2.2.1).mono ?_;rintro e w1 ⟨rfl,hw⟩;have hw:=hw.symm;subst hw;cases x1
 case false=>
  go_wp2;go_ret;exact ⟨rfl,Br⟩
 go_wp2_with fail
 refine (pF D.q a1 _ c1 a2 _ c2 _ HR.out.2.1 HR.out.2.2 HE.out.2.2.2.2.2.2.2.2.1).mono ?_;rintro e w1 ⟨rfl,b1⟩;rw [HE.out.2.2.2.1];have HB:Hid (Below w.heap.size w w1):=b1;clear b1 y1 y2 y3 y4 y5 y6 y7 y8 y9;cases x2
 case false=>
  go_wp2;go_ret;exact ⟨rfl,HB.out⟩
 go_wp2_with fail
 refine (lC D g o _ (HE.out.2.2.2.2.2.2.2.1.below HB.out) HE.out.2.2.2.2.2.2.2.2).mono ?_;rintro e w2 ⟨rfl,b2⟩;rw [HE.out.2.2.2.2.1];have HB2:Hid (Below w.heap.size w w2):=af HB.out b2;clear b2 HB;cases x3
 case false=>
  go_wp2;go_ret;exact ⟨rfl,HB2.out⟩
 go_wp2_with fail
 refine (mF D g o _ (HE.out.2.2.2.2.2.2.2.1.below HB2.out) HE.out.2.2.2.2.2.2.2.2).mono ?_;rintro e w3 ⟨rfl,b3⟩;rw [HE.out.2.2.2.2.2.1];have HB3:Hid (Below w.heap.size w w3):=af HB2.out b3;clear b3 HB2;cases x4
 case false=>
  go_wp2;go_ret;exact ⟨rfl,HB3.out⟩
 go_wp2_with fail
 refine (rA D g o _ (HE.out.2.2.2.2.2.2.2.1.below HB3.out) HE.out.2.2.2.2.2.2.2.2).mono ?_;rintro e w4 ⟨rfl,hw⟩;have hw:=hw.symm;subst hw;rw [<- HE.out.2.2.2.2.2.2.1];by_cases h5:0<n5
 ·have h6:(0:Int)<(n5:Int):=by omega
  have HD:Hid (decide (0<n5)=true):=decide_eq_true h5;go_wp2;go_ret;exact ⟨by rw [HD.out];rfl,HB3.out⟩
 have h6:¬ (0:Int)<(n5:Int):=by omega
 have HD:Hid (decide (0<n5)=false):=decide_eq_false h5;go_wp2;go_ret;exact ⟨by rw [HD.out];rfl,HB3.out⟩
def nP(X:VT)(k:Nat):Int:=if k=0 then 0 else (X.f (k-1)).id+1
theorem rG{X:VT}{k:Nat}(h:bQ X k=true):fq (X.f k)=true/\0<= (X.f k).id/\(X.f k).id<X.nx/\(k=0\/(X.f (k-1)).id<(X.f k).id):=by
 unfold bQ aB at h;simp only [Bool.and_eq_true,decide_eq_true_eq,Bool.or_eq_true] at h;exact ⟨h.1,h.2.1.1,by omega,h.2.2⟩
theorem rH{X:VT}{k:Nat}(h:aO (bQ X) k=true):bQ X k=(!decide ((X.f k).id<nP X k) && (!decide (X.nx<= (X.f k).id) && fq (X.f k))):=by
 have hp:k=0\/0<= (X.f (k-1)).id:=by
  by_cases e:k=0
  ·exact .inl e
  exact .inr (rG (fp.1 h (k-1) (by omega))).2.1
 rw [Bool.eq_iff_iff];unfold bQ aB nP;simp only [Bool.and_eq_true,Bool.or_eq_true,Bool.not_eq_true',decide_eq_true_eq,decide_eq_false_iff_not];by_cases e:k=0
 ·subst e
  simp only [if_true];constructor
  ·rintro ⟨h1,⟨h2,h3⟩,_⟩
   exact ⟨by omega,by omega,h1⟩
  rintro ⟨h1,h2,h3⟩;exact ⟨h3,⟨by omega,by omega⟩,.inl trivial⟩
 simp only [if_neg e];have hp:0<= (X.f (k-1)).id:=by rcases hp with h|h;exact absurd h e;exact h
 constructor
 ·rintro ⟨h1,⟨h2,h3⟩,h4⟩
  exact ⟨by omega,by omega,h1⟩
 rintro ⟨h1,h2,h3⟩;exact ⟨h3,⟨by omega,by omega⟩,.inr (by omega)⟩
def iq(w:World)(X:VT)(a:OA)(c:Nat):Prop:=Rd w 0 (.list 13 X.m (fun i=>ac (dT (X.f i)))) (.slice a X.m c)/\kK X
theorem iq.below{w w':World}{X:VT}{a:OA}{c:Nat}(h:iq w X a c)(hb:Below w.heap.size w w'):iq w' X a c:=⟨h.1.below hb,h.2⟩
theorem iq.at{w:World}{X:VT}{a:OA}{c k:Nat}(h:iq w X a c)(hk:k<X.m):∃ b off,a=some ⟨b,off,none⟩/\fR w b (off+k*13) (X.f k)/\gS (X.f k):=by
 obtain ⟨b,off,vs,ha,_,hb0,hlen,hr,hrd⟩:=h.1.at hk;exact ⟨b,off,ha,⟨hb0,vs,hlen,hr,hrd⟩,h.2.2 k hk⟩
theorem kP(X:VT)(a:OA)(c:Nat)(w:World)(h:iq w X a c):
 Calls prog 61 #[.agg (tL X a X.m c).toArray] w fun e w'=>e=.returned (.bool (eB X))/\Below w.heap.size w w':=by
 obtain ⟨x0,hx0⟩:∃ x,aB X.nx 0 1000000000=x:=⟨_,rfl⟩
 obtain ⟨x1,hx1⟩:∃ x,decide (X.m<= 16)=x:=⟨_,rfl⟩
 obtain ⟨G,hG⟩:∃ G,G=w.heap.size:=⟨_,rfl⟩
 obtain ⟨W,hW⟩:∃ W,W=w.alloc (.cells (tL X a X.m c).toArray 38):=⟨_,rfl⟩
 have HE:Hid (eB X=(x0 && (x1 && aO (bQ X) X.m))/\aB X.nx 0 1000000000=x0/\decide (X.m<= 16)=x1/\Below w.heap.size w W/\ae W G 38 (tL X a X.m c).toArray/\iq W X a c):=⟨by unfold eB;rw [hx0,hx1],hx0,hx1,by rw [hW];exact aa _ _,by rw [hW,hG];exact ae.new _ _ _,h.below (by rw [hW];exact aa _ _)⟩
 rw [HE.out.1];have hm2:=h.2.1;clear hx0 hx1 h;obtain ⟨⟨y0,y1⟩,yf⟩:=HE.out.2.2.2.2.1.tc2;clear yf;go_enter func61,ntmps61
 go_upto_region 1 with fail
 rw [<- hW,<- hG];clear hW hG;go_wp2_with fail
 refine (qj _ _ _ HE.out.2.1).mono ?_;rintro e w1 ⟨rfl,hw⟩;have hw:=hw.symm;subst hw;cases x0
 case false=>
  go_wp2;go_ret;exact ⟨rfl,HE.out.2.2.2.1⟩
 have hnx:0<= X.nx/\X.nx<= 1000000000:=lk HE.out.2.1;obtain ⟨hnx0,hnx1⟩:=hnx;cases x1
 case false=>
  have h16:(16:Int)<(X.m:Int):=by have:=of_decide_eq_false HE.out.2.2.1;omega
  go_wp2;go_ret;exact ⟨rfl,HE.out.2.2.2.1⟩
 have h16:¬ (16:Int)<(X.m:Int):=by have:=of_decide_eq_true HE.out.2.2.1;omega
 go_wp2;clear y0 y1;go_loopw [3,19] (fun l i wr=>∃ k:Nat,k<= X.m/\i=Vi k/\l=Vi (nP X k)/\aO (bQ X) k=true/\Below W.heap.size W wr) (fun _ i _=>X.m-(intOf i).toNat)
 case atStart=>exact ⟨0,Nat.zero_le _,rfl,rfl,rfl,Br⟩
 case round=>
  obtain ⟨k,hk,rfl,rfl,hall,hbl⟩:=hrel;by_cases hlt:k<X.m
  ·have hi:(k:Int)<(X.m:Int):=by omega
   obtain ⟨b,off,rfl,hp,hbd⟩:=(HE.out.2.2.2.2.2.below hbl).at hlt;obtain ⟨⟨y0,y1⟩,yf⟩:=(HE.out.2.2.2.2.1.below hbl).tc2;clear yf;obtain ⟨hb0,a1,c1,a2,c2,a3,c3,a4,c4,a5,c5,hr,-⟩:=hp.cells;obtain ⟨ls,hls⟩:∃ x,x=nP X k:=⟨_,rfl⟩
   obtain ⟨x,hx⟩:∃ x,fq (X.f k)=x:=⟨_,rfl⟩
   have hrt:=rH hall;rw [<- hls,hx] at hrt;rw [<- hls];obtain ⟨lt,hlt9⟩:∃ t,decide ((X.f k).id<ls)=t:=⟨_,rfl⟩
   obtain ⟨gq,hgq⟩:∃ t,decide (X.nx<= (X.f k).id)=t:=⟨_,rfl⟩
   have HD:Hid (decide ((X.f k).id<ls)=lt/\decide (X.nx<= (X.f k).id)=gq):=⟨hlt9,hgq⟩
   have HA:Hid (aO (bQ X) k=true/\Below w.heap.size w wr/\Below W.heap.size W wr/\ls=nP X k/\bQ X k=(!lt && (!gq && x))):=⟨hall,af HE.out.2.2.2.1 hbl,hbl,hls,by rw [hrt,hlt9,hgq]⟩
   clear hlt9 hgq;have HK:Hid (ae wr G 38 (tL X (some ⟨b,off,none⟩) X.m c).toArray/\b<wr.heap.size/\wr.rangeAt b (off+k*13) (dL (X.f k) a1 (X.f k).q.ws.length c1 a2 (X.f k).q.bs.length c2 a3 (X.f k).np c3 a4 (X.f k).hs.length c4 a5 (X.f k).nt c5)/\fR wr b (off+k*13) (X.f k)/\gS (X.f k)/\fq (X.f k)=x):=⟨HE.out.2.2.2.2.1.below hbl,hb0,hr,hp,hbd,hx⟩
   clear hall hbl hls hrt hb0 hr hp hbd hx;go_upto_region 8 with fail
   clear y0 y1;refine wp_region_any (by kernel_rfl) ?_
   refine bw (fun u=>Below wr.heap.size wr u) (fun i v u=>match i with
    |0=>v=Vp b (off+k*13)
    |1=>v=Vp b (off+k*13)
    |2=>v=Vp b (off+k*13)
    |3=>v=Vi (X.f k).id
    |4=>v=Vi ls
    |5=>v=.bool lt
    |6=>v=.bool lt
    |7=>v=cond lt undef (Vp b (off+k*13))
    |8=>v=cond lt undef (Vp b (off+k*13))
    |9=>v=cond lt undef (Vp b (off+k*13))
    |10=>v=cond lt undef (Vi (X.f k).id)
    |11=>v=cond lt undef (Vp G 0)
    |12=>v=cond lt undef (Vi X.nx)
    |13=>v=cond lt undef (.bool gq)
    |14=>v=cond lt (.bool true) (.bool gq)
    |15=>v=cond lt (.bool true) (.bool gq)
    |16=>v=cond lt undef (cond gq undef (Vp b (off+k*13)))
    |17=>v=cond lt undef (cond gq undef (.bool x))
    |18=>v=cond lt undef (cond gq undef (.bool (!x)))
    |19=>v=cond lt (.bool true) (cond gq (.bool true) (.bool (!x)))
    |_=>v=undef) (by kernel_rfl) (by kernel_rfl) (fun _ _ _ _ h _=>h) (by first|exact Br|exact Br.drew) ?_ ?_ _ _ rfl (by decide) (fun i=>by simp [Array.getD];try (split <;> rfl))
   ·intro vs u hR hall
    simp only [bI];cases lt
    ·cases gq
     ·cases x
      ·have e19:vs 19=.bool true:=hall 19 (by simp)
       rw [e19];clear hall e19;have HF:Hid (aO (bQ X) X.m=false/\Below w.heap.size w u):=⟨cT hlt (by rw [HA.out.2.2.2.2];rfl),af HA.out.2.1 hR⟩
       clear HK HA hR;go_simp;go_wp2;go_ret;exact ⟨by rw [HF.out.1];rfl,HF.out.2⟩
      have e19:vs 19=.bool false:=hall 19 (by simp);rw [e19];clear hall e19;have hgood:bQ X k=true:=by rw [HA.out.2.2.2.2];rfl
      have hpos:=(rG hgood).2;have hp1:0<= (X.f k).id:=hpos.1;have hp2:(X.f k).id<X.nx:=hpos.2.1;have d0:u.cell? ⟨b,off+k*13,none⟩=some (Vi (X.f k).id):=(ay HK.out.2.2.1 HK.out.2.1 hR) 0 _ rfl;have HF:Hid (aO (bQ X) (k+1)=true/\Below W.heap.size W u/\(X.f k).id+1=nP X (k+1)):=⟨cL HA.out.1 hgood,af HA.out.2.2.1 hR,by simp [nP]⟩
      clear HK HA hR hgood hpos;go_simp;go_wp2;go_roundw
      case rel=>exact ⟨k+1,by omega,by go_num,by rw [<- HF.out.2.2],HF.out.1,HF.out.2.1⟩
      case measure=>simp [intOf];omega
     have e19:vs 19=.bool true:=hall 19 (by simp);rw [e19];clear hall e19;have HF:Hid (aO (bQ X) X.m=false/\Below w.heap.size w u):=⟨cT hlt (by rw [HA.out.2.2.2.2];rfl),af HA.out.2.1 hR⟩
     clear HK HA hR;go_simp;go_wp2;go_ret;exact ⟨by rw [HF.out.1];rfl,HF.out.2⟩
    have e19:vs 19=.bool true:=hall 19 (by simp);rw [e19];clear hall e19;have HF:Hid (aO (bQ X) X.m=false/\Below w.heap.size w u):=⟨cT hlt (by rw [HA.out.2.2.2.2];rfl),af HA.out.2.1 hR⟩
    clear HK HA hR;go_simp;go_wp2;go_ret;exact ⟨by rw [HF.out.1];rfl,HF.out.2⟩
   intro u i o ρ hR ho hρ hc hf hd
   have hi:i<20:=by
    have:=(Array.getElem?_eq_some_iff.1 ho).1;simpa using this
   obtain rfl|rfl|rfl|rfl|rfl|rfl|rfl|rfl|rfl|rfl|rfl|rfl|rfl|rfl|rfl|rfl|rfl|rfl|rfl|rfl:i=0\/i=1\/i=2\/i=3\/i=4\/i=5\/i=6\/i=7\/i=8\/i=9\/i=10\/i=11\/i=12\/i=13\/i=14\/i=15\/i=16\/i=17\/i=18\/i=19:=by omega
   all_goals (simp only [List.getElem?_toArray,List.getElem?_cons_zero,List.getElem?_cons_succ,Option.some.injEq] at ho;subst ho)
   ·exact yr rfl (hρ 5 (by kernel_rfl)) hR
   ·exact yr (cE rfl (dq hd 0 26)) rfl hR
   ·exact yr (ao rfl (dq hd 1 27) (by go_simp)) rfl hR
   ·have y9:u.cell? ⟨b,off+k*13,none⟩=some (Vi (X.f k).id):=(ay HK.out.2.2.1 HK.out.2.1 hR) 0 _ rfl
    exact yr (ah rfl (dq hd 2 28) (by go_simp)) rfl hR
   ·exact yr rfl (hρ 3 (by kernel_rfl)) hR
   ·cases lt
    ·have t0:=of_decide_eq_false HD.out.1
     exact yr (aG rfl (dq hd 3 29) (dq hd 4 30) (by go_simp)) rfl hR
    have t0:=of_decide_eq_true HD.out.1;exact yr (aG rfl (dq hd 3 29) (dq hd 4 30) (by go_simp)) rfl hR
   ·exact yr rfl (dq hd 5 31) hR
   ·cases lt
    ·exact yq hd 6 32 rfl (hρ 5 (by kernel_rfl)) hR
    exact aj (.bool true) hd 6 32
   ·cases lt
    ·exact yq hd 6 32 (cE rfl (dq hd 7 33)) rfl hR
    exact aj (.bool true) hd 6 32
   ·cases lt
    ·exact yq hd 6 32 (ao rfl (dq hd 8 34) (by go_simp)) rfl hR
    exact aj (.bool true) hd 6 32
   ·cases lt
    ·have y9:u.cell? ⟨b,off+k*13,none⟩=some (Vi (X.f k).id):=(ay HK.out.2.2.1 HK.out.2.1 hR) 0 _ rfl
     exact yq hd 6 32 (ah rfl (dq hd 9 35) (by go_simp)) rfl hR
    exact aj (.bool true) hd 6 32
   ·cases lt
    ·exact yq hd 6 32 (ao rfl (hρ 1 (by kernel_rfl)) (by go_simp)) rfl hR
    exact aj (.bool true) hd 6 32
   ·cases lt
    ·have y9:u.cell? ⟨G,0,none⟩=some (Vi X.nx):=(HK.out.1.below hR).rng 0 _ rfl
     exact yq hd 6 32 (ah rfl (dq hd 11 37) (by go_simp)) rfl hR
    exact aj (.bool true) hd 6 32
   ·cases lt
    ·cases gq
     ·have t1:=of_decide_eq_false HD.out.2
      exact yq hd 6 32 (aG rfl (dq hd 10 36) (dq hd 12 38) (by go_simp)) rfl hR
     have t1:=of_decide_eq_true HD.out.2;exact yq hd 6 32 (aG rfl (dq hd 10 36) (dq hd 12 38) (by go_simp)) rfl hR
    exact aj (.bool true) hd 6 32
   ·cases lt
    ·exact yr (aC rfl (dq hd 6 32)) (by simpa using (dq hd 13 39)) hR
    exact yr (aC rfl (dq hd 6 32)) (by simpa using hc _) hR
   ·exact yr rfl (dq hd 14 40) hR
   ·cases lt
    ·cases gq
     ·exact yq hd 15 41 rfl (hρ 5 (by kernel_rfl)) hR
     exact aj (.bool true) hd 15 41
    exact aj (.bool true) hd 15 41
   ·cases lt
    ·cases gq
     ·have g15:ρ (.tmp 41)=.bool false:=gq hd 15 41
      have h16:_=_:=dq hd 16 42;refine .inl ⟨(by show (match ρ (.tmp 41) with| .bool b=>b == false|_=>false)=true;rw [g15];rfl),.inr ⟨_,_,bv rfl (hf _) (args:=#[Vp b (off+k*13)]) (by simp [h16]) (by kernel_rfl),?_⟩⟩;refine (mG (X.f k) b (off+k*13) _ (HK.out.2.2.2.1.below hR) HK.out.2.2.2.2.1).mono ?_;rintro e u' ⟨he,b'⟩;exact ⟨_,he.trans (by rw [HK.out.2.2.2.2.2] <;> rfl),rfl,af hR b',b'⟩
     exact aj (.bool true) hd 15 41
    exact aj (.bool true) hd 15 41
   ·cases lt
    ·cases gq
     ·exact yq hd 15 41 (bT rfl (dq hd 17 43) (by go_simp)) rfl hR
     exact aj (.bool true) hd 15 41
    exact aj (.bool true) hd 15 41
   cases lt
   ·cases gq
    ·exact yr (aC rfl (dq hd 15 41)) (by simpa using (dq hd 18 44)) hR
    exact yr (aC rfl (dq hd 15 41)) (by simpa using hc _) hR
   exact yr (aC rfl (dq hd 15 41)) (by simpa using hc _) hR
  have hi:¬ (k:Int)<(X.m:Int):=by omega
  have e9:k=X.m:=by omega
  have HF:Hid (aO (bQ X) X.m=true/\Below w.heap.size w wr):=⟨by rw [<- e9];exact hall,af HE.out.2.2.2.1 hbl⟩
  clear hall hbl e9;go_wp2;go_ret;exact ⟨by rw [HF.out.1];rfl,HF.out.2⟩
noncomputable def gr (X:VC):Bool:=@decide (eK X.f X.n) (Classical.propDecidable _)
theorem ml(X:VC):gr X=true↔ eK X.f X.n:=by
 unfold gr;exact @decide_eq_true_iff _ (Classical.propDecidable _)
noncomputable def cn (X:VF):Bool:=aB X.nw 0 4294967295 && (aO (fun k=>aB (fY X k) 0 1000000000) 4 && (jf X.set.wt X.set.tr (gr X.set) && (eB X.op && ((decide (X.nl=6) && aO (fun i=>cO (X.lf i)) X.nl) && cw X))))
def jH(X:VF):Prop:=X.set.n<= 2000000/\(∀ k,k<X.set.n->-9223372036854775808<= (X.set.f k).sh/\(X.set.f k).sh<= 9223372036854775807)/\kK X.op/\X.nl<= 2000000/\∀ k,k<X.nl->jF (X.lf k)
theorem iH{X:VT}(h:eB X=true):aO (bQ X) X.m=true/\X.m<= 16:=by
 unfold eB at h;simp only [Bool.and_eq_true,decide_eq_true_eq] at h;exact ⟨h.2.2,h.2.1⟩
theorem rI{N:VN}(h:cO N=true):(dp N).length<= 41:=by
 unfold cO iE at h;simp only [Bool.and_eq_true,decide_eq_true_eq] at h;have:=h.2.2.1;rw [eV];split <;> omega
theorem rJ{X:VF}(h:(decide (X.nl=6) && aO (fun i=>cO (X.lf i)) X.nl)=true):X.nl=6/\∀ k,k<X.nl->(dp (X.lf k)).length<= 41:=by
 simp only [Bool.and_eq_true,decide_eq_true_eq] at h;exact ⟨h.1,fun k hk=>rI (fp.1 h.2 k hk)⟩
theorem nQ(X:VF)(g o:Nat)(w:World)(h:eP w g o X)(hb:jH X):
 Calls prog 26 #[Vp g o] w fun e w'=>e=.returned (.bool (cn X))/\Below w.heap.size w w':=by
 obtain ⟨x0,h0⟩:∃ x,aB X.nw 0 4294967295=x:=⟨_,rfl⟩
 obtain ⟨x1,h1⟩:∃ x,aO (fun k=>aB (fY X k) 0 1000000000) 4=x:=⟨_,rfl⟩
 obtain ⟨x2,h2⟩:∃ x,jf X.set.wt X.set.tr (gr X.set)=x:=⟨_,rfl⟩
 obtain ⟨x3,h3⟩:∃ x,eB X.op=x:=⟨_,rfl⟩
 obtain ⟨x4,h4⟩:∃ x,(decide (X.nl=6) && aO (fun i=>cO (X.lf i)) X.nl)=x:=⟨_,rfl⟩
 obtain ⟨x5,h5⟩:∃ x,cw X=x:=⟨_,rfl⟩
 have he:cn X=(x0 && (x1 && (x2 && (x3 && (x4 && x5))))):=by unfold cn;rw [h0,h1,h2,h3,h4,h5]
 rw [he];have HX:Hid (aB X.nw 0 4294967295=x0/\aO (fun k=>aB (fY X k) 0 1000000000) 4=x1/\jf X.set.wt X.set.tr (gr X.set)=x2/\eB X.op=x3/\(decide (X.nl=6) && aO (fun i=>cO (X.lf i)) X.nl)=x4/\cw X=x5):=⟨h0,h1,h2,h3,h4,h5⟩
 have HP:Hid (eP w g o X/\jH X):=⟨h,hb⟩
 obtain ⟨a1,c1,a2,c2,a3,c3,⟨y0,y1,y2,y3,y4,y5,y6,y7,y8,y9,y10⟩,r1,r2,r3⟩:=h.tc;clear he h0 h1 h2 h3 h4 h5 h hb r1 r2 r3;go_enter func26,ntmps26
 go_wp2_with fail
 refine (pw _ _ _ HX.out.1).mono ?_;rintro e w1 ⟨rfl,hw⟩;have hw:=hw.symm;subst hw;cases x0 with
 |false=>
  go_wp2;go_ret;exact ⟨rfl,Br⟩
 |true=>
 go_wp2_with fail
 refine (kL X g o _ HP.out.1).mono ?_;rintro e w1 ⟨rfl,hw⟩;have hw:=hw.symm;subst hw;rw [HX.out.2.1];cases x1 with
 |false=>
  go_wp2;go_ret;exact ⟨rfl,Br⟩
 |true=>
 have HU:Hid (Rd w 0 (.list 7 X.set.n (fun i=>ac (aR (X.set.f i)))) (.slice a1 X.set.n c1)):=by
  obtain ⟨b1,d1,b2,d2,b3,d3,⟨z0,z1,z2,z3,z4,z5,z6,z7,z8,z9,bM⟩,q1,q2,q3⟩:=HP.out.1.tc;rw [y3] at z3;simp only [Option.some.injEq,Value.slice.injEq] at z3;obtain ⟨rfl,-,rfl⟩:=z3;exact q1
 go_wp2_with fail
 refine (jR X.set.wt X.set.tr a1 X.set.n c1 X.set.f _ HU.out.slu.2 HP.out.2.1 HP.out.2.2.1 (gr X.set) (ml X.set)).mono ?_;rintro e w1 ⟨rfl,b1⟩;rw [HX.out.2.2.1];have B1:Hid (Below w.heap.size w w1):=b1;clear b1 HU y0 y1 y2 y3 y4 y5 y6 y7 y8 y9 y10;cases x2 with
 |false=>
  go_wp2;go_ret;exact ⟨rfl,B1.out⟩
 |true=>
 obtain ⟨f1,k1,f2,k2,f3,k3,⟨y0,y1,y2,y3,y4,y5,y6,y7,y8,y9,y10⟩,r1,r2,r3⟩:=(HP.out.1.below B1.out).tc;have HT:Hid (iq w1 X.op f2 k2):=⟨r2,HP.out.2.2.2.1⟩
 clear r1 r2 r3;go_wp2_with fail
 refine (kP X.op f2 k2 _ HT.out).mono ?_;rintro e w2 ⟨rfl,b2⟩;rw [HX.out.2.2.2.1];have B2:Hid (Below w.heap.size w w2):=af B1.out b2;clear b2 HT B1 y0 y1 y2 y3 y4 y5 y6 y7 y8 y9 y10;cases x3 with
 |false=>
  go_wp2;go_ret;exact ⟨rfl,B2.out⟩
 |true=>
 go_wp2_with fail
 refine (ly X g o _ (HP.out.1.below B2.out) HP.out.2.2.2.2.2).mono ?_;rintro e w3 ⟨rfl,b3⟩;rw [HX.out.2.2.2.2.1];have B3:Hid (Below w.heap.size w w3):=af B2.out b3;clear b3 B2;cases x4 with
 |false=>
  go_wp2;go_ret;exact ⟨rfl,B3.out⟩
 |true=>
 go_wp2_with fail
 refine (lD X g o _ (HP.out.1.below B3.out) (iH HX.out.2.2.2.1).1 (iH HX.out.2.2.2.1).2 (by have:=(rJ HX.out.2.2.2.2.1).1;omega) HP.out.2.2.2.2.2 HP.out.2.2.2.1 (rJ HX.out.2.2.2.2.1).2).mono ?_;rintro e w4 ⟨rfl,b4⟩;rw [HX.out.2.2.2.2.2];have B4:Hid (Below w.heap.size w w4):=af B3.out b4;clear b4 B3;go_wp2;go_ret;exact ⟨rfl,B4.out⟩
end Go.Proofs.YtohikbpolofklaaGreat
