/- Texts that the proof needs, joined: S3. -/
import Derived.Test.YtohikbpolofklaaGreatY35
import Derived.Test.YtohikbpolofklaaGreatY37
import Derived.Deep.RegionHeld3
import Derived.BigQuiet
set_option linter.unusedVariables false
set_option linter.unusedSimpArgs false
set_option maxHeartbeats 8000000
set_option maxRecDepth 20000
namespace Go.Proofs.YtohikbpolofklaaGreat
open Go.RowKit Go.Proofs.Tryz
theorem tp{w:World}{b off:Nat}{bs:List Bool}(N:Nat)(hlt:N<bs.length)(h:be w (some ⟨b,off,none⟩) bs):be w (some ⟨b,off+N,none⟩) (bs.drop N):=by
 rcases h with h|⟨b',off',e,hb,hc⟩
 ·subst h;simp at hlt
 simp at e;obtain ⟨rfl,rfl⟩:=e;refine .inr ⟨b,off+N,rfl,hb,fun i hi=>?_⟩;rw [List.length_drop] at hi;have:=hc (N+i) (by omega);rw [show off+N+i=off+(N+i) by omega,this];simp [List.getD_eq_getElem?_getD,List.getElem?_drop]
theorem rE(N:Nat)(M:Int)(w:World)(hn:(N:Int)<= 9223372036854775807)(hM:M=((N:Int)+7) / 8):Calls prog 197 #[Vi (N:Int)] w fun e w'=>e=.returned (Vi M)/\w'=w:=by
 rw [hM];exact eJ (N:Int) w (by omega) hn
theorem nO(bs:List Bool)(N:Nat):fG (bs.drop N) 0=fG bs N:=by
 unfold fG;rw [decide_eq_decide];constructor
 ·intro h k hk hn
  have:=h (k-N) (by rw [List.length_drop];omega) (Nat.zero_le _);simpa [List.getD_eq_getElem?_getD,List.getElem?_drop,show N+(k-N)=k by omega] using this
 intro h k hk _;rw [List.length_drop] at hk;have:=h (N+k) (by omega) (by omega);simpa [List.getD_eq_getElem?_getD,List.getElem?_drop] using this
theorem xw{kd pl nn wa ap an:Int}{qs ws:List Int}{qb bs:List Bool}{m1 m2 l1 l2:Nat}(hk:kd=5\/kd=6\/kd=22)(hL:m1=qs.length/\m2=qb.length/\l1=ws.length/\l2=bs.length)(hq:bN kd pl nn wa qs m1 m2=true)(ha:dK kd 0 ap an ws l1 l2=true):fH kd pl nn m1 m2 qs qb ap an l1 l2 ws bs=(decide (ap=pl) && (decide (bs=qb) && decide (ws=qs))):=by
 obtain rfl|rfl|rfl:=hk
 ·have h:ws=qs:=by
   simp [bN,dO,bR,aB,dr] at hq;simp [dK,ig,cR,aB,bF] at ha;rw [List.eq_nil_of_length_eq_zero (show ws.length=0 by omega),List.eq_nil_of_length_eq_zero (show qs.length=0 by omega)]
  simp [fH,h]
 all_goals
  have h:bs=qb:=by
   simp [bN,dO,bR,aB,dr] at hq;simp [dK,ig,cR,aB,bF] at ha;rw [List.eq_nil_of_length_eq_zero (show bs.length=0 by omega),List.eq_nil_of_length_eq_zero (show qb.length=0 by omega)]
  simp [fH,h]
theorem rF(kd:Int)(pl nn wa:Int)(q1 q2:OA)(m1 m2 k1 k2:Nat)(qs:List Int)(qb:List Bool)(ap an:Int)(a1 a2:OA)(l1 l2 c1 c2:Nat)(ws:List Int)(bs:List Bool)(w:World)(g1:m1=qs.length)(g2:m2=qb.length)(t1:aZ w q1 qs)(t2:be w q2 qb)(hm1:qs.length<= 2000000)(hm2:qb.length<= 2000000)(h1:l1=ws.length)(h2:l2=bs.length)(s1:aZ w a1 ws)(s2:be w a2 bs)(hl1:ws.length<= 2000000)(hl2:bs.length<= 2000000)(hcap:l2<= c2)(hq:bN kd pl nn wa qs m1 m2=true)(ha:dK kd 0 ap an ws l1 l2=true):
 Calls prog 190 #[rq kd pl nn wa q1 q2 m1 m2 k1 k2,rp kd 0 ap an a1 a2 l1 l2 c1 c2] w fun e w'=>e=.returned (.bool (fH kd pl nn m1 m2 qs qb ap an l1 l2 ws bs))/\Below w.heap.size w w':=by
 obtain ⟨W0,hW0⟩:∃ W0,W0=(w.alloc (.cells #[Vi kd,Vi pl,Vi nn,.slice q1 m1 k1,.slice q2 m2 k2,Vi wa] 86)).alloc (.cells #[Vi kd,Vi 0,Vi ap,Vi an,.slice a1 l1 c1,.slice a2 l2 c2] 162):=⟨_,rfl⟩
 have HW:Hid (W0=_):=hW0;have B0:Below w.heap.size w W0:=by rw [hW0];exact ak (aa w _) (aa _ _)
 have X0:ae W0 w.heap.size 86 #[Vi kd,Vi pl,Vi nn,.slice q1 m1 k1,.slice q2 m2 k2,Vi wa]:=by rw [hW0];exact (ae.new w _ _).below (aa _ _)
 have Y0:ae W0 (w.heap.size+1) 162 #[Vi kd,Vi 0,Vi ap,Vi an,.slice a1 l1 c1,.slice a2 l2 c2]:=by
  rw [hW0];have:=ae.new (w.alloc (.cells #[Vi kd,Vi pl,Vi nn,.slice q1 m1 k1,.slice q2 m2 k2,Vi wa] 86)) #[Vi kd,Vi 0,Vi ap,Vi an,.slice a1 l1 c1,.slice a2 l2 c2] 162;simpa using this
 have HL:=gY g1 g2 h1 h2;have HS:=gY (t1.below B0) (t2.below B0) (s1.below B0) (s2.below B0);obtain ⟨x0,x1,x2,x3,x4,x5⟩:=X0.six;obtain ⟨y0,y1,y2,y3,y4,y5⟩:=Y0.six;clear hW0 g1 g2 h1 h2 t1 t2 s1 s2;have hK:=jW hq;by_cases h12:kd=1\/kd=2
 ·have hN:1<= nn/\nn<= 2000:=by obtain rfl|rfl:=h12 <;> simp [bN,dO,bR,aB,dr] at hq <;> omega
  have hB:1<= l2/\l2<= 2000:=by obtain rfl|rfl:=h12 <;> simp [dK,ig,cR,aB,bF] at ha <;> omega
  obtain ⟨N,rfl⟩:∃ N:Nat,nn=(N:Int):=⟨nn.toNat,by omega⟩
  rw [show fH kd pl (N:Int) m1 m2 qs qb ap an l1 l2 ws bs=(fG bs N && decide (l2=(N+7) / 8*8)) by simp [fH,h12]];obtain ⟨bb,hbb⟩:∃ b,(fG bs N && decide (l2=(N+7) / 8*8))=b:=⟨_,rfl⟩
  rw [hbb];have HBB:Hid (_=bb):=hbb;clear hq ha hK hbb;obtain rfl|rfl:=h12
  all_goals
   have d0:Below W0.heap.size W0 W0.drew:=Br.drew;obtain ⟨M,hM⟩:∃ M:Int,M=((N:Int)+7) / 8:=⟨_,rfl⟩
   have HM:Hid (M=((N:Int)+7) / 8/\0<= M/\M<= 1000):=⟨hM,by omega,by omega⟩
   have hw8:IntKind.i64.wrap (8*M)=8*M:=wraps_i64' _ (by omega) (by omega);obtain ⟨bk,off,ea,hbk,hc⟩:=b7 (k:=0) HS.out.2.2.2 (by have:=HL.out;omega);subst ea;clear hc;by_cases he:(l2:Int)=8*M
   ·have hle:N<= l2:=by omega
    have heb:((l2:Int) == 8*M)=true:=by simp [he]
    have heb2:decide ((l2:Int)=8*M)=true:=by simp [he]
    have HEQ:Hid (l2=(N+7) / 8*8):=by show l2=_;omega
    have hci:(l2:Int)<= (c2:Int):=by omega
    have hn0:(0:Int)<= (N:Int):=by omega
    have hnl2:(N:Int)<= (l2:Int):=by omega
    clear hM he;by_cases hnl:N=l2
    ·have hz:fG bs N=true:=decide_eq_true (fun k h1 h2=>by have:=HL.out;omega)
     have HE:Hid (bb=true):=by show _=true;rw [<- HBB.out];simp [hz,HEQ.out]
     have HZ:Hid (fG [] 0=true):=rfl;clear hz;have hnl':=hnl.symm;clear hnl HEQ;subst hnl';by_cases hcl:c2=l2
     ·subst hcl
      go_enter func190,ntmps190
      go_upto_region 1 with fail
      rw [<- HW.out];go_upto_region 4 with fail
      go_region_held3 (fun w'=>w'.cell? ⟨w.heap.size,2,none⟩=some (Vi (c2:Int))/\w'.cell? ⟨w.heap.size+1,5,none⟩=some (.slice (some ⟨bk,off,none⟩) c2 c2)) (go_keep)
       (first
        |(go_at_call 197;refine (eJ (c2:Int) _ (by omega) (by omega)).mono ?_;rintro e wx ⟨he,rfl⟩;rw [<- HM.out.1] at he;subst he)
        |(go_at_call 198;refine (fj _ 0 _ [] _ rfl (.inl rfl) (by simp) _ HZ.out).mono ?_;rintro e wC ⟨rfl,bC⟩;have BC:=ak (w0:=w) (by first|exact B0|exact B0.drew) bC;have XC:=(ae.below (by first|exact X0|exact X0.below d0) bC).six;have YC:=(ae.below (by first|exact Y0|exact Y0.below d0) bC).six;obtain ⟨xc0,xc1,xc2,xc3,xc4,xc5⟩:=XC;obtain ⟨yc0,yc1,yc2,yc3,yc4,yc5⟩:=YC;clear bC))
      all_goals (go_wp2;go_ret;exact ⟨by rw [HE.out];rfl,BC⟩)
     skip
     go_enter func190,ntmps190
     go_upto_region 1 with fail
     rw [<- HW.out];go_upto_region 4 with fail
     go_region_held3 (fun w'=>w'.cell? ⟨w.heap.size,2,none⟩=some (Vi (l2:Int))/\w'.cell? ⟨w.heap.size+1,5,none⟩=some (.slice (some ⟨bk,off,none⟩) l2 c2)) (go_keep)
      (first
       |(go_at_call 197;refine (eJ (l2:Int) _ (by omega) (by omega)).mono ?_;rintro e wx ⟨he,rfl⟩;rw [<- HM.out.1] at he;subst he)
       |(go_at_call 198;refine (fj _ 0 _ [] _ rfl (.inl rfl) (by simp) _ HZ.out).mono ?_;rintro e wC ⟨rfl,bC⟩;have BC:=ak (w0:=w) (by first|exact B0|exact B0.drew) bC;have XC:=(ae.below (by first|exact X0|exact X0.below d0) bC).six;have YC:=(ae.below (by first|exact Y0|exact Y0.below d0) bC).six;obtain ⟨xc0,xc1,xc2,xc3,xc4,xc5⟩:=XC;obtain ⟨yc0,yc1,yc2,yc3,yc4,yc5⟩:=YC;clear bC))
     all_goals (go_wp2;go_ret;exact ⟨by rw [HE.out];rfl,BC⟩)
    have hlt:N<l2:=by omega
    have HSl:Hid (be W0 (some ⟨bk,off+N,none⟩) (bs.drop N)):=tp N (by have:=HL.out;omega) HS.out.2.2.2;have HLd:Hid (l2-N=(bs.drop N).length):=by show _=_;rw [List.length_drop];have:=HL.out;omega
    have hnz:¬ l2-N=0:=by omega
    have hcn:¬ c2=N:=by omega
    cases hz:fG bs N
    ·have HE:Hid (bb=false):=by show _=false;rw [<- HBB.out];simp [hz,HEQ.out]
     have HZ:Hid (fG (bs.drop N) 0=false):=by show _=false;rw [nO];exact hz
     clear hz;go_enter func190,ntmps190
     go_upto_region 1 with fail
     rw [<- HW.out];go_upto_region 4 with fail
     go_region_held3 (fun w'=>w'.cell? ⟨w.heap.size,2,none⟩=some (Vi (N:Int))/\w'.cell? ⟨w.heap.size+1,5,none⟩=some (.slice (some ⟨bk,off,none⟩) l2 c2)) (go_keep)
      (first
       |(go_at_call 197;refine (eJ (N:Int) _ (by omega) (by omega)).mono ?_;rintro e wx ⟨he,rfl⟩;rw [<- HM.out.1] at he;subst he)
       |(go_at_call 198;refine (fj _ (l2-N) _ (bs.drop N) _ HLd.out (by first|exact HSl.out|exact HSl.out.below d0) (by rw [List.length_drop];omega) _ HZ.out).mono ?_;rintro e wC ⟨rfl,bC⟩;have BC:=ak (w0:=w) (by first|exact B0|exact B0.drew) bC;have XC:=(ae.below (by first|exact X0|exact X0.below d0) bC).six;have YC:=(ae.below (by first|exact Y0|exact Y0.below d0) bC).six;obtain ⟨xc0,xc1,xc2,xc3,xc4,xc5⟩:=XC;obtain ⟨yc0,yc1,yc2,yc3,yc4,yc5⟩:=YC;clear bC))
     all_goals (go_wp2;go_ret;exact ⟨by rw [HE.out];rfl,BC⟩)
    have HE:Hid (bb=true):=by show _=true;rw [<- HBB.out];simp [hz,HEQ.out]
    have HZ:Hid (fG (bs.drop N) 0=true):=by show _=true;rw [nO];exact hz
    clear hz;go_enter func190,ntmps190
    go_upto_region 1 with fail
    rw [<- HW.out];go_upto_region 4 with fail
    go_region_held3 (fun w'=>w'.cell? ⟨w.heap.size,2,none⟩=some (Vi (N:Int))/\w'.cell? ⟨w.heap.size+1,5,none⟩=some (.slice (some ⟨bk,off,none⟩) l2 c2)) (go_keep)
     (first
      |(go_at_call 197;refine (eJ (N:Int) _ (by omega) (by omega)).mono ?_;rintro e wx ⟨he,rfl⟩;rw [<- HM.out.1] at he;subst he)
      |(go_at_call 198;refine (fj _ (l2-N) _ (bs.drop N) _ HLd.out (by first|exact HSl.out|exact HSl.out.below d0) (by rw [List.length_drop];omega) _ HZ.out).mono ?_;rintro e wC ⟨rfl,bC⟩;have BC:=ak (w0:=w) (by first|exact B0|exact B0.drew) bC;have XC:=(ae.below (by first|exact X0|exact X0.below d0) bC).six;have YC:=(ae.below (by first|exact Y0|exact Y0.below d0) bC).six;obtain ⟨xc0,xc1,xc2,xc3,xc4,xc5⟩:=XC;obtain ⟨yc0,yc1,yc2,yc3,yc4,yc5⟩:=YC;clear bC))
    all_goals (go_wp2;go_ret;exact ⟨by rw [HE.out];rfl,BC⟩)
   have HE:Hid (bb=false):=by show _=false;rw [<- HBB.out];have:¬ l2=(N+7) / 8*8:=(by omega);simp [this]
   have heb:decide ((l2:Int)=IntKind.i64.wrap (8*M))=false:=by rw [hw8];simp [he]
   have hea:decide ((l2:Int)=8*M)=false:=by simp [he]
   have hed:((l2:Int) == 8*M)=false:=by simp [he]
   have hec:¬ (l2:Int)=IntKind.i64.wrap (8*M):=by rw [hw8];exact he
   clear hM;go_enter func190,ntmps190
   go_upto_region 1 with fail
   rw [<- HW.out];go_upto_region 4 with fail
   go_quiet ((go_at_call 197;refine Calls.quiet_of_same (rE N M _ (by omega) HM.out.1)))
   go_wp2;go_ret;exact ⟨by rw [HE.out];rfl,dR B0 _⟩
 obtain (rfl|rfl|rfl)|hw|(rfl|rfl):(kd=3\/kd=4\/kd=23)\/(kd=5\/kd=6\/kd=22)\/(kd=15\/kd=16):=by omega
 iterate 3
  focus
   clear hq ha;go_enter func190,ntmps190
   go_upto_region 1 with fail
   rw [<- HW.out];go_wp2;go_ret;refine ⟨?_,B0⟩
   simp [fH];first|done|rfl
 ·rw [xw hw HL.out hq ha]
  clear hq ha;obtain rfl|rfl|rfl:=hw
  all_goals
   go_enter func190,ntmps190
   go_upto_region 1 with fail
   rw [<- HW.out];by_cases hA:ap=pl
   rotate_left
   ·have hAb:(ap == pl)=false:=by simp [hA]
    go_wp2;go_ret;exact ⟨by simp [hA],B0⟩
   subst hA;go_wp2_with fail
   refine (bo (fQ _ _ _ _ _ _ bs qb _ HL.out.2.2.2 HL.out.2.1 HS.out.2.2.2 HS.out.2.1 hl2 hm2 _ rfl)).mono ?_;rintro e w1 ⟨b',⟨hE,rfl⟩|⟨hE,rfl⟩⟩;rotate_left
   ·have B1:=ak B0 b'
    go_wp2;go_ret;exact ⟨by simp [hE],B1⟩
   have HE:Hid (decide (bs=qb)=true):=hE;have B1:=ak B0 b';have X1:=X0.below b';have Y1:=Y0.below b';have HS1:Hid (aZ w1 q1 qs/\aZ w1 a1 ws):=⟨HS.out.1.below b',HS.out.2.2.1.below b'⟩
   clear hE b' B0 X0 Y0 x0 x1 x2 x3 x4 x5 y0 y1 y2 y3 y4 y5;obtain ⟨x0,x1,x2,x3,x4,x5⟩:=X1.six;obtain ⟨y0,y1,y2,y3,y4,y5⟩:=Y1.six;go_wp2_with fail
   refine (gg _ _ _ _ _ _ ws qs _ HL.out.2.2.1 HL.out.1 HS1.out.2 HS1.out.1 hl1 hm1 _ rfl).mono ?_;rintro e w2 ⟨rfl,b'⟩;have B2:=ak B1 b';clear b';go_wp2;go_ret;exact ⟨by rw [HE.out];simp,B2⟩
 all_goals
  clear hq ha;go_enter func190,ntmps190
  go_upto_region 1 with fail
  rw [<- HW.out];by_cases hA:ap=pl
  rotate_left
  ·have hAb:(ap == pl)=false:=by simp [hA]
   go_wp2;go_ret;exact ⟨by simp [fH,hA],B0⟩
  subst hA;go_wp2;go_ret;refine ⟨?_,B0⟩
  simp [fH];first|done|rfl
theorem oP(kd kd' fl:Int)(pl nn wa:Int)(q1 q2:OA)(m1 m2 k1 k2:Nat)(qs:List Int)(qb:List Bool)(ap an:Int)(a1 a2:OA)(l1 l2 c1 c2:Nat)(ws:List Int)(bs:List Bool)(w:World)(g1:m1=qs.length)(g2:m2=qb.length)(t1:aZ w q1 qs)(t2:be w q2 qb)(hm1:qs.length<= 2000000)(hm2:qb.length<= 2000000)(h1:l1=ws.length)(h2:l2=bs.length)(s1:aZ w a1 ws)(s2:be w a2 bs)(hl1:ws.length<= 2000000)(hl2:bs.length<= 2000000)(hcap:l2<= c2):
 Calls prog 173 #[rq kd pl nn wa q1 q2 m1 m2 k1 k2,rp kd' fl ap an a1 a2 l1 l2 c1 c2] w fun e w'=>e=.returned (.bool (gQ kd pl nn wa m1 m2 qs qb kd' fl ap an l1 l2 ws bs))/\Below w.heap.size w w':=by
 obtain ⟨W0,hW0⟩:∃ W0,W0=(w.alloc (.cells #[Vi kd,Vi pl,Vi nn,.slice q1 m1 k1,.slice q2 m2 k2,Vi wa] 86)).alloc (.cells #[Vi kd',Vi fl,Vi ap,Vi an,.slice a1 l1 c1,.slice a2 l2 c2] 162):=⟨_,rfl⟩
 have HW:Hid (W0=_):=hW0;have B0:Below w.heap.size w W0:=by rw [hW0];exact ak (aa w _) (aa _ _)
 have X0:ae W0 w.heap.size 86 #[Vi kd,Vi pl,Vi nn,.slice q1 m1 k1,.slice q2 m2 k2,Vi wa]:=by rw [hW0];exact (ae.new w _ _).below (aa _ _)
 have Y0:ae W0 (w.heap.size+1) 162 #[Vi kd',Vi fl,Vi ap,Vi an,.slice a1 l1 c1,.slice a2 l2 c2]:=by
  rw [hW0];have:=ae.new (w.alloc (.cells #[Vi kd,Vi pl,Vi nn,.slice q1 m1 k1,.slice q2 m2 k2,Vi wa] 86)) #[Vi kd',Vi fl,Vi ap,Vi an,.slice a1 l1 c1,.slice a2 l2 c2] 162;simpa using this
 have HL:=gY g1 g2 h1 h2;have HS:=gY (t1.below B0) (t2.below B0) (s1.below B0) (s2.below B0);obtain ⟨x0,x1,x2,x3,x4,x5⟩:=X0.six;obtain ⟨y0,y1,y2,y3,y4,y5⟩:=Y0.six;clear hW0 g1 g2 h1 h2 t1 t2 s1 s2;go_enter func173,ntmps173
 go_upto_region 1 with fail
 rw [<- HW.out];go_wp2_with fail
 refine (bo (ic kd pl nn wa q1 q2 m1 m2 k1 k2 qs qb _ HL.out.1 HL.out.2.1 HS.out.1 HS.out.2.1 hm1 hm2)).mono ?_;rintro e w1 ⟨b',⟨hq,rfl⟩|⟨hq,rfl⟩⟩;rotate_left
 ·have B1:=ak B0 b'
  go_wp2;go_ret;exact ⟨by simp [gQ,hq],B1⟩
 have HQ:Hid (bN kd pl nn wa qs m1 m2=true):=hq;have B1:=ak B0 b';have X1:=X0.below b';have Y1:=Y0.below b';have HS1:=gY (HS.out.1.below b') (HS.out.2.1.below b') (HS.out.2.2.1.below b') (HS.out.2.2.2.below b');clear hq b' B0 X0 Y0 x0 x1 x2 x3 x4 x5 y0 y1 y2 y3 y4 y5;obtain ⟨x0,x1,x2,x3,x4,x5⟩:=X1.six;obtain ⟨y0,y1,y2,y3,y4,y5⟩:=Y1.six;go_wp2_with fail
 refine (bo (nN kd' fl ap an a1 a2 l1 l2 c1 c2 ws bs _ HL.out.2.2.1 HL.out.2.2.2 HS1.out.2.2.1 HS1.out.2.2.2 hl1 hl2)).mono ?_;rintro e w2 ⟨b',⟨ha,rfl⟩|⟨ha,rfl⟩⟩;rotate_left
 ·have B2:=ak B1 b'
  go_wp2;go_ret;exact ⟨by simp [gQ,ha],B2⟩
 have B2:=ak B1 b';have X2:=X1.below b';have Y2:=Y1.below b';have HS2:=gY (HS1.out.1.below b') (HS1.out.2.1.below b') (HS1.out.2.2.1.below b') (HS1.out.2.2.2.below b');have HA:Hid (dK kd' fl ap an ws l1 l2=true):=ha;clear b' B1 X1 Y1 x0 x1 x2 x3 x4 x5 y0 y1 y2 y3 y4 y5;obtain ⟨x0,x1,x2,x3,x4,x5⟩:=X2.six;obtain ⟨y0,y1,y2,y3,y4,y5⟩:=Y2.six;by_cases hk:kd=kd'
 rotate_left
 ·have hkb:(kd == kd')=false:=by simp [hk]
  clear ha;go_wp2;go_ret;exact ⟨by simp [gQ,hk],B2⟩
 subst hk;clear ha;by_cases h0:fl=0
 rotate_left
 ·go_wp2
  go_ret;exact ⟨by simp [gQ,HQ.out,HA.out,h0],B2⟩
 subst h0;go_wp2_with fail
 refine (rF kd pl nn wa q1 q2 m1 m2 k1 k2 qs qb ap an a1 a2 l1 l2 c1 c2 ws bs _ HL.out.1 HL.out.2.1 HS2.out.1 HS2.out.2.1 hm1 hm2 HL.out.2.2.1 HL.out.2.2.2 HS2.out.2.2.1 HS2.out.2.2.2 hl1 hl2 hcap HQ.out HA.out).mono ?_;rintro e w3 ⟨rfl,b'⟩;have B3:=ak B2 b';clear b';go_wp2;go_ret;exact ⟨by simp [gQ,HQ.out,HA.out],B3⟩
end Go.Proofs.YtohikbpolofklaaGreat
