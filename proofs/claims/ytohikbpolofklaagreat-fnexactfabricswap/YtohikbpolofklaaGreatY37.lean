/- Texts that the proof needs, joined: P4 P5. -/
import Derived.Test.YtohikbpolofklaaGreatY36
import Derived.Test.YtohikbpolofklaaGreatY25
import Derived.Deep.RegionHeld3
set_option linter.unusedVariables false
set_option linter.unusedSimpArgs false
set_option maxHeartbeats 8000000
set_option maxRecDepth 20000
namespace Go.Proofs.YtohikbpolofklaaGreat
open Go.RowKit Go.Proofs.Tryz
theorem da(kd fl pl nn:Int)(a1 a2:OA)(l1 l2 c1 c2:Nat)(w:World)(v:Value)(h:¬ fl=0/\v=rp kd fl 0 0 none none 0 0 0 0\/fl=0/\((kd=1\/kd=2)/\v=rp kd 0 0 0 none a2 0 l2 0 c2\/(kd=3\/kd=4\/kd=23)/\v=rp kd 0 0 0 a1 none l1 0 c1 0\/kd=5/\v=rp kd 0 pl 0 none a2 0 l2 0 c2\/(kd=6\/kd=22)/\v=rp kd 0 pl 0 a1 none l1 0 c1 0\/(kd=15\/kd=16)/\v=rp kd 0 pl nn none none 0 0 0 0)):
 Calls prog 202 #[rp kd fl pl nn a1 a2 l1 l2 c1 c2] w fun e w'=>e=.returned v/\Below w.heap.size w w':=by
 obtain ⟨W0,hW0⟩:∃ W0,W0=(w.alloc (.cells #[Vi kd,Vi fl,Vi pl,Vi nn,.slice a1 l1 c1,.slice a2 l2 c2] 162)).alloc (.cells #[Vi 0,Vi 0,Vi 0,Vi 0,Zs,Zs] 162):=⟨_,rfl⟩
 have HW:Hid (W0=_):=hW0;have B0:Below w.heap.size w W0:=by rw [hW0];exact ak (aa w _) (aa _ _)
 have X0:ae W0 w.heap.size 162 #[Vi kd,Vi fl,Vi pl,Vi nn,.slice a1 l1 c1,.slice a2 l2 c2]:=by rw [hW0];exact (ae.new w _ _).below (aa _ _)
 have R0:ae W0 (w.heap.size+1) 162 #[Vi 0,Vi 0,Vi 0,Vi 0,Zs,Zs]:=by
  rw [hW0];have:=ae.new (w.alloc (.cells #[Vi kd,Vi fl,Vi pl,Vi nn,.slice a1 l1 c1,.slice a2 l2 c2] 162)) #[Vi 0,Vi 0,Vi 0,Vi 0,Zs,Zs] 162;simpa using this
 obtain ⟨x0,x1,x2,x3,x4,x5⟩:=X0.six;obtain ⟨y0,y1,y2,y3,y4,y5⟩:=R0.six;have fy:=R0.fro;clear hW0 X0 R0;rcases h with ⟨h0,hv⟩|⟨rfl,⟨rfl|rfl,hv⟩|⟨rfl|rfl|rfl,hv⟩|⟨rfl,hv⟩|⟨rfl|rfl,hv⟩|⟨rfl|rfl,hv⟩⟩
 all_goals
  have HV:Hid (v=_):=hv;clear hv;go_enter func202,ntmps202
  go_upto_region 1 with fail
  rw [<- HW.out];go_wp2;refine bodyPost_ret (v:=v) (by rw [HV.out];simp [results,results202,go_sem,y0,y1,y2,y3,y4,y5]) rfl ?_;exact ⟨rfl,lQ B0 (Nat.le_succ _)⟩
theorem nM(kd fl pl nn pl' nn':Int)(a1 a2 a1' a2':OA)(l1 l2 c1 c2 l1' l2' c1' c2':Nat)(ws:List Int)(bs:List Bool)(w:World)(h1:l1=ws.length)(h2:l2=bs.length)(s1:aZ w a1 ws)(s2:be w a2 bs)(hl1:ws.length<= 2000000)(hl2:bs.length<= 2000000)(hm1:l1'<= 2000000)(hm2:l2'<= 2000000)
 (s1':l1'=l1->aZ w a1' ws)(s2':l2'=l2->be w a2' bs)(b:Bool)(hb:(decide (pl'=pl) && (decide (nn'=nn) && (decide (l1'=l1) && decide (l2'=l2))))=b):
 Calls prog 174 #[rp kd fl pl' nn' a1' a2' l1' l2' c1' c2',rp kd fl pl nn a1 a2 l1 l2 c1 c2] w fun e w'=>e=.returned (.bool b)/\Below w.heap.size w w':=by
 obtain ⟨W0,hW0'⟩:∃ W0,W0=(w.alloc (.cells #[Vi kd,Vi fl,Vi pl',Vi nn',.slice a1' l1' c1',.slice a2' l2' c2'] 162)).alloc (.cells #[Vi kd,Vi fl,Vi pl,Vi nn,.slice a1 l1 c1,.slice a2 l2 c2] 162):=⟨_,rfl⟩
 have hW0:Hid (W0=_):=hW0';have B0:Below w.heap.size w W0:=by rw [hW0'];exact ak (aa w _) (aa _ _)
 have X0:ae W0 w.heap.size 162 #[Vi kd,Vi fl,Vi pl',Vi nn',.slice a1' l1' c1',.slice a2' l2' c2']:=by rw [hW0'];exact (ae.new w _ _).below (aa _ _)
 have Y0:ae W0 (w.heap.size+1) 162 #[Vi kd,Vi fl,Vi pl,Vi nn,.slice a1 l1 c1,.slice a2 l2 c2]:=by
  rw [hW0'];have:=ae.new (w.alloc (.cells #[Vi kd,Vi fl,Vi pl',Vi nn',.slice a1' l1' c1',.slice a2' l2' c2'] 162)) #[Vi kd,Vi fl,Vi pl,Vi nn,.slice a1 l1 c1,.slice a2 l2 c2] 162;simpa using this
 have HL:Hid (l1=ws.length/\l2=bs.length):=⟨h1,h2⟩
 have HS:Hid (aZ W0 a1 ws/\be W0 a2 bs):=⟨s1.below B0,s2.below B0⟩
 have HS':Hid ((l1'=l1->aZ W0 a1' ws)/\(l2'=l2->be W0 a2' bs)):=⟨fun h=>(s1' h).below B0,fun h=>(s2' h).below B0⟩
 have HM:Hid (l1<= 20000000/\l2<= 20000000):=by show _/\_;omega
 obtain ⟨x0,x1,x2,x3,x4,x5⟩:=X0.six;obtain ⟨y0,y1,y2,y3,y4,y5⟩:=Y0.six;clear hW0' h1 h2 s1 s2 s1' s2';by_cases hA:pl'=pl
 ·by_cases hN:nn'=nn
  ·subst hA hN
   by_cases hw:l1'=l1
   ·by_cases hq:l2'=l2
    ·have e:b=true:=by rw [<- hb];simp [hw,hq]
     subst e;clear hb;subst hw hq;have T1:Hid (aZ W0 a1' ws/\be W0 a2' bs):=⟨HS'.out.1 rfl,HS'.out.2 rfl⟩
     go_enter func174,ntmps174
     go_upto_region 1 with fail
     rw [<- hW0.out];go_wp2_with fail
     refine (fW _ _ _ _ _ _ ws _ HL.out.1 HL.out.1 T1.out.1 HS.out.1 hl1).mono ?_;rintro e w1 ⟨rfl,b'⟩;have b1:=ak B0 b';obtain ⟨x0,x1,x2,x3,x4,x5⟩:=(X0.below b').six;obtain ⟨y0,y1,y2,y3,y4,y5⟩:=(Y0.below b').six;go_wp2_with fail
     refine (iw _ _ _ _ _ _ bs _ HL.out.2 HL.out.2 (T1.out.2.below b') (HS.out.2.below b') hl2).mono ?_;rintro e w2 ⟨rfl,b2'⟩;go_wp2;go_ret;exact ⟨rfl,ak b1 b2'⟩
    have e:b=false:=by rw [<- hb];simp [hq]
    subst e;have hqi:¬ (l2':Int)=(l2:Int):=by omega
    clear hb;subst hw;have T1:Hid (aZ W0 a1' ws):=HS'.out.1 rfl;go_enter func174,ntmps174
    go_upto_region 1 with fail
    rw [<- hW0.out];go_wp2_with fail
    refine (fW _ _ _ _ _ _ ws _ HL.out.1 HL.out.1 T1.out HS.out.1 hl1).mono ?_;rintro e w1 ⟨rfl,b'⟩;have b1:=ak B0 b';obtain ⟨x0,x1,x2,x3,x4,x5⟩:=(X0.below b').six;obtain ⟨y0,y1,y2,y3,y4,y5⟩:=(Y0.below b').six;go_wp2_with fail
    refine (fN _ _ _ _ _ _ _ hqi (by omega) HM.out.2).mono ?_;rintro e w2 ⟨rfl,b2'⟩;go_wp2;go_ret;exact ⟨rfl,ak b1 b2'⟩
   have e:b=false:=by rw [<- hb];simp [hw]
   subst e;have hwi:¬ (l1':Int)=(l1:Int):=by omega
   clear hb;go_enter func174,ntmps174
   go_upto_region 1 with fail
   rw [<- hW0.out];go_wp2_with fail
   refine (f8 _ _ _ _ _ _ _ hwi (by omega) HM.out.1).mono ?_;rintro e w1 ⟨rfl,b'⟩;go_wp2;go_ret;exact ⟨rfl,ak B0 b'⟩
  have e:b=false:=by rw [<- hb];simp [hN]
  subst e;subst hA;clear hb;go_enter func174,ntmps174
  go_upto_region 1 with fail
  rw [<- hW0.out];go_wp2;go_ret;exact ⟨rfl,B0⟩
 have e:b=false:=by rw [<- hb];simp [hA]
 subst e;clear hb;go_enter func174,ntmps174
 go_upto_region 1 with fail
 rw [<- hW0.out];go_wp2;go_ret;exact ⟨rfl,B0⟩
abbrev j0(c:Int):Value:=.iface 230 (.agg #[Vi c])
theorem fT{w:World}{a:OA}{ws:List Int}(h:ws.length=0):aZ w a ws:=.inl (List.eq_nil_of_length_eq_zero h)
theorem eQ{w:World}{a:OA}{bs:List Bool}(h:bs.length=0):be w a bs:=.inl (List.eq_nil_of_length_eq_zero h)
def mj(kd:Int)(b:Bool):Value:=bif b then .nilIface else bif cR kd then j0 3 else j0 1
theorem lE(kd fl pl nn:Int)(a1 a2:OA)(l1 l2 c1 c2:Nat)(w:World)(hk:cR kd=false):
 Calls prog 196 #[rp kd fl pl nn a1 a2 l1 l2 c1 c2] w fun e w'=>e=.returned (j0 1)/\Below w.heap.size w w':=by
 have B0:=aa w (.cells #[Vi kd,Vi fl,Vi pl,Vi nn,.slice a1 l1 c1,.slice a2 l2 c2] 162);go_enter func196,ntmps196
 go_wp2_with (go_at_call 200;refine (iF _ _ _ hk).mono ?_;rintro e wx ⟨rfl,rfl⟩)
 go_ret;exact ⟨rfl,B0⟩
theorem mD(kd fl pl nn:Int)(a1 a2:OA)(l1 l2 c1 c2:Nat)(ws:List Int)(w:World)(h1:l1=ws.length)(s1:aZ w a1 ws)(hl1:ws.length<= 2000000)(hl2:l2<= 20000000)(hk:cR kd=true)(hT:tB kd fl pl nn ws l1 l2=false):
 Calls prog 196 #[rp kd fl pl nn a1 a2 l1 l2 c1 c2] w fun e w'=>e=.returned (j0 3)/\Below w.heap.size w w':=by
 obtain ⟨B0,X0⟩:=bx w #[Vi kd,Vi fl,Vi pl,Vi nn,.slice a1 l1 c1,.slice a2 l2 c2] 162;have HS:=dM (s1.below B0);have HL:Hid (l1=ws.length):=h1;have HT:Hid (tB kd fl pl nn ws l1 l2=false):=hT;obtain ⟨W0,hW0⟩:∃ W0,W0=w.alloc (.cells #[Vi kd,Vi fl,Vi pl,Vi nn,.slice a1 l1 c1,.slice a2 l2 c2] 162):=⟨_,rfl⟩
 rw [<- hW0] at B0 X0 HS;have HW:Hid (W0=_):=hW0;have d0:Below W0.heap.size W0 W0.drew:=Br.drew;obtain ⟨x0,x1,x2,x3,x4,x5⟩:=X0.six;clear hW0 h1 s1 hT;go_enter func196,ntmps196
 go_upto_region 1 with fail
 rw [<- HW.out];go_upto_region 3 with (go_at_call 200;refine (iF _ _ _ hk).mono ?_;rintro e wx ⟨rfl,rfl⟩)
 go_region_with (first
  |(go_at_call 201;refine (kO kd fl pl nn a1 a2 l1 l2 c1 c2 ws _ HL.out (by first|exact HS.out|exact HS.out.below d0) hl1 hl2 hk _ HT.out).mono ?_;rintro e wA ⟨rfl,bA⟩;have BA:=ak (w0:=w) (by first|exact B0|exact B0.drew) bA;have XA:=ae.below (by first|exact X0|exact X0.below d0) bA;obtain ⟨xa0,xa1,xa2,xa3,xa4,xa5⟩:=XA.six;clear bA))
 all_goals (go_wp2;go_ret;exact ⟨rfl,BA⟩)
theorem cd(kd fl pl nn:Int)(a1 a2:OA)(l1 l2 c1 c2:Nat)(ws:List Int)(bs:List Bool)(w:World)(h1:l1=ws.length)(h2:l2=bs.length)(s1:aZ w a1 ws)(s2:be w a2 bs)(hl1:ws.length<= 2000000)(hl2:bs.length<= 2000000)(hk:cR kd=true)(hT:tB kd fl pl nn ws l1 l2=true)
 (pl' nn':Int)(a1' a2':OA)(l1' l2' c1' c2':Nat)(hm1:l1'<= 2000000)(hm2:l2'<= 2000000)(s1':l1'=l1->aZ w a1' ws)(s2':l2'=l2->be w a2' bs)
 (hnm:∀ u,Calls prog 202 #[rp kd fl pl nn a1 a2 l1 l2 c1 c2] u fun e u'=>e=.returned (rp kd fl pl' nn' a1' a2' l1' l2' c1' c2')/\Below u.heap.size u u')
 (b:Bool) (hb:(decide (pl'=pl) && (decide (nn'=nn) && (decide (l1'=l1) && decide (l2'=l2))))=b):
 Calls prog 196 #[rp kd fl pl nn a1 a2 l1 l2 c1 c2] w fun e w'=>e=.returned (bif b then .nilIface else j0 3)/\Below w.heap.size w w':=by
 obtain ⟨B0,X0⟩:=bx w #[Vi kd,Vi fl,Vi pl,Vi nn,.slice a1 l1 c1,.slice a2 l2 c2] 162;have HS:Hid (aZ w a1 ws/\be w a2 bs):=⟨s1,s2⟩
 have HS':Hid ((l1'=l1->aZ w a1' ws)/\(l2'=l2->be w a2' bs)):=⟨s1',s2'⟩
 have HL:Hid (l1=ws.length/\l2=bs.length):=⟨h1,h2⟩
 have HT:Hid (tB kd fl pl nn ws l1 l2=true):=hT;have HNM:Hid (∀ u,Calls prog 202 #[rp kd fl pl nn a1 a2 l1 l2 c1 c2] u fun e u'=>e=.returned (rp kd fl pl' nn' a1' a2' l1' l2' c1' c2')/\Below u.heap.size u u'):=hnm;have HB:Hid ((decide (pl'=pl) && (decide (nn'=nn) && (decide (l1'=l1) && decide (l2'=l2))))=b):=hb;obtain ⟨W0,hW0⟩:∃ W0,W0=w.alloc (.cells #[Vi kd,Vi fl,Vi pl,Vi nn,.slice a1 l1 c1,.slice a2 l2 c2] 162):=⟨_,rfl⟩
 rw [<- hW0] at B0 X0;have HW:Hid (W0=_):=hW0;have d0:Below W0.heap.size W0 W0.drew:=Br.drew;have B0d:Below w.heap.size w W0.drew:=B0.drew;obtain ⟨x0,x1,x2,x3,x4,x5⟩:=X0.six;clear hW0 h1 h2 s1 s2 s1' s2' hT hnm hb;go_enter func196,ntmps196
 go_upto_region 1 with fail
 rw [<- HW.out];go_upto_region 3 with (go_at_call 200;refine (iF _ _ _ hk).mono ?_;rintro e wx ⟨rfl,rfl⟩)
 cases b
 all_goals (
  go_region_held3 (fun w'=>w'.cell? ⟨w.heap.size,0,none⟩=some (Vi kd)/\w'.cell? ⟨w.heap.size,1,none⟩=some (Vi fl)/\w'.cell? ⟨w.heap.size,2,none⟩=some (Vi pl)/\w'.cell? ⟨w.heap.size,3,none⟩=some (Vi nn)/\w'.cell? ⟨w.heap.size,4,none⟩=some (.slice a1 l1 c1)/\w'.cell? ⟨w.heap.size,5,none⟩=some (.slice a2 l2 c2)) (go_keep)
   (first
    |(go_at_call 201;refine (kO kd fl pl nn a1 a2 l1 l2 c1 c2 ws _ HL.out.1 (HS.out.1.below (by first|exact B0|exact B0d)) hl1 (by have:=HL.out;omega) hk _ HT.out).mono ?_;rintro e wA ⟨rfl,bA⟩;have BA:=ak (w0:=w) (by first|exact B0|exact B0d) bA;have XA:=ae.below (by first|exact X0|exact X0.below d0) bA;obtain ⟨xa0,xa1,xa2,xa3,xa4,xa5⟩:=XA.six;clear bA)
    |(go_at_call 202;refine (HNM.out _).mono ?_;rintro e wB ⟨rfl,bB⟩;have BB:=ak BA bB;have XB:=XA.below bB;obtain ⟨xb0,xb1,xb2,xb3,xb4,xb5⟩:=XB.six;clear bB)
    |(go_at_call 174;refine (nM kd fl pl nn pl' nn' a1 a2 a1' a2' l1 l2 c1 c2 l1' l2' c1' c2' ws bs _ HL.out.1 HL.out.2 (HS.out.1.below BB) (HS.out.2.below BB) hl1 hl2 hm1 hm2 (fun h=>(HS'.out.1 h).below BB) (fun h=>(HS'.out.2 h).below BB) _ HB.out).mono ?_;rintro e wC ⟨rfl,bC⟩;have BC:=ak BB bC;obtain ⟨xc0,xc1,xc2,xc3,xc4,xc5⟩:=(XB.below bC).six;clear bC))
  all_goals (go_wp2;go_ret;exact ⟨rfl,BC⟩))
theorem mE(kd fl pl nn:Int)(a1 a2:OA)(l1 l2 c1 c2:Nat)(ws:List Int)(bs:List Bool)(w:World)(h1:l1=ws.length)(h2:l2=bs.length)(s1:aZ w a1 ws)(s2:be w a2 bs)(hl1:ws.length<= 2000000)(hl2:bs.length<= 2000000):
 Calls prog 196 #[rp kd fl pl nn a1 a2 l1 l2 c1 c2] w fun e w'=>e=.returned (mj kd (dK kd fl pl nn ws l1 l2))/\Below w.heap.size w w':=by
 cases hk:cR kd
 ·have e:mj kd (dK kd fl pl nn ws l1 l2)=j0 1:=by simp [mj,dK,hk]
  rw [e];exact lE kd fl pl nn a1 a2 l1 l2 c1 c2 w hk
 have e:mj kd (dK kd fl pl nn ws l1 l2)=(bif dK kd fl pl nn ws l1 l2 then .nilIface else j0 3):=by simp [mj,hk]
 rw [e,tn kd fl pl nn ws l1 l2 h1 hk];clear e;cases hT:tB kd fl pl nn ws l1 l2
 ·exact mD kd fl pl nn a1 a2 l1 l2 c1 c2 ws w h1 s1 hl1 (by omega) hk hT
 rw [Bool.true_and];by_cases h0:fl=0
 ·subst h0
  obtain rfl|rfl|rfl|rfl|rfl|rfl|rfl|rfl|rfl|rfl:=of_decide_eq_true hk
  ·exact cd 1 0 pl nn a1 a2 l1 l2 c1 c2 ws bs w h1 h2 s1 s2 hl1 hl2 hk hT 0 0 none a2 0 l2 0 c2 (by omega) (by omega) (fun h=>fT (h1.symm.trans h.symm)) (fun h=>s2) (fun u=>da 1 0 pl nn a1 a2 l1 l2 c1 c2 u _ (by simp)) _ (by simp [gV,bF,eq_comm])
  ·exact cd 2 0 pl nn a1 a2 l1 l2 c1 c2 ws bs w h1 h2 s1 s2 hl1 hl2 hk hT 0 0 none a2 0 l2 0 c2 (by omega) (by omega) (fun h=>fT (h1.symm.trans h.symm)) (fun h=>s2) (fun u=>da 2 0 pl nn a1 a2 l1 l2 c1 c2 u _ (by simp)) _ (by simp [gV,bF,eq_comm])
  ·exact cd 3 0 pl nn a1 a2 l1 l2 c1 c2 ws bs w h1 h2 s1 s2 hl1 hl2 hk hT 0 0 a1 none l1 0 c1 0 (by omega) (by omega) (fun h=>s1) (fun h=>eQ (h2.symm.trans h.symm)) (fun u=>da 3 0 pl nn a1 a2 l1 l2 c1 c2 u _ (by simp)) _ (by simp [gV,bF,eq_comm])
  ·exact cd 4 0 pl nn a1 a2 l1 l2 c1 c2 ws bs w h1 h2 s1 s2 hl1 hl2 hk hT 0 0 a1 none l1 0 c1 0 (by omega) (by omega) (fun h=>s1) (fun h=>eQ (h2.symm.trans h.symm)) (fun u=>da 4 0 pl nn a1 a2 l1 l2 c1 c2 u _ (by simp)) _ (by simp [gV,bF,eq_comm])
  ·exact cd 5 0 pl nn a1 a2 l1 l2 c1 c2 ws bs w h1 h2 s1 s2 hl1 hl2 hk hT pl 0 none a2 0 l2 0 c2 (by omega) (by omega) (fun h=>fT (h1.symm.trans h.symm)) (fun h=>s2) (fun u=>da 5 0 pl nn a1 a2 l1 l2 c1 c2 u _ (by simp)) _ (by simp [gV,bF,eq_comm])
  ·exact cd 6 0 pl nn a1 a2 l1 l2 c1 c2 ws bs w h1 h2 s1 s2 hl1 hl2 hk hT pl 0 a1 none l1 0 c1 0 (by omega) (by omega) (fun h=>s1) (fun h=>eQ (h2.symm.trans h.symm)) (fun u=>da 6 0 pl nn a1 a2 l1 l2 c1 c2 u _ (by simp)) _ (by simp [gV,bF,eq_comm])
  ·exact cd 15 0 pl nn a1 a2 l1 l2 c1 c2 ws bs w h1 h2 s1 s2 hl1 hl2 hk hT pl nn none none 0 0 0 0 (by omega) (by omega) (fun h=>fT (h1.symm.trans h.symm)) (fun h=>eQ (h2.symm.trans h.symm)) (fun u=>da 15 0 pl nn a1 a2 l1 l2 c1 c2 u _ (by simp)) _ (by simp [gV,bF,eq_comm])
  ·exact cd 16 0 pl nn a1 a2 l1 l2 c1 c2 ws bs w h1 h2 s1 s2 hl1 hl2 hk hT pl nn none none 0 0 0 0 (by omega) (by omega) (fun h=>fT (h1.symm.trans h.symm)) (fun h=>eQ (h2.symm.trans h.symm)) (fun u=>da 16 0 pl nn a1 a2 l1 l2 c1 c2 u _ (by simp)) _ (by simp [gV,bF,eq_comm])
  ·exact cd 22 0 pl nn a1 a2 l1 l2 c1 c2 ws bs w h1 h2 s1 s2 hl1 hl2 hk hT pl 0 a1 none l1 0 c1 0 (by omega) (by omega) (fun h=>s1) (fun h=>eQ (h2.symm.trans h.symm)) (fun u=>da 22 0 pl nn a1 a2 l1 l2 c1 c2 u _ (by simp)) _ (by simp [gV,bF,eq_comm])
  exact cd 23 0 pl nn a1 a2 l1 l2 c1 c2 ws bs w h1 h2 s1 s2 hl1 hl2 hk hT 0 0 a1 none l1 0 c1 0 (by omega) (by omega) (fun h=>s1) (fun h=>eQ (h2.symm.trans h.symm)) (fun u=>da 23 0 pl nn a1 a2 l1 l2 c1 c2 u _ (by simp)) _ (by simp [gV,bF,eq_comm])
 exact cd kd fl pl nn a1 a2 l1 l2 c1 c2 ws bs w h1 h2 s1 s2 hl1 hl2 hk hT 0 0 none none 0 0 0 0 (by omega) (by omega) (fun h=>fT (h1.symm.trans h.symm)) (fun h=>eQ (h2.symm.trans h.symm)) (fun u=>da kd fl pl nn a1 a2 l1 l2 c1 c2 u _ (.inl ⟨h0,rfl⟩)) _ (by simp [gV,bF,eq_comm,h0])
theorem wR(T:TypeId)(v:Value)(w:World):(binOp .eql 224 (.iface T v) .nilIface).run prog w=.ok (.bool false) w:=by kernel_rfl
theorem uY(w:World):(binOp .eql 224 .nilIface .nilIface).run prog w=.ok (.bool true) w:=by kernel_rfl
theorem nN(kd fl pl nn:Int)(a1 a2:OA)(l1 l2 c1 c2:Nat)(ws:List Int)(bs:List Bool)(w:World)(h1:l1=ws.length)(h2:l2=bs.length)(s1:aZ w a1 ws)(s2:be w a2 bs)(hl1:ws.length<= 2000000)(hl2:bs.length<= 2000000):
 Calls prog 189 #[rp kd fl pl nn a1 a2 l1 l2 c1 c2] w fun e w'=>e=.returned (.bool (dK kd fl pl nn ws l1 l2))/\Below w.heap.size w w':=by
 obtain ⟨B0,X0⟩:=bx w #[Vi kd,Vi fl,Vi pl,Vi nn,.slice a1 l1 c1,.slice a2 l2 c2] 162;have HS:Hid (aZ w a1 ws/\be w a2 bs):=⟨s1,s2⟩
 have HL:Hid (l1=ws.length/\l2=bs.length):=⟨h1,h2⟩
 obtain ⟨x0,x1,x2,x3,x4,x5⟩:=X0.six;clear h1 h2 s1 s2 X0;have q1:=wR;have q2:=uY;go_enter func189,ntmps189
 go_wp2_with fail
 refine (mE kd fl pl nn a1 a2 l1 l2 c1 c2 ws bs _ HL.out.1 HL.out.2 (HS.out.1.below B0) (HS.out.2.below B0) hl1 hl2).mono ?_;rintro e w1 ⟨rfl,b'⟩;have B1:=ak B0 b';clear b' B0;cases hok:dK kd fl pl nn ws l1 l2
 ·cases hk:cR kd
  ·simp only [mj,hk,cond_false,cond_true]
   go_wp2;go_ret;exact ⟨by rw [hok];rfl,B1⟩
  simp only [mj,hk,cond_false,cond_true];go_wp2;go_ret;exact ⟨by rw [hok];rfl,B1⟩
 simp only [mj,cond_true];go_wp2;go_ret;exact ⟨by rw [hok];rfl,B1⟩
end Go.Proofs.YtohikbpolofklaaGreat
