/- Texts that the proof needs, joined: Cz1. -/
import Derived.Test.YtohikbpolofklaaGreatY11
import Derived.Test.YtohikbpolofklaaGreatY1
import Derived.Deep.RegionWith
set_option linter.unusedVariables false
set_option linter.unusedSimpArgs false
set_option maxHeartbeats 4000000
set_option maxRecDepth 20000
namespace Go.Proofs.YtohikbpolofklaaGreat
open Go.RowKit Go.Joins Go.Proofs.Tryz
abbrev mM:Array Value:=#[Vi 0,Vi 0,Vi 0,Vi 0,Vi 0,Zs,Zs,Vi 0]
theorem ae.six3{w:World}{g:Nat}{t:TypeId}{v0 v1 v2 v3 v4 v5:Value}(h:ae w g t #[v0,v1,v2,v3,v4,v5]):w.cell? ⟨g,0,none⟩=some v0/\w.cell? ⟨g,1,none⟩=some v1/\w.cell? ⟨g,2,none⟩=some v2/\w.cell? ⟨g,3,none⟩=some v3/\w.cell? ⟨g,4,none⟩=some v4/\w.cell? ⟨g,5,none⟩=some v5:=
 ⟨h.cell 0 rfl,h.cell 1 rfl,h.cell 2 rfl,h.cell 3 rfl,h.cell 4 rfl,h.cell 5 rfl⟩
abbrev dY(kd fl pl nn:Int)(a1 a2:OA)(l1 l2 c1 c2:Nat):Array Value:=#[Vi kd,Vi fl,Vi pl,Vi nn,.slice a1 l1 c1,.slice a2 l2 c2]
abbrev dZ(kd pl nn wa:Int)(a1 a2:OA)(l1 l2 c1 c2:Nat):Array Value:=#[Vi kd,Vi pl,Vi nn,.slice a1 l1 c1,.slice a2 l2 c2,Vi wa]
abbrev pq:Array Value:=#[Vi 0,Vi 0,Vi 0,Zs,Zs,Vi 0]
def xy(w w':World)(e:Ending)(kd pl nn wa:Int)(l1 l2:Nat)(ws:List Int)(bs:List Bool):Prop:=
 ∃ a1 a2 c1 c2,e=.returned (.agg (dZ kd pl nn wa a1 a2 l1 l2 c1 c2))/\bi w' w.heap.size (.slice a1 l1 c1) ws/\bD w' w.heap.size (.slice a2 l2 c2) bs/\Below w.heap.size w w'
def xz(w:World)(B:Nat)(kd pl nn wa:Int)(m1 m2:Nat)(ws:List Int)(bs:List Bool)(wx:World):Prop:=
 ∃ g1 g2,ae wx B 86 (dZ kd pl nn wa (some ⟨g1,0,none⟩) (some ⟨g2,0,none⟩) m1 m2 m1 m2)/\bi wx w.heap.size (.slice (some ⟨g1,0,none⟩) m1 m1) ws/\bD wx w.heap.size (.slice (some ⟨g2,0,none⟩) m2 m2) bs/\ae wx (B+1) 86 pq/\Below w.heap.size w wx
theorem yo{w u:World}{B:Nat}{kd pl nn wa:Int}{q1 q2:OA}{m1 m2 k1 k2 g1 g2:Nat}{ws:List Int}{bs:List Bool}(hB:ae u B 86 (dZ kd pl nn wa q1 q2 m1 m2 k1 k2))(o1:bi u w.heap.size (.slice (some ⟨g1,0,none⟩) m1 m1) ws)(o2:bD u w.heap.size (.slice (some ⟨g2,0,none⟩) m2 m2) bs)(hR:ae u (B+1) 86 pq)(hb:Below w.heap.size w u)(hBw:w.heap.size<= B):
 xz w B kd pl nn wa m1 m2 ws bs ((u.setCell ⟨B,3,none⟩ (.slice (some ⟨g1,0,none⟩) m1 m1)).setCell ⟨B,4,none⟩ (.slice (some ⟨g2,0,none⟩) m2 m2)):=by
 refine ⟨g1,g2,?_,bn (bn o1 ⟨_,hB⟩ (by decide)) (bp.set ⟨_,hB⟩) (by decide),bn (bn o2 ⟨_,hB⟩ (by decide)) (bp.set ⟨_,hB⟩) (by decide),(hR.setNe (by omega)).setNe (by omega),(hb.setCell (p:=⟨B,3,none⟩) hBw _).setCell (p:=⟨B,4,none⟩) hBw _⟩
 have h9:=(hB.set 3 (.slice (some ⟨g1,0,none⟩) m1 m1)).set 4 (.slice (some ⟨g2,0,none⟩) m2 m2);simpa using h9
theorem kg(kd pl nn wa:Int)(q1 q2:OA)(m1 m2 k1 k2:Nat)(ws:List Int)(bs:List Bool)(w:World)(h1:m1=ws.length)(h2:m2=bs.length)(s1:aZ w q1 ws)(s2:be w q2 bs)(hl1:m1<= 2000000)(hl2:m2<= 2000000):
 Calls prog 136 #[.agg (dZ kd pl nn wa q1 q2 m1 m2 k1 k2)] w fun e w'=>xy w w' e kd pl nn wa m1 m2 ws bs:=by
 obtain ⟨B,hB⟩:∃ B,B=w.heap.size:=⟨_,rfl⟩
 obtain ⟨W,hW⟩:∃ W,W=(w.alloc (.cells (dZ kd pl nn wa q1 q2 m1 m2 k1 k2) 86)).alloc (.cells pq 86):=⟨_,rfl⟩
 have bW:Below w.heap.size w W:=by rw [hW];exact af (aa _ _) (aa _ _)
 have HW:Hid (Below w.heap.size w W/\ae W B 86 (dZ kd pl nn wa q1 q2 m1 m2 k1 k2)/\ae W (B+1) 86 pq/\aZ W q1 ws/\be W q2 bs/\m1=ws.length/\m2=bs.length/\w.heap.size<= B):=⟨bW,by rw [hW,hB];exact (ae.new w _ _).below (aa _ _),by rw [hW,hB];have:=ae.new (w.alloc (.cells (dZ kd pl nn wa q1 q2 m1 m2 k1 k2) 86)) pq 86;simpa using this,s1.below bW,s2.below bW,h1,h2,by omega⟩
 clear bW h1 h2 s1 s2;go_enter func136,ntmps136
 go_upto_region 1 with fail
 rw [<- hW];have hB1:w.heap.size+1=B+1:=by omega
 rw [hB1,<- hB];clear hW hB hB1;obtain ⟨y0,y1,y2,y3,y4,y5⟩:=HW.out.2.1.six3;go_cut [] (fun wx=>xz w B kd pl nn wa m1 m2 ws bs wx)
 case first=>
  go_region_with (first
   |(go_at_call 168;refine (pk q1 m1 k1 ws _ HW.out.2.2.2.2.2.1 (HW.out.2.2.2.1.below (by first|exact Br|exact Br.drew|exact Br.drew.drew)) (by have:=HW.out.2.2.2.2.2.1;omega)).mono ?_;rintro e w1 ⟨g1,rfl,O1',b1'⟩;have H1:Hid (Below W.heap.size W w1/\bi w1 w.heap.size (.slice (some ⟨g1,0,none⟩) m1 m1) ws):=(by have b9:Below W.heap.size W w1:=af (by first|exact Br|exact Br.drew|exact Br.drew.drew) b1';exact ⟨b9,bi.mono (show bi _ _ _ _ from O1') HW.out.1.size⟩);clear O1' b1';obtain ⟨z0,z1,z2,z3,z4,z5⟩:=(HW.out.2.1.below H1.out.1).six3;have zf:=(HW.out.2.1.below H1.out.1).fro;have zf3:=zf 3;have zf4:=zf 4)
   |(go_at_call 137;refine (kZ q2 m2 k2 bs _ HW.out.2.2.2.2.2.2.1 (HW.out.2.2.2.2.1.below (by first|exact H1.out.1|exact H1.out.1.drew|exact H1.out.1.drew.drew)) (by have:=HW.out.2.2.2.2.2.2.1;omega)).mono ?_;rintro e w2 ⟨g2,rfl,O2',b2'⟩;have H2:Hid (Below W.heap.size W w2/\bi w2 w.heap.size (.slice (some ⟨g1,0,none⟩) m1 m1) ws/\bD w2 w.heap.size (.slice (some ⟨g2,0,none⟩) m2 m2) bs):=(by have b8:Below w1.heap.size w1 w2:=af (by first|exact Br|exact Br.drew|exact Br.drew.drew) b2';have b9:=af H1.out.1 b8;exact ⟨b9,H1.out.2.below b8,bD.mono (show bD _ _ _ _ from O2') (Nat.le_trans HW.out.1.size (Nat.le_trans H1.out.1.size (by first|exact Nl|(simp))))⟩);clear O2' b2';obtain ⟨x0,x1,x2,x3,x4,x5⟩:=(HW.out.2.1.below H2.out.1).six3;have xf:=(HW.out.2.1.below H2.out.1).fro;have xf3:=xf 3;have xf4:=xf 4))
  all_goals (go_wp2_with fail;go_meet;first|exact yo (HW.out.2.1.below H2.out.1) H2.out.2.1 H2.out.2.2 (HW.out.2.2.1.below H2.out.1) (af HW.out.1 H2.out.1) HW.out.2.2.2.2.2.2.2|exact cqB (HW.out.2.1.below H2.out.1) H2.out.2.1 H2.out.2.2 (HW.out.2.2.1.below H2.out.1) (af HW.out.1 H2.out.1) HW.out.2.2.2.2.2.2.2)
 case rest=>
 obtain ⟨g1,g2,X1,O1,O2,R1,b1⟩:=hcut;rename World=>u
 have HX:Hid (bi u w.heap.size (.slice (some ⟨g1,0,none⟩) m1 m1) ws/\bD u w.heap.size (.slice (some ⟨g2,0,none⟩) m2 m2) bs/\Below w.heap.size w u/\ae u (B+1) 86 pq):=⟨O1,O2,b1,R1⟩
 clear y0 y1 y2 y3 y4 y5;obtain ⟨y0,y1,y2,y3,y4,y5⟩:=X1.six3;obtain ⟨x0,x1,x2,x3,x4,x5⟩:=R1.six3;have f0:=R1.fro 0;have f1:=R1.fro 1;have f2:=R1.fro 2;have f3:=R1.fro 3;have f4:=R1.fro 4;have f5:=R1.fro 5;have HY:Hid (bi (aF u (B+1) 0 (dZ kd pl nn wa (some ⟨g1,0,none⟩) (some ⟨g2,0,none⟩) m1 m2 m1 m2).toList) w.heap.size (.slice (some ⟨g1,0,none⟩) m1 m1) ws/\bD (aF u (B+1) 0 (dZ kd pl nn wa (some ⟨g1,0,none⟩) (some ⟨g2,0,none⟩) m1 m2 m1 m2).toList) w.heap.size (.slice (some ⟨g2,0,none⟩) m2 m2) bs/\Below w.heap.size w (aF u (B+1) 0 (dZ kd pl nn wa (some ⟨g1,0,none⟩) (some ⟨g2,0,none⟩) m1 m2 m1 m2).toList)):=⟨fu O1 ⟨_,R1⟩ (by decide),fu O2 ⟨_,R1⟩ (by decide),aD (by have:=HW.out.2.2.2.2.2.2.2;omega) _ _ _ b1⟩
 clear X1 O1 O2 R1 b1 HX HW;go_wp2;refine bodyPost_ret (v:=.agg (dZ kd pl nn wa (some ⟨g1,0,none⟩) (some ⟨g2,0,none⟩) m1 m2 m1 m2)) (by simp [results,results136,go_sem,x0,x1,x2,x3,x4,x5]) rfl ⟨_,_,_,_,rfl,HY.out.1,HY.out.2.1,HY.out.2.2⟩
abbrev pr:Array Value:=#[Vi 0,Vi 0,Vi 0,Vi 0,Zs,Zs]
def xA(w w':World)(e:Ending)(kd fl pl nn:Int)(l1 l2:Nat)(ws:List Int)(bs:List Bool):Prop:=
 ∃ a1 a2 c1 c2,e=.returned (.agg (dY kd fl pl nn a1 a2 l1 l2 c1 c2))/\bi w' w.heap.size (.slice a1 l1 c1) ws/\bD w' w.heap.size (.slice a2 l2 c2) bs/\Below w.heap.size w w'
def xB(w:World)(B:Nat)(kd fl pl nn:Int)(m1 m2:Nat)(ws:List Int)(bs:List Bool)(wx:World):Prop:=
 ∃ g1 g2,ae wx B 162 (dY kd fl pl nn (some ⟨g1,0,none⟩) (some ⟨g2,0,none⟩) m1 m2 m1 m2)/\bi wx w.heap.size (.slice (some ⟨g1,0,none⟩) m1 m1) ws/\bD wx w.heap.size (.slice (some ⟨g2,0,none⟩) m2 m2) bs/\ae wx (B+1) 162 pr/\Below w.heap.size w wx
theorem yp{w u:World}{B:Nat}{kd fl pl nn:Int}{q1 q2:OA}{m1 m2 k1 k2 g1 g2:Nat}{ws:List Int}{bs:List Bool}(hB:ae u B 162 (dY kd fl pl nn q1 q2 m1 m2 k1 k2))(o1:bi u w.heap.size (.slice (some ⟨g1,0,none⟩) m1 m1) ws)(o2:bD u w.heap.size (.slice (some ⟨g2,0,none⟩) m2 m2) bs)(hR:ae u (B+1) 162 pr)(hb:Below w.heap.size w u)(hBw:w.heap.size<= B):
 xB w B kd fl pl nn m1 m2 ws bs ((u.setCell ⟨B,4,none⟩ (.slice (some ⟨g1,0,none⟩) m1 m1)).setCell ⟨B,5,none⟩ (.slice (some ⟨g2,0,none⟩) m2 m2)):=by
 refine ⟨g1,g2,?_,bn (bn o1 ⟨_,hB⟩ (by decide)) (bp.set ⟨_,hB⟩) (by decide),bn (bn o2 ⟨_,hB⟩ (by decide)) (bp.set ⟨_,hB⟩) (by decide),(hR.setNe (by omega)).setNe (by omega),(hb.setCell (p:=⟨B,4,none⟩) hBw _).setCell (p:=⟨B,5,none⟩) hBw _⟩
 have h9:=(hB.set 4 (.slice (some ⟨g1,0,none⟩) m1 m1)).set 5 (.slice (some ⟨g2,0,none⟩) m2 m2);simpa using h9
theorem jJ(kd fl pl nn:Int)(q1 q2:OA)(m1 m2 k1 k2:Nat)(ws:List Int)(bs:List Bool)(w:World)(h1:m1=ws.length)(h2:m2=bs.length)(s1:aZ w q1 ws)(s2:be w q2 bs)(hl1:m1<= 2000000)(hl2:m2<= 2000000):
 Calls prog 141 #[.agg (dY kd fl pl nn q1 q2 m1 m2 k1 k2)] w fun e w'=>xA w w' e kd fl pl nn m1 m2 ws bs:=by
 obtain ⟨B,hB⟩:∃ B,B=w.heap.size:=⟨_,rfl⟩
 obtain ⟨W,hW⟩:∃ W,W=(w.alloc (.cells (dY kd fl pl nn q1 q2 m1 m2 k1 k2) 162)).alloc (.cells pr 162):=⟨_,rfl⟩
 have bW:Below w.heap.size w W:=by rw [hW];exact af (aa _ _) (aa _ _)
 have HW:Hid (Below w.heap.size w W/\ae W B 162 (dY kd fl pl nn q1 q2 m1 m2 k1 k2)/\ae W (B+1) 162 pr/\aZ W q1 ws/\be W q2 bs/\m1=ws.length/\m2=bs.length/\w.heap.size<= B):=⟨bW,by rw [hW,hB];exact (ae.new w _ _).below (aa _ _),by rw [hW,hB];have:=ae.new (w.alloc (.cells (dY kd fl pl nn q1 q2 m1 m2 k1 k2) 162)) pr 162;simpa using this,s1.below bW,s2.below bW,h1,h2,by omega⟩
 clear bW h1 h2 s1 s2;go_enter func141,ntmps141
 go_upto_region 1 with fail
 rw [<- hW];have hB1:w.heap.size+1=B+1:=by omega
 rw [hB1,<- hB];clear hW hB hB1;obtain ⟨y0,y1,y2,y3,y4,y5⟩:=HW.out.2.1.six3;go_cut [] (fun wx=>xB w B kd fl pl nn m1 m2 ws bs wx)
 case first=>
  go_region_with (first
   |(go_at_call 168;refine (pk q1 m1 k1 ws _ HW.out.2.2.2.2.2.1 (HW.out.2.2.2.1.below (by first|exact Br|exact Br.drew|exact Br.drew.drew)) (by have:=HW.out.2.2.2.2.2.1;omega)).mono ?_;rintro e w1 ⟨g1,rfl,O1',b1'⟩;have H1:Hid (Below W.heap.size W w1/\bi w1 w.heap.size (.slice (some ⟨g1,0,none⟩) m1 m1) ws):=(by have b9:Below W.heap.size W w1:=af (by first|exact Br|exact Br.drew|exact Br.drew.drew) b1';exact ⟨b9,bi.mono (show bi _ _ _ _ from O1') HW.out.1.size⟩);clear O1' b1';obtain ⟨z0,z1,z2,z3,z4,z5⟩:=(HW.out.2.1.below H1.out.1).six3;have zf:=(HW.out.2.1.below H1.out.1).fro;have zf3:=zf 4;have zf4:=zf 5)
   |(go_at_call 137;refine (kZ q2 m2 k2 bs _ HW.out.2.2.2.2.2.2.1 (HW.out.2.2.2.2.1.below (by first|exact H1.out.1|exact H1.out.1.drew|exact H1.out.1.drew.drew)) (by have:=HW.out.2.2.2.2.2.2.1;omega)).mono ?_;rintro e w2 ⟨g2,rfl,O2',b2'⟩;have H2:Hid (Below W.heap.size W w2/\bi w2 w.heap.size (.slice (some ⟨g1,0,none⟩) m1 m1) ws/\bD w2 w.heap.size (.slice (some ⟨g2,0,none⟩) m2 m2) bs):=(by have b8:Below w1.heap.size w1 w2:=af (by first|exact Br|exact Br.drew|exact Br.drew.drew) b2';have b9:=af H1.out.1 b8;exact ⟨b9,H1.out.2.below b8,bD.mono (show bD _ _ _ _ from O2') (Nat.le_trans HW.out.1.size (Nat.le_trans H1.out.1.size (by first|exact Nl|(simp))))⟩);clear O2' b2';obtain ⟨x0,x1,x2,x3,x4,x5⟩:=(HW.out.2.1.below H2.out.1).six3;have xf:=(HW.out.2.1.below H2.out.1).fro;have xf3:=xf 4;have xf4:=xf 5))
  all_goals (go_wp2_with fail;go_meet;first|exact yp (HW.out.2.1.below H2.out.1) H2.out.2.1 H2.out.2.2 (HW.out.2.2.1.below H2.out.1) (af HW.out.1 H2.out.1) HW.out.2.2.2.2.2.2.2|exact crB (HW.out.2.1.below H2.out.1) H2.out.2.1 H2.out.2.2 (HW.out.2.2.1.below H2.out.1) (af HW.out.1 H2.out.1) HW.out.2.2.2.2.2.2.2)
 case rest=>
 obtain ⟨g1,g2,X1,O1,O2,R1,b1⟩:=hcut;rename World=>u
 have HX:Hid (bi u w.heap.size (.slice (some ⟨g1,0,none⟩) m1 m1) ws/\bD u w.heap.size (.slice (some ⟨g2,0,none⟩) m2 m2) bs/\Below w.heap.size w u/\ae u (B+1) 162 pr):=⟨O1,O2,b1,R1⟩
 clear y0 y1 y2 y3 y4 y5;obtain ⟨y0,y1,y2,y3,y4,y5⟩:=X1.six3;obtain ⟨x0,x1,x2,x3,x4,x5⟩:=R1.six3;have f0:=R1.fro 0;have f1:=R1.fro 1;have f2:=R1.fro 2;have f3:=R1.fro 3;have f4:=R1.fro 4;have f5:=R1.fro 5;have HY:Hid (bi (aF u (B+1) 0 (dY kd fl pl nn (some ⟨g1,0,none⟩) (some ⟨g2,0,none⟩) m1 m2 m1 m2).toList) w.heap.size (.slice (some ⟨g1,0,none⟩) m1 m1) ws/\bD (aF u (B+1) 0 (dY kd fl pl nn (some ⟨g1,0,none⟩) (some ⟨g2,0,none⟩) m1 m2 m1 m2).toList) w.heap.size (.slice (some ⟨g2,0,none⟩) m2 m2) bs/\Below w.heap.size w (aF u (B+1) 0 (dY kd fl pl nn (some ⟨g1,0,none⟩) (some ⟨g2,0,none⟩) m1 m2 m1 m2).toList)):=⟨fu O1 ⟨_,R1⟩ (by decide),fu O2 ⟨_,R1⟩ (by decide),aD (by have:=HW.out.2.2.2.2.2.2.2;omega) _ _ _ b1⟩
 clear X1 O1 O2 R1 b1 HX HW;go_wp2;refine bodyPost_ret (v:=.agg (dY kd fl pl nn (some ⟨g1,0,none⟩) (some ⟨g2,0,none⟩) m1 m2 m1 m2)) (by simp [results,results141,go_sem,x0,x1,x2,x3,x4,x5]) rfl ⟨_,_,_,_,rfl,HY.out.1,HY.out.2.1,HY.out.2.2⟩
theorem jb(X:VQ)(a1:OA)(l1 c1:Nat)(a2:OA)(l2 c2:Nat)(w:World)(r1:Rd w 0 (aw X.ws) (.slice a1 l1 c1))(r2:Rd w 0 (ai X.bs) (.slice a2 l2 c2))(hz:ax 6 (ac (qT X))<= 1048576):
 Calls prog 136 #[.agg (qL X a1 l1 c1 a2 l2 c2).toArray] w fun e w'=>∃ b1 d1 b2 d2,e=.returned (.agg (qL X b1 l1 d1 b2 l2 d2).toArray)/\az w' w.heap.size w'.heap.size (qT X) (qL X b1 l1 d1 b2 l2 d2)/\Below w.heap.size w w':=by
 rw [cC] at hz;obtain ⟨a9,c9,h9,-,hm1,hs1⟩:=r1.ints;simp only [Value.slice.injEq] at h9;obtain ⟨rfl,rfl,rfl⟩:=h9;obtain ⟨a9,c9,h9,-,hm2,hs2⟩:=r2.bools;simp only [Value.slice.injEq] at h9;obtain ⟨rfl,rfl,rfl⟩:=h9;refine (kg X.kd X.pl X.n X.wa a1 a2 _ _ c1 c2 X.ws X.bs w rfl rfl hs1 hs2 (by omega) (by omega)).mono ?_;rintro e w' ⟨g1,g2,d1,d2,rfl,h1,h2,h3⟩;exact ⟨_,_,_,_,rfl,VQ.own h1 h2,h3⟩
theorem pS(X:VA)(a1:OA)(l1 c1:Nat)(a2:OA)(l2 c2:Nat)(w:World)(r1:Rd w 0 (aw X.ws) (.slice a1 l1 c1))(r2:Rd w 0 (ai X.bs) (.slice a2 l2 c2))(hz:ax 6 (ac (aT X))<= 1048576):
 Calls prog 141 #[.agg (aL X a1 l1 c1 a2 l2 c2).toArray] w fun e w'=>∃ b1 d1 b2 d2,e=.returned (.agg (aL X b1 l1 d1 b2 l2 d2).toArray)/\az w' w.heap.size w'.heap.size (aT X) (aL X b1 l1 d1 b2 l2 d2)/\Below w.heap.size w w':=by
 rw [db] at hz;obtain ⟨a9,c9,h9,-,hm1,hs1⟩:=r1.ints;simp only [Value.slice.injEq] at h9;obtain ⟨rfl,rfl,rfl⟩:=h9;obtain ⟨a9,c9,h9,-,hm2,hs2⟩:=r2.bools;simp only [Value.slice.injEq] at h9;obtain ⟨rfl,rfl,rfl⟩:=h9;refine (jJ X.kd X.fl X.pl X.n a1 a2 _ _ c1 c2 X.ws X.bs w rfl rfl hs1 hs2 (by omega) (by omega)).mono ?_;rintro e w' ⟨g1,g2,d1,d2,rfl,h1,h2,h3⟩;exact ⟨_,_,_,_,rfl,VA.own h1 h2,h3⟩
theorem pU(X:VP)(a1:OA)(l1 c1:Nat)(a2:OA)(l2 c2:Nat)(w:World)(r1:Rd w 0 (aw X.q.ws) (.slice a1 l1 c1))(r2:Rd w 0 (ai X.q.bs) (.slice a2 l2 c2))(hz:ax 8 (ac (pT X))<= 1048576):
 Calls prog 139 #[.agg (pL X a1 l1 c1 a2 l2 c2).toArray] w fun e w'=>∃ b1 d1 b2 d2,e=.returned (.agg (pL X b1 l1 d1 b2 l2 d2).toArray)/\az w' w.heap.size w'.heap.size (pT X) (pL X b1 l1 d1 b2 l2 d2)/\Below w.heap.size w w':=by
 obtain ⟨W,hW⟩:∃ W,W=(w.alloc (.cells (pL X a1 l1 c1 a2 l2 c2).toArray 128)).alloc (.cells mM 128):=⟨_,rfl⟩
 have bW:Below w.heap.size w W:=by rw [hW];exact af (aa w _) (aa _ _)
 have A0:ae W w.heap.size 128 (pL X a1 l1 c1 a2 l2 c2).toArray:=by rw [hW];exact (ae.new w _ _).below (aa _ _)
 have R0:ae W (w.heap.size+1) 128 mM:=by
  rw [hW];have:=ae.new (w.alloc (.cells (pL X a1 l1 c1 a2 l2 c2).toArray 128)) mM 128;simpa using this
 have hs0:W.heap.size=(w.heap.size+1+1):=by rw [hW];simp
 have HZ:Hid (ax 6 (ac (qT X.q))<= 1048576):=by
  rw [dc] at hz;show ax 6 (ac (qT X.q))<= 1048576;try simp only [cC,db,dc,dd,cQ,true_and]
  omega
 have HR:Hid (Rd w 0 (aw X.q.ws) (.slice a1 l1 c1)/\Rd w 0 (ai X.q.bs) (.slice a2 l2 c2)):=⟨r1,r2⟩
 have G0:Hid (Below w.heap.size w W/\ae W w.heap.size 128 (pL X a1 l1 c1 a2 l2 c2).toArray/\ae W (w.heap.size+1) 128 mM/\(w.heap.size+1+1)<= W.heap.size):=⟨bW,A0,R0,by omega⟩
 clear bW A0 R0 hs0 hz r1 r2;go_enter func139,ntmps139
 go_upto_region 1 with fail
 rw [<- hW];clear hW;obtain ⟨⟨y0,y1,y2,y3,y4,y5,y6,y7⟩,yf⟩:=G0.out.2.1.tc8;clear yf;go_wp2_with fail
 refine (jb X.q a1 l1 c1 a2 l2 c2 _ (HR.out.1.below G0.out.1) (HR.out.2.below G0.out.1) HZ.out).mono ?_;rintro e w1 ⟨b1,d1,b2,d2,rfl,q,hb1⟩;clear y0 y1 y2 y3 y4 y5 y6 y7;have O1:=G0.out.2.1.below hb1;obtain ⟨⟨z0,z1,z2,z3,z4,z5,z6,z7⟩,zf⟩:=O1.tc8;have zg2:=zf 2;have zg3:=zf 3;have zg4:=zf 4;have zg5:=zf 5;have zg6:=zf 6;have zg7:=zf 7;obtain ⟨W1,hW1⟩:∃ W9,W9=aF w1 w.heap.size 2 [Vi X.q.kd,Vi X.q.pl,Vi X.q.n,.slice b1 l1 d1,.slice b2 l2 d2,Vi X.q.wa]:=⟨_,rfl⟩
 have G1:Hid (Below w.heap.size w W1/\ae W1 w.heap.size 128 (pL X b1 l1 d1 b2 l2 d2).toArray/\ae W1 (w.heap.size+1) 128 mM/\(w.heap.size+1+1)<= W1.heap.size/\az W1 (w.heap.size+1+1) W1.heap.size (qT X.q) (qL X.q b1 l1 d1 b2 l2 d2)):=by
  have hg:w1.grownBy W1 (some w.heap.size):=by rw [hW1];exact bf _ _ _
  have hs9:=G0.out.2.2.2;have hs8:=hb1.size;have hs7:=hg.size;refine ⟨by rw [hW1];exact aD Nl _ _ _ (af G0.out.1 hb1),by rw [hW1,show (pL X b1 l1 d1 b2 l2 d2).toArray=bO (#[Vi X.p,Vi X.t,Vi X.q.kd,Vi X.q.pl,Vi X.q.n,.slice a1 l1 c1,.slice a2 l2 c2,Vi X.q.wa]:Array Value) 2 [Vi X.q.kd,Vi X.q.pl,Vi X.q.n,.slice b1 l1 d1,.slice b2 l2 d2,Vi X.q.wa] from (by simp [bO])];exact ae.stL _ _ O1,by rw [hW1];exact ae.stNe (by omega) _ _ (G0.out.2.2.1.below hb1),by omega,((q.mono hs9 Nl).kept hg (by omega) Nl).mono Nl hs7⟩
 have hX1:W1=((((((w1.setCell ⟨w.heap.size,2,none⟩ (Vi X.q.kd)).setCell ⟨w.heap.size,3,none⟩ (Vi X.q.pl)).setCell ⟨w.heap.size,4,none⟩ (Vi X.q.n)).setCell ⟨w.heap.size,5,none⟩ (.slice b1 l1 d1)).setCell ⟨w.heap.size,6,none⟩ (.slice b2 l2 d2)).setCell ⟨w.heap.size,7,none⟩ (Vi X.q.wa)):=by rw [hW1];simp only [aF,Nat.reduceAdd,Nat.zero_add]
 clear O1 hb1 hW1 q;go_upto_region 2 with fail
 rw [<- hX1];clear hX1 zf z0 z1 z2 z3 z4 z5 z6 z7 zg2 zg3 zg4 zg5 zg6 zg7;obtain ⟨W9,hW9⟩:∃ W9,W9=aF W1 (w.heap.size+1) 0 (pL X b1 l1 d1 b2 l2 d2):=⟨_,rfl⟩
 have H9:Hid (az W9 w.heap.size W9.heap.size (pT X) (pL X b1 l1 d1 b2 l2 d2)/\Below w.heap.size w W9/\ae W9 (w.heap.size+1) 128 (pL X b1 l1 d1 b2 l2 d2).toArray):=by
  have hg:W1.grownBy W9 (some (w.heap.size+1)):=by rw [hW9];exact bf _ _ _
  have hs9:=G1.out.2.2.2.1;have hs7:=hg.size;exact ⟨(az.leaf (Vi X.p) (az.leaf (Vi X.t) ((G1.out.2.2.2.2.kept hg (by omega) Nl).mono (lo':=w.heap.size) (by omega) hs7) (by omega)) (by omega)),by rw [hW9];exact aD (by omega) _ _ _ G1.out.1,by rw [hW9,show (pL X b1 l1 d1 b2 l2 d2).toArray=bO (#[Vi 0,Vi 0,Vi 0,Vi 0,Vi 0,Zs,Zs,Vi 0]:Array Value) 0 (pL X b1 l1 d1 b2 l2 d2) from (by simp [bO])];exact ae.stL _ _ G1.out.2.2.1⟩
 have hr:=G1.out.2.1.all;have ht:=G1.out.2.2.1.there 0 8 (by simp);clear G1;refine wp_region_lit ?_;refine wpList_load_mid rfl 128 (.tmp 1) rfl w.heap.size 0 rfl (pL X b1 l1 d1 b2 l2 d2) _ hr underlying128 rfl (by kernel_rfl) ?_;refine wpList_store_mid rfl 128 (.tmp 2) (.tmp 7) rfl (w.heap.size+1) 0 (pL X b1 l1 d1 b2 l2 d2).toArray rfl rfl ht (by kernel_rfl) (by simp [Value.oneCell']) ?_;rw [bm,<- hW9];clear hW9 hr ht;refine wpList_nil ?_;go_wp2;obtain ⟨⟨y0,y1,y2,y3,y4,y5,y6,y7⟩,yf⟩:=H9.out.2.2.tc8;refine bodyPost_ret (v:=.agg (pL X b1 l1 d1 b2 l2 d2).toArray) (by simp [results,results139,go_sem,y0,y1,y2,y3,y4,y5,y6,y7]) rfl ⟨b1,d1,b2,d2,rfl,H9.out.1,H9.out.2.1⟩
end Go.Proofs.YtohikbpolofklaaGreat
