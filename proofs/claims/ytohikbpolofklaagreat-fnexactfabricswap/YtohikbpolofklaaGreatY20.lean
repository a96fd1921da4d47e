/- Texts that the proof needs, joined: Sr7. -/
import Derived.Test.YtohikbpolofklaaGreatY18
import Derived.Test.YtohikbpolofklaaGreatY19
import Derived.Deep.Cut
import Derived.Deep.CutRange
import Derived.Deep.DeepCutAuto
set_option linter.unusedVariables false
set_option linter.unusedSimpArgs false
set_option maxHeartbeats 4000000
set_option maxRecDepth 20000
namespace Go.Proofs.YtohikbpolofklaaGreat
open Go.RowKit Go.Proofs.Tryz
theorem mW:∀ (D:Nat) (g n c a m b:Nat) (f:Nat->Ru) (w0 w:World) (hb:Below w0.heap.size w0 w) (hg:w0.heap.size<= g) (hr:aA w g n f) (h1:a<m) (h2:m<b) (hbn:b<= n) (hn:n<= 1000000) (sl:aE f a m) (sr:aE f m b) (hD:b-a<= D),
 Calls prog 193 #[.slice (some ⟨g,0,none⟩) n c,Vi (a:Int),Vi (m:Int),Vi (b:Int),.func (.func 109) #[] #[]] w fun e w'=>e=.returned (.tuple #[])/\∃ f',aA w' g n f'/\aK a b f f'/\aE f' a b/\Below w0.heap.size w0 w':=by
 intro D;induction D with
 |zero=>intro g n c a m b f w0 w hb hg hr h1 h2 hbn hn sl sr hD;omega
 |succ D ih=>
  intro g n c a m b f w0 w hb hg hr h1 h2 hbn hn sl sr hD;by_cases hA:m=a+1
  ·exact ou g n c a m b f w0 w hb hg hr h1 h2 hbn hn sl sr hA
  by_cases hB:b=m+1
  ·exact mv g n c a m b f w0 w hb hg hr h1 h2 hbn hn sl sr hA hB
  have HIH:Hid (∀ (g n c a m b:Nat) (f:Nat->Ru) (w0 w:World) (hb:Below w0.heap.size w0 w) (hg:w0.heap.size<= g) (hr:aA w g n f) (h1:a<m) (h2:m<b) (hbn:b<= n) (hn:n<= 1000000) (sl:aE f a m) (sr:aE f m b) (hD:b-a<= D),
  Calls prog 193 #[.slice (some ⟨g,0,none⟩) n c,Vi (a:Int),Vi (m:Int),Vi (b:Int),.func (.func 109) #[] #[]] w fun e w'=>e=.returned (.tuple #[])/\∃ f',aA w' g n f'/\aK a b f f'/\aE f' a b/\Below w0.heap.size w0 w'):=ih
  have HSS:Hid (aE f a m/\aE f m b):=⟨sl,sr⟩
  have HDD:Hid (b-a<= D+1):=hD;have HR0:Hid (aA w g n f/\Below w0.heap.size w0 w):=⟨hr,hb⟩
  have w1:IntKind.i64.wrap ((m:Int)-a)=(m:Int)-a:=by rw [IntKind.wrap_i64];omega
  have e1':((m:Int)-a == 1)=false:=by simp;omega
  have e3:¬ (m:Int)-a=1:=by omega
  have w2:IntKind.i64.wrap ((b:Int)-m)=(b:Int)-m:=by rw [IntKind.wrap_i64];omega
  have e4':((b:Int)-m == 1)=false:=by simp;omega
  have e4:¬ (b:Int)-m=1:=by omega
  obtain ⟨mid,hM⟩:∃ mid,mid=(a+b) / 2:=⟨_,rfl⟩
  obtain ⟨nn,hN⟩:∃ nn,nn=mid+m:=⟨_,rfl⟩
  obtain ⟨pp,hP⟩:∃ pp,pp=mid+m-1:=⟨_,rfl⟩
  have hmid':((a:Int)+(b:Int)) / 2=(mid:Int):=by omega
  have wn:IntKind.i64.wrap ((mid:Int)+(m:Int))=(nn:Int):=by rw [IntKind.wrap_i64];omega
  have wp':IntKind.i64.wrap ((nn:Int)-1)=(pp:Int):=by rw [IntKind.wrap_i64];omega
  have HPP:Hid (nn=mid+m/\pp=mid+m-1):=⟨hN,hP⟩
  by_cases hmid:mid<m
  ·have c0:(mid:Int)<(m:Int):=by omega
   obtain ⟨s0,hs0⟩:∃ s0,s0=mid+m-b:=⟨_,rfl⟩
   have ws:IntKind.i64.wrap ((nn:Int)-(b:Int))=(s0:Int):=by rw [IntKind.wrap_i64];omega
   have HM:Hid (mid=(a+b) / 2/\s0=mid+m-b/\s0<= mid/\a<= s0/\mid<b/\mid+m-b<= s0):=⟨hM,hs0,by omega,by omega,by omega,by omega⟩
   clear sl sr hD hr hb ih hA hB hM hN hP hs0;go_enter func193,ntmps193
   go_wp2;go_loopw [20,21] (fun i j wr=>∃ (p q:Nat),s0<= p/\p<= q/\q<= mid/\i=Vi p/\j=Vi q/\(p=s0\/cK (f (p-1)) (f (mid+m-p)))/\(q=mid\/cy (f (mid+m-q-1)) (f q))/\aA wr g n f/\Below w0.heap.size w0 wr) (fun i j _=>(intOf j).toNat-(intOf i).toNat)
   case atStart=>exact ⟨s0,mid,Nl,by have:=HM.out;omega,Nl,rfl,rfl,.inl rfl,.inl rfl,HR0.out.1,HR0.out.2⟩
   case round=>
    clear HR0;obtain ⟨p,q,hmp,hpq,hqb,rfl,rfl,i1,i2,hrow,hbl⟩:=hrel;have HPQ:Hid ((p=s0\/cK (f (p-1)) (f (mid+m-p)))/\(q=mid\/cy (f (mid+m-q-1)) (f q))):=⟨i1,i2⟩
    clear i1 i2;by_cases hlt:p<q
    ·have hi:(p:Int)<(q:Int):=by omega
     obtain ⟨t,ht⟩:∃ t,t=(p+q) / 2:=⟨_,rfl⟩
     obtain ⟨x,hx0⟩:∃ x,x=mid+m-1-t:=⟨_,rfl⟩
     have ht':((p:Int)+(q:Int)) / 2=(t:Int):=by omega
     have HT:Hid (p<= t/\t<q/\x=mid+m-1-t):=(⟨by omega,by omega,hx0⟩:p<= t/\t<q/\x=mid+m-1-t)
     have htn2:t<n:=by have:=HM.out;omega
     have hxn2:x<n:=by have:=HM.out;omega
     have htn:(t:Int)<(n:Int):=by omega
     have hxn:(x:Int)<(n:Int):=by omega
     have wx:IntKind.i64.wrap ((pp:Int)-(t:Int))=(x:Int):=by have:=HM.out;have:=HPP.out;rw [IntKind.wrap_i64];omega
     have wt:IntKind.i64.wrap ((t:Int)+1)=(t:Int)+1:=by rw [IntKind.wrap_i64];omega
     clear ht hx0;obtain ⟨h,hh⟩:∃ h:Nat->Ru,h=f:=⟨_,rfl⟩
     have HF:Hid (h=f):=hh;have HROW:Hid (aA wr g n h/\Below w0.heap.size w0 wr):=⟨by rw [hh];exact hrow,hbl⟩
     clear hrow hbl;by_cases hx:cy (h x) (h t)
     ·have hc0:cm (h x) (h t)<0:=(eh _ _).2 hx
      have HL:Hid (cy (f x) (f t)):=by rw [<- hh];exact hx
      clear hx hh;go_wp2;refine wp_region_any (by kernel_rfl) ?_
      refine bw (fun u=>Below wr.heap.size wr u) (fun i v u=>match i with
       |0=>v=.func (.func 109) #[] #[]
       |1=>v=.slice (some ⟨g,0,none⟩) n c
       |2=>v=Vi (pp:Int)
       |3=>v=Vi (t:Int)
       |4=>v=Vi (x:Int)
       |5=>v=Vp g (x*7)
       |6=>v=.agg (bg (h x))
       |7=>v=.slice (some ⟨g,0,none⟩) n c
       |8=>v=Vi (t:Int)
       |9=>v=Vp g (t*7)
       |10=>v=.agg (bg (h t))
       |11=>v=Vi (cm (h x) (h t))
       |12=>v=.bool true
       |13=>v=.bool false
       |_=>True) (by kernel_rfl) (by kernel_rfl) (fun _ _ _ _ h _=>h) Br.drew ?_ ?_ _ _ rfl (by decide) (fun i=>by simp [Array.getD];try (split <;> rfl))
      ·intro vs u hR hall
       have e16:vs 13=.bool false:=hall 13 (by simp);simp only [bI];rw [e16];clear hall e16;have HX:Hid (aA u g n h/\Below w0.heap.size w0 u):=⟨HROW.out.1.below hR,ak HROW.out.2 hR⟩
       clear hR HROW;go_simp;go_wp2;go_roundw
       case rel=>(have:=HT.out;have e:=HF.out;subst e;exact ⟨p,t,by omega,by omega,by omega,rfl,rfl,HPQ.out.1,.inr (by rw [show mid+m-t-1=x by omega];exact HL.out),HX.out.1,HX.out.2⟩)
       case measure=>(have:=HT.out;simp [intOf];omega)
      intro u i o ρ hR ho hρ hc hf hd
      have hi:i<14:=by
       have:=(Array.getElem?_eq_some_iff.1 ho).1;simpa using this
      obtain rfl|rfl|rfl|rfl|rfl|rfl|rfl|rfl|rfl|rfl|rfl|rfl|rfl|rfl:i=0\/i=1\/i=2\/i=3\/i=4\/i=5\/i=6\/i=7\/i=8\/i=9\/i=10\/i=11\/i=12\/i=13:=by omega
      all_goals (simp only [List.getElem?_toArray,List.getElem?_cons_zero,List.getElem?_cons_succ,Option.some.injEq] at ho;subst ho)
      ·exact yr rfl (hρ 4 (by kernel_rfl)) hR
      ·exact yr rfl (hρ 0 (by kernel_rfl)) hR
      ·exact yr rfl (hρ 22 (by kernel_rfl)) hR
      ·exact yr rfl (hρ 23 (by kernel_rfl)) hR
      ·have h2:ρ (.tmp 160)=Vi (pp:Int):=dq hd 2 160
       have h3:ρ (.tmp 161)=Vi (t:Int):=dq hd 3 161;exact yr (aG rfl h2 h3 (by go_simp)) rfl hR
      ·have h1:ρ (.tmp 159)=.slice (some ⟨g,0,none⟩) n c:=dq hd 1 159
       have h4:ρ (.tmp 162)=Vi (x:Int):=dq hd 4 162;exact yr (au rfl h1 h4 (by go_simp)) rfl hR
      ·have R0:aA u g n h:=HROW.out.1.below hR
       obtain ⟨d0,d1,d2,d3,d4,d5,d6⟩:=aA.seven R0 (show x<n from by omega);clear R0;have h5:ρ (.tmp 163)=Vp g (x*7):=dq hd 5 163;exact yr (ah rfl h5 (by go_simp)) rfl hR
      ·exact yr rfl (hρ 0 (by kernel_rfl)) hR
      ·exact yr rfl (hρ 23 (by kernel_rfl)) hR
      ·have h7:ρ (.tmp 165)=.slice (some ⟨g,0,none⟩) n c:=dq hd 7 165
       have h8:ρ (.tmp 166)=Vi (t:Int):=dq hd 8 166;exact yr (au rfl h7 h8 (by go_simp)) rfl hR
      ·have R0:aA u g n h:=HROW.out.1.below hR
       obtain ⟨d0,d1,d2,d3,d4,d5,d6⟩:=aA.seven R0 (show t<n from by omega);clear R0;have h9:ρ (.tmp 167)=Vp g (t*7):=dq hd 9 167;exact yr (ah rfl h9 (by go_simp)) rfl hR
      ·have h6:ρ (.tmp 164)=.agg (bg (h x)):=dq hd 6 164
       have h10:ρ (.tmp 168)=.agg (bg (h t)):=dq hd 10 168;have h0:ρ (.tmp 158)=.func (.func 109) #[] #[]:=dq hd 0 158;refine .inl ⟨rfl,.inr ⟨_,_,cz rfl h0 (args:=#[.agg (bg (h x)),.agg (bg (h t))]) (by simp [h6,h10]) (by kernel_rfl),?_⟩⟩;refine (cA (h x) (h t) _).mono ?_;rintro e u' ⟨rfl,b'⟩;exact ⟨_,rfl,rfl,ak hR b',b'⟩
      ·have h11:ρ (.tmp 169)=Vi (cm (h x) (h t)):=dq hd 11 169
       exact yr (aG rfl h11 (hc _) (by go_simp)) rfl hR
      have h12:ρ (.tmp 170)=.bool true:=dq hd 12 170;exact yr (bT rfl h12 (by go_simp)) rfl hR
     have hc0:¬ cm (h x) (h t)<0:=fun e=>hx ((eh _ _).1 e)
     have HL:Hid (cK (f t) (f x)):=by rw [<- hh];exact hx
     clear hx hh;go_wp2;refine wp_region_any (by kernel_rfl) ?_
     refine bw (fun u=>Below wr.heap.size wr u) (fun i v u=>match i with
      |0=>v=.func (.func 109) #[] #[]
      |1=>v=.slice (some ⟨g,0,none⟩) n c
      |2=>v=Vi (pp:Int)
      |3=>v=Vi (t:Int)
      |4=>v=Vi (x:Int)
      |5=>v=Vp g (x*7)
      |6=>v=.agg (bg (h x))
      |7=>v=.slice (some ⟨g,0,none⟩) n c
      |8=>v=Vi (t:Int)
      |9=>v=Vp g (t*7)
      |10=>v=.agg (bg (h t))
      |11=>v=Vi (cm (h x) (h t))
      |12=>v=.bool false
      |13=>v=.bool true
      |_=>True) (by kernel_rfl) (by kernel_rfl) (fun _ _ _ _ h _=>h) Br.drew ?_ ?_ _ _ rfl (by decide) (fun i=>by simp [Array.getD];try (split <;> rfl))
     ·intro vs u hR hall
      have e16:vs 13=.bool true:=hall 13 (by simp);simp only [bI];rw [e16];clear hall e16;have HX:Hid (aA u g n h/\Below w0.heap.size w0 u):=⟨HROW.out.1.below hR,ak HROW.out.2 hR⟩
      clear hR HROW;go_simp;go_wp2;go_roundw
      case rel=>(have:=HT.out;have e:=HF.out;subst e;exact ⟨t+1,q,by omega,by omega,by omega,by go_num,rfl,.inr (by rw [Nat.add_sub_cancel,show mid+m-(t+1)=x by omega];exact HL.out),HPQ.out.2,HX.out.1,HX.out.2⟩)
      case measure=>(have:=HT.out;simp [intOf];omega)
     intro u i o ρ hR ho hρ hc hf hd
     have hi:i<14:=by
      have:=(Array.getElem?_eq_some_iff.1 ho).1;simpa using this
     obtain rfl|rfl|rfl|rfl|rfl|rfl|rfl|rfl|rfl|rfl|rfl|rfl|rfl|rfl:i=0\/i=1\/i=2\/i=3\/i=4\/i=5\/i=6\/i=7\/i=8\/i=9\/i=10\/i=11\/i=12\/i=13:=by omega
     all_goals (simp only [List.getElem?_toArray,List.getElem?_cons_zero,List.getElem?_cons_succ,Option.some.injEq] at ho;subst ho)
     ·exact yr rfl (hρ 4 (by kernel_rfl)) hR
     ·exact yr rfl (hρ 0 (by kernel_rfl)) hR
     ·exact yr rfl (hρ 22 (by kernel_rfl)) hR
     ·exact yr rfl (hρ 23 (by kernel_rfl)) hR
     ·have h2:ρ (.tmp 160)=Vi (pp:Int):=dq hd 2 160
      have h3:ρ (.tmp 161)=Vi (t:Int):=dq hd 3 161;exact yr (aG rfl h2 h3 (by go_simp)) rfl hR
     ·have h1:ρ (.tmp 159)=.slice (some ⟨g,0,none⟩) n c:=dq hd 1 159
      have h4:ρ (.tmp 162)=Vi (x:Int):=dq hd 4 162;exact yr (au rfl h1 h4 (by go_simp)) rfl hR
     ·have R0:aA u g n h:=HROW.out.1.below hR
      obtain ⟨d0,d1,d2,d3,d4,d5,d6⟩:=aA.seven R0 (show x<n from by omega);clear R0;have h5:ρ (.tmp 163)=Vp g (x*7):=dq hd 5 163;exact yr (ah rfl h5 (by go_simp)) rfl hR
     ·exact yr rfl (hρ 0 (by kernel_rfl)) hR
     ·exact yr rfl (hρ 23 (by kernel_rfl)) hR
     ·have h7:ρ (.tmp 165)=.slice (some ⟨g,0,none⟩) n c:=dq hd 7 165
      have h8:ρ (.tmp 166)=Vi (t:Int):=dq hd 8 166;exact yr (au rfl h7 h8 (by go_simp)) rfl hR
     ·have R0:aA u g n h:=HROW.out.1.below hR
      obtain ⟨d0,d1,d2,d3,d4,d5,d6⟩:=aA.seven R0 (show t<n from by omega);clear R0;have h9:ρ (.tmp 167)=Vp g (t*7):=dq hd 9 167;exact yr (ah rfl h9 (by go_simp)) rfl hR
     ·have h6:ρ (.tmp 164)=.agg (bg (h x)):=dq hd 6 164
      have h10:ρ (.tmp 168)=.agg (bg (h t)):=dq hd 10 168;have h0:ρ (.tmp 158)=.func (.func 109) #[] #[]:=dq hd 0 158;refine .inl ⟨rfl,.inr ⟨_,_,cz rfl h0 (args:=#[.agg (bg (h x)),.agg (bg (h t))]) (by simp [h6,h10]) (by kernel_rfl),?_⟩⟩;refine (cA (h x) (h t) _).mono ?_;rintro e u' ⟨rfl,b'⟩;exact ⟨_,rfl,rfl,ak hR b',b'⟩
     ·have h11:ρ (.tmp 169)=Vi (cm (h x) (h t)):=dq hd 11 169
      exact yr (aG rfl h11 (hc _) (by go_simp)) rfl hR
     have h12:ρ (.tmp 170)=.bool false:=dq hd 12 170;exact yr (bT rfl h12 (by go_simp)) rfl hR
    have hi:¬ (p:Int)<(q:Int):=by omega
    obtain rfl:p=q:=by omega
    have HC:Hid (Cutd f a m b mid p):=by
     have hM:=HM.out;refine ⟨hM.1,by omega,by omega,by omega,⟨fun _=>⟨by omega,by omega⟩,fun _=>⟨by omega,by omega⟩⟩,?_,?_⟩
     ·rcases HPQ.out.1 with e0|e0
      ·exact .inl ⟨hmid,by omega⟩
      exact .inr (.inr e0)
     rcases HPQ.out.2 with e0|e0
     ·exact .inl ⟨hmid,by omega⟩
     exact .inr (.inr e0)
    obtain ⟨e,he⟩:∃ e,e=mid+m-p:=⟨_,rfl⟩
    have we:IntKind.i64.wrap ((nn:Int)-(p:Int))=(e:Int):=by have:=HM.out;have:=HPP.out;rw [IntKind.wrap_i64];omega
    have HE:Hid (e=mid+m-p):=he
    have HIN:Hid (a<= p/\p<= m/\m<= e/\e<= b/\p<= mid/\mid<= e/\a<= mid/\mid<b/\a<mid):=by
     have:=HC.out.in';have:=HM.out;show _/\_;omega
    have HR1:Hid (aA wr g n f/\Below w0.heap.size w0 wr):=⟨hrow,hbl⟩
    clear hrow hbl he HPQ;obtain ⟨b1,hb1⟩:∃ b1:Bool,b1=decide (p<m/\m<e):=⟨_,rfl⟩
    have HB1:Hid (b1=decide (p<m/\m<e)):=hb1;clear hb1;go_upto_region 39 with fail
    go_cut [185] from 178 to 185 (fun sv wx=>sv=.bool b1/\wx=wr)
    case first=>
     by_cases c1:p<m
     ·have d1:(p:Int)<(m:Int):=by omega
      by_cases c2:m<e
      ·have d2:(m:Int)<(e:Int):=by omega
       go_wp2_with fail
       go_meet
       exact ⟨by rw [HB1.out,decide_eq_true ⟨c1,c2⟩],rfl⟩
      have d2:¬ (m:Int)<(e:Int):=by omega
      go_wp2_with fail
      go_meet
      exact ⟨by rw [HB1.out,decide_eq_false (fun h=>c2 h.2)],rfl⟩
     have d1:¬ (p:Int)<(m:Int):=by omega
     go_wp2_with fail
     go_meet
     exact ⟨by rw [HB1.out,decide_eq_false (fun h=>c1 h.1)],rfl⟩
    case rest=>
    obtain ⟨rfl,rfl⟩:=hcut;go_upto_if 185 with fail
    go_cut [] (fun wx=>aA wx g n (fun k=>f (bt p m e k))/\Below w0.heap.size w0 wx)
    case first=>
     cases b1 with
     |true=>
      have c1:=of_decide_eq_true HB1.out.symm;go_wp2_with fail
      refine (kn g n c p m e f w0 _ HR1.out.2 hg HR1.out.1 c1.1 c1.2 (by have:=HIN.out;omega) hn).mono ?_;rintro ee w1 ⟨rfl,R1,B1⟩;have HX:Hid (aA w1 g n (fun k=>f (bt p m e k))/\Below w0.heap.size w0 w1):=⟨R1,B1⟩
      clear HR1 R1 B1;go_wp2_with fail
      go_meet
      exact HX.out
     |false=>
      have c1:=of_decide_eq_false HB1.out.symm;have HX:Hid (aA _ g n (fun k=>f (bt p m e k))/\Below w0.heap.size w0 _):=⟨aA.ext HR1.out.1 (fun k=>congrArg f (by have:=HIN.out;unfold bt;(repeat' split) <;> omega)),HR1.out.2⟩
      clear HR1;go_wp2_with fail
      go_meet
      exact HX.out
    case rest=>
    obtain ⟨RC,BC⟩:=hcut;have HR2:Hid (aA wc g n (fun k=>f (bt p m e k))/\Below w0.heap.size w0 wc):=⟨RC,BC⟩
    have HRUN:Hid (aE (fun k=>f (bt p m e k)) a p/\aE (fun k=>f (bt p m e k)) p mid/\aE (fun k=>f (bt p m e k)) mid e/\aE (fun k=>f (bt p m e k)) e b):=by
     have:=HC.out.runs HSS.out.1 HSS.out.2;rw [<- HE.out] at this;exact this
    clear RC BC HR1;obtain ⟨b2,hb2⟩:∃ b2:Bool,b2=decide (a<p/\p<mid):=⟨_,rfl⟩
    have HB2:Hid (b2=decide (a<p/\p<mid)):=hb2;clear hb2;obtain ⟨W2,hW2⟩:∃ W2,W2=wc:=⟨_,rfl⟩
    rw [<- hW2] at HR2 ⊢;clear hW2;go_upto_region 41 with fail
    go_cut [199] from 192 to 199 (fun sv wx=>sv=.bool b2/\wx=W2)
    case first=>
     by_cases c1:a<p
     ·have d1:(a:Int)<(p:Int):=by omega
      by_cases c2:p<mid
      ·have d2:(p:Int)<(mid:Int):=by omega
       go_wp2_with fail
       go_meet
       exact ⟨by rw [HB2.out,decide_eq_true ⟨c1,c2⟩],rfl⟩
      have d2:¬ (p:Int)<(mid:Int):=by omega
      go_wp2_with fail
      go_meet
      exact ⟨by rw [HB2.out,decide_eq_false (fun h=>c2 h.2)],rfl⟩
     have d1:¬ (a:Int)<(p:Int):=by omega
     go_wp2_with fail
     go_meet
     exact ⟨by rw [HB2.out,decide_eq_false (fun h=>c1 h.1)],rfl⟩
    case rest=>
    obtain ⟨rfl,rfl⟩:=hcut;go_upto_if 199 with fail
    go_cut [] (fun wx=>∃ f1,aA wx g n f1/\aK a mid (fun k=>f (bt p m e k)) f1/\aE f1 a mid/\Below w0.heap.size w0 wx)
    case first=>
     cases b2 with
     |true=>
      have c1:=of_decide_eq_true HB2.out.symm;go_wp2_with fail
      refine (HIH.out g n c a p mid (fun k=>f (bt p m e k)) w0 _ HR2.out.2 hg HR2.out.1 c1.1 c1.2 (by have:=HIN.out;omega) hn HRUN.out.1 HRUN.out.2.1 (by have:=HIN.out;have:=HDD.out;omega)).mono ?_;rintro ee w1 ⟨rfl,f1,R1,P1,S1,B1⟩;have HX:Hid (∃ f1,aA w1 g n f1/\aK a mid (fun k=>f (bt p m e k)) f1/\aE f1 a mid/\Below w0.heap.size w0 w1):=⟨f1,R1,P1,S1,B1⟩
      clear HR2 R1 B1 P1 S1;go_wp2_with fail
      go_meet
      exact HX.out
     |false=>
      have c1:=of_decide_eq_false HB2.out.symm
      have HSO:Hid (aE (fun k=>f (bt p m e k)) a mid):=(by
       have hI:=HIN.out;have h8:=HRUN.out.1;have h9:=HRUN.out.2.1;by_cases e9:mid=p
       ·rw [e9];exact h8
       rw [show a=p by omega];exact h9)
      have HX:Hid (∃ f1,aA _ g n f1/\aK a mid (fun k=>f (bt p m e k)) f1/\aE f1 a mid/\Below w0.heap.size w0 _):=⟨_,HR2.out.1,aK.refl _ _ _,HSO.out,HR2.out.2⟩
      clear HR2;go_wp2_with fail
      go_meet
      exact HX.out
    case rest=>
    obtain ⟨f1,R1,P1,S1,B1⟩:=hcut;have HR3:Hid (aA wc g n f1/\aK a mid (fun k=>f (bt p m e k)) f1/\aE f1 a mid/\Below w0.heap.size w0 wc):=⟨R1,P1,S1,B1⟩
    have HRU:Hid (aE f1 mid e/\aE f1 e b):=by
     have hI:=HIN.out;refine ⟨fun x y hx hxy hy=>?_,fun x y hx hxy hy=>?_⟩
     ·rw [P1.out (.inr hx),P1.out (.inr (by omega))];exact HRUN.out.2.2.1 x y hx hxy hy
     rw [P1.out (.inr (by omega)),P1.out (.inr (by omega))];exact HRUN.out.2.2.2 x y hx hxy hy
    have HFIN:Hid (∀ f2,aK mid b f1 f2->aE f2 mid b->aK a b f f2/\aE f2 a b):=by
     intro f2 P2 S2;have hI:=HIN.out;refine ⟨((aK.rot f (show p<= m by omega) (show m<= e by omega)).mono (by omega) (by omega)).trans ((P1.mono Nl (by omega)).trans (P2.mono (by omega) Nl)),iP (by omega) (by omega) (fun x y hx hx' hy hy'=>?_) P1 S1 P2 S2⟩
     have h9:=HC.out.cross HSS.out.1 HSS.out.2 hx hx' hy hy';rw [<- HE.out] at h9;exact h9
    clear R1 P1 S1 B1 HR2 HRUN;by_cases c1:mid<e
    ·have d1:(mid:Int)<(e:Int):=by omega
     by_cases c2:e<b
     ·have d2:(e:Int)<(b:Int):=by omega
      go_wp2_with fail
      refine (HIH.out g n c mid e b f1 w0 _ HR3.out.2.2.2 hg HR3.out.1 c1 c2 hbn hn HRU.out.1 HRU.out.2 (by have:=HIN.out;have:=HDD.out;omega)).mono ?_;rintro ee w1 ⟨rfl,f2,R2,P2,S2,B2⟩;have HX:Hid (∃ f',aA w1 g n f'/\aK a b f f'/\aE f' a b/\Below w0.heap.size w0 w1):=⟨f2,R2,(HFIN.out f2 P2 S2).1,(HFIN.out f2 P2 S2).2,B2⟩
      clear R2 P2 S2 B2 HR3 HFIN HRU;go_wp2;refine bodyPost_end (v:=.tuple #[]) (by simp [results,results193,go_sem]) rfl ⟨rfl,HX.out⟩
     have d2:¬ (e:Int)<(b:Int):=by omega
     have HX:Hid (∃ f',aA wc g n f'/\aK a b f f'/\aE f' a b/\Below w0.heap.size w0 wc):=(by
      have h8:aE f1 mid b:=by have:=HIN.out;rw [show b=e by omega];exact HRU.out.1
      exact ⟨f1,HR3.out.1,(HFIN.out f1 (aK.refl _ _ _) h8).1,(HFIN.out f1 (aK.refl _ _ _) h8).2,HR3.out.2.2.2⟩)
     clear HR3 HFIN HRU;go_wp2;refine bodyPost_end (v:=.tuple #[]) (by simp [results,results193,go_sem]) rfl ⟨rfl,HX.out⟩
    have d1:¬ (mid:Int)<(e:Int):=by omega
    have HX:Hid (∃ f',aA wc g n f'/\aK a b f f'/\aE f' a b/\Below w0.heap.size w0 wc):=(by
     have h8:aE f1 mid b:=by have:=HIN.out;rw [show mid=e by omega];exact HRU.out.2
     exact ⟨f1,HR3.out.1,(HFIN.out f1 (aK.refl _ _ _) h8).1,(HFIN.out f1 (aK.refl _ _ _) h8).2,HR3.out.2.2.2⟩)
    clear HR3 HFIN HRU;go_wp2;refine bodyPost_end (v:=.tuple #[]) (by simp [results,results193,go_sem]) rfl ⟨rfl,HX.out⟩
  have c0:¬ (mid:Int)<(m:Int):=by omega
  have HM:Hid (mid=(a+b) / 2/\a<= m/\mid<b/\mid+m-a<= b):=⟨hM,by omega,by omega,by omega⟩
  clear sl sr hD hr hb ih hA hB hM hN hP;go_enter func193,ntmps193
  go_wp2;go_loopw [20,21] (fun i j wr=>∃ (p q:Nat),a<= p/\p<= q/\q<= m/\i=Vi p/\j=Vi q/\(p=a\/cK (f (p-1)) (f (mid+m-p)))/\(q=m\/cy (f (mid+m-q-1)) (f q))/\aA wr g n f/\Below w0.heap.size w0 wr) (fun i j _=>(intOf j).toNat-(intOf i).toNat)
  case atStart=>exact ⟨a,m,Nl,by have:=HM.out;omega,Nl,rfl,rfl,.inl rfl,.inl rfl,HR0.out.1,HR0.out.2⟩
  case round=>
   clear HR0;obtain ⟨p,q,hmp,hpq,hqb,rfl,rfl,i1,i2,hrow,hbl⟩:=hrel;have HPQ:Hid ((p=a\/cK (f (p-1)) (f (mid+m-p)))/\(q=m\/cy (f (mid+m-q-1)) (f q))):=⟨i1,i2⟩
   clear i1 i2;by_cases hlt:p<q
   ·have hi:(p:Int)<(q:Int):=by omega
    obtain ⟨t,ht⟩:∃ t,t=(p+q) / 2:=⟨_,rfl⟩
    obtain ⟨x,hx0⟩:∃ x,x=mid+m-1-t:=⟨_,rfl⟩
    have ht':((p:Int)+(q:Int)) / 2=(t:Int):=by omega
    have HT:Hid (p<= t/\t<q/\x=mid+m-1-t):=(⟨by omega,by omega,hx0⟩:p<= t/\t<q/\x=mid+m-1-t)
    have htn2:t<n:=by have:=HM.out;omega
    have hxn2:x<n:=by have:=HM.out;omega
    have htn:(t:Int)<(n:Int):=by omega
    have hxn:(x:Int)<(n:Int):=by omega
    have wx:IntKind.i64.wrap ((pp:Int)-(t:Int))=(x:Int):=by have:=HM.out;have:=HPP.out;rw [IntKind.wrap_i64];omega
    have wt:IntKind.i64.wrap ((t:Int)+1)=(t:Int)+1:=by rw [IntKind.wrap_i64];omega
    clear ht hx0;obtain ⟨h,hh⟩:∃ h:Nat->Ru,h=f:=⟨_,rfl⟩
    have HF:Hid (h=f):=hh;have HROW:Hid (aA wr g n h/\Below w0.heap.size w0 wr):=⟨by rw [hh];exact hrow,hbl⟩
    clear hrow hbl;by_cases hx:cy (h x) (h t)
    ·have hc0:cm (h x) (h t)<0:=(eh _ _).2 hx
     have HL:Hid (cy (f x) (f t)):=by rw [<- hh];exact hx
     clear hx hh;go_wp2;refine wp_region_any (by kernel_rfl) ?_
     refine bw (fun u=>Below wr.heap.size wr u) (fun i v u=>match i with
      |0=>v=.func (.func 109) #[] #[]
      |1=>v=.slice (some ⟨g,0,none⟩) n c
      |2=>v=Vi (pp:Int)
      |3=>v=Vi (t:Int)
      |4=>v=Vi (x:Int)
      |5=>v=Vp g (x*7)
      |6=>v=.agg (bg (h x))
      |7=>v=.slice (some ⟨g,0,none⟩) n c
      |8=>v=Vi (t:Int)
      |9=>v=Vp g (t*7)
      |10=>v=.agg (bg (h t))
      |11=>v=Vi (cm (h x) (h t))
      |12=>v=.bool true
      |13=>v=.bool false
      |_=>True) (by kernel_rfl) (by kernel_rfl) (fun _ _ _ _ h _=>h) Br.drew ?_ ?_ _ _ rfl (by decide) (fun i=>by simp [Array.getD];try (split <;> rfl))
     ·intro vs u hR hall
      have e16:vs 13=.bool false:=hall 13 (by simp);simp only [bI];rw [e16];clear hall e16;have HX:Hid (aA u g n h/\Below w0.heap.size w0 u):=⟨HROW.out.1.below hR,ak HROW.out.2 hR⟩
      clear hR HROW;go_simp;go_wp2;go_roundw
      case rel=>(have:=HT.out;have e:=HF.out;subst e;exact ⟨p,t,by omega,by omega,by omega,rfl,rfl,HPQ.out.1,.inr (by rw [show mid+m-t-1=x by omega];exact HL.out),HX.out.1,HX.out.2⟩)
      case measure=>(have:=HT.out;simp [intOf];omega)
     intro u i o ρ hR ho hρ hc hf hd
     have hi:i<14:=by
      have:=(Array.getElem?_eq_some_iff.1 ho).1;simpa using this
     obtain rfl|rfl|rfl|rfl|rfl|rfl|rfl|rfl|rfl|rfl|rfl|rfl|rfl|rfl:i=0\/i=1\/i=2\/i=3\/i=4\/i=5\/i=6\/i=7\/i=8\/i=9\/i=10\/i=11\/i=12\/i=13:=by omega
     all_goals (simp only [List.getElem?_toArray,List.getElem?_cons_zero,List.getElem?_cons_succ,Option.some.injEq] at ho;subst ho)
     ·exact yr rfl (hρ 4 (by kernel_rfl)) hR
     ·exact yr rfl (hρ 0 (by kernel_rfl)) hR
     ·exact yr rfl (hρ 22 (by kernel_rfl)) hR
     ·exact yr rfl (hρ 23 (by kernel_rfl)) hR
     ·have h2:ρ (.tmp 160)=Vi (pp:Int):=dq hd 2 160
      have h3:ρ (.tmp 161)=Vi (t:Int):=dq hd 3 161;exact yr (aG rfl h2 h3 (by go_simp)) rfl hR
     ·have h1:ρ (.tmp 159)=.slice (some ⟨g,0,none⟩) n c:=dq hd 1 159
      have h4:ρ (.tmp 162)=Vi (x:Int):=dq hd 4 162;exact yr (au rfl h1 h4 (by go_simp)) rfl hR
     ·have R0:aA u g n h:=HROW.out.1.below hR
      obtain ⟨d0,d1,d2,d3,d4,d5,d6⟩:=aA.seven R0 (show x<n from by omega);clear R0;have h5:ρ (.tmp 163)=Vp g (x*7):=dq hd 5 163;exact yr (ah rfl h5 (by go_simp)) rfl hR
     ·exact yr rfl (hρ 0 (by kernel_rfl)) hR
     ·exact yr rfl (hρ 23 (by kernel_rfl)) hR
     ·have h7:ρ (.tmp 165)=.slice (some ⟨g,0,none⟩) n c:=dq hd 7 165
      have h8:ρ (.tmp 166)=Vi (t:Int):=dq hd 8 166;exact yr (au rfl h7 h8 (by go_simp)) rfl hR
     ·have R0:aA u g n h:=HROW.out.1.below hR
      obtain ⟨d0,d1,d2,d3,d4,d5,d6⟩:=aA.seven R0 (show t<n from by omega);clear R0;have h9:ρ (.tmp 167)=Vp g (t*7):=dq hd 9 167;exact yr (ah rfl h9 (by go_simp)) rfl hR
     ·have h6:ρ (.tmp 164)=.agg (bg (h x)):=dq hd 6 164
      have h10:ρ (.tmp 168)=.agg (bg (h t)):=dq hd 10 168;have h0:ρ (.tmp 158)=.func (.func 109) #[] #[]:=dq hd 0 158;refine .inl ⟨rfl,.inr ⟨_,_,cz rfl h0 (args:=#[.agg (bg (h x)),.agg (bg (h t))]) (by simp [h6,h10]) (by kernel_rfl),?_⟩⟩;refine (cA (h x) (h t) _).mono ?_;rintro e u' ⟨rfl,b'⟩;exact ⟨_,rfl,rfl,ak hR b',b'⟩
     ·have h11:ρ (.tmp 169)=Vi (cm (h x) (h t)):=dq hd 11 169
      exact yr (aG rfl h11 (hc _) (by go_simp)) rfl hR
     have h12:ρ (.tmp 170)=.bool true:=dq hd 12 170;exact yr (bT rfl h12 (by go_simp)) rfl hR
    have hc0:¬ cm (h x) (h t)<0:=fun e=>hx ((eh _ _).1 e)
    have HL:Hid (cK (f t) (f x)):=by rw [<- hh];exact hx
    clear hx hh;go_wp2;refine wp_region_any (by kernel_rfl) ?_
    refine bw (fun u=>Below wr.heap.size wr u) (fun i v u=>match i with
     |0=>v=.func (.func 109) #[] #[]
     |1=>v=.slice (some ⟨g,0,none⟩) n c
     |2=>v=Vi (pp:Int)
     |3=>v=Vi (t:Int)
     |4=>v=Vi (x:Int)
     |5=>v=Vp g (x*7)
     |6=>v=.agg (bg (h x))
     |7=>v=.slice (some ⟨g,0,none⟩) n c
     |8=>v=Vi (t:Int)
     |9=>v=Vp g (t*7)
     |10=>v=.agg (bg (h t))
     |11=>v=Vi (cm (h x) (h t))
     |12=>v=.bool false
     |13=>v=.bool true
     |_=>True) (by kernel_rfl) (by kernel_rfl) (fun _ _ _ _ h _=>h) Br.drew ?_ ?_ _ _ rfl (by decide) (fun i=>by simp [Array.getD];try (split <;> rfl))
    ·intro vs u hR hall
     have e16:vs 13=.bool true:=hall 13 (by simp);simp only [bI];rw [e16];clear hall e16;have HX:Hid (aA u g n h/\Below w0.heap.size w0 u):=⟨HROW.out.1.below hR,ak HROW.out.2 hR⟩
     clear hR HROW;go_simp;go_wp2;go_roundw
     case rel=>(have:=HT.out;have e:=HF.out;subst e;exact ⟨t+1,q,by omega,by omega,by omega,by go_num,rfl,.inr (by rw [Nat.add_sub_cancel,show mid+m-(t+1)=x by omega];exact HL.out),HPQ.out.2,HX.out.1,HX.out.2⟩)
     case measure=>(have:=HT.out;simp [intOf];omega)
    intro u i o ρ hR ho hρ hc hf hd
    have hi:i<14:=by
     have:=(Array.getElem?_eq_some_iff.1 ho).1;simpa using this
    obtain rfl|rfl|rfl|rfl|rfl|rfl|rfl|rfl|rfl|rfl|rfl|rfl|rfl|rfl:i=0\/i=1\/i=2\/i=3\/i=4\/i=5\/i=6\/i=7\/i=8\/i=9\/i=10\/i=11\/i=12\/i=13:=by omega
    all_goals (simp only [List.getElem?_toArray,List.getElem?_cons_zero,List.getElem?_cons_succ,Option.some.injEq] at ho;subst ho)
    ·exact yr rfl (hρ 4 (by kernel_rfl)) hR
    ·exact yr rfl (hρ 0 (by kernel_rfl)) hR
    ·exact yr rfl (hρ 22 (by kernel_rfl)) hR
    ·exact yr rfl (hρ 23 (by kernel_rfl)) hR
    ·have h2:ρ (.tmp 160)=Vi (pp:Int):=dq hd 2 160
     have h3:ρ (.tmp 161)=Vi (t:Int):=dq hd 3 161;exact yr (aG rfl h2 h3 (by go_simp)) rfl hR
    ·have h1:ρ (.tmp 159)=.slice (some ⟨g,0,none⟩) n c:=dq hd 1 159
     have h4:ρ (.tmp 162)=Vi (x:Int):=dq hd 4 162;exact yr (au rfl h1 h4 (by go_simp)) rfl hR
    ·have R0:aA u g n h:=HROW.out.1.below hR
     obtain ⟨d0,d1,d2,d3,d4,d5,d6⟩:=aA.seven R0 (show x<n from by omega);clear R0;have h5:ρ (.tmp 163)=Vp g (x*7):=dq hd 5 163;exact yr (ah rfl h5 (by go_simp)) rfl hR
    ·exact yr rfl (hρ 0 (by kernel_rfl)) hR
    ·exact yr rfl (hρ 23 (by kernel_rfl)) hR
    ·have h7:ρ (.tmp 165)=.slice (some ⟨g,0,none⟩) n c:=dq hd 7 165
     have h8:ρ (.tmp 166)=Vi (t:Int):=dq hd 8 166;exact yr (au rfl h7 h8 (by go_simp)) rfl hR
    ·have R0:aA u g n h:=HROW.out.1.below hR
     obtain ⟨d0,d1,d2,d3,d4,d5,d6⟩:=aA.seven R0 (show t<n from by omega);clear R0;have h9:ρ (.tmp 167)=Vp g (t*7):=dq hd 9 167;exact yr (ah rfl h9 (by go_simp)) rfl hR
    ·have h6:ρ (.tmp 164)=.agg (bg (h x)):=dq hd 6 164
     have h10:ρ (.tmp 168)=.agg (bg (h t)):=dq hd 10 168;have h0:ρ (.tmp 158)=.func (.func 109) #[] #[]:=dq hd 0 158;refine .inl ⟨rfl,.inr ⟨_,_,cz rfl h0 (args:=#[.agg (bg (h x)),.agg (bg (h t))]) (by simp [h6,h10]) (by kernel_rfl),?_⟩⟩;refine (cA (h x) (h t) _).mono ?_;rintro e u' ⟨rfl,b'⟩;exact ⟨_,rfl,rfl,ak hR b',b'⟩
    ·have h11:ρ (.tmp 169)=Vi (cm (h x) (h t)):=dq hd 11 169
     exact yr (aG rfl h11 (hc _) (by go_simp)) rfl hR
    have h12:ρ (.tmp 170)=.bool false:=dq hd 12 170;exact yr (bT rfl h12 (by go_simp)) rfl hR
   have hi:¬ (p:Int)<(q:Int):=by omega
   obtain rfl:p=q:=by omega
   have HC:Hid (Cutd f a m b mid p):=by
    have hM:=HM.out;refine ⟨hM.1,by omega,by omega,by omega,⟨fun _=>⟨by omega,by omega⟩,fun _=>⟨by omega,by omega⟩⟩,?_,?_⟩
    ·rcases HPQ.out.1 with e0|e0
     ·exact .inr (.inl ⟨by omega,e0⟩)
     exact .inr (.inr e0)
    rcases HPQ.out.2 with e0|e0
    ·exact .inr (.inl ⟨by omega,e0⟩)
    exact .inr (.inr e0)
   obtain ⟨e,he⟩:∃ e,e=mid+m-p:=⟨_,rfl⟩
   have we:IntKind.i64.wrap ((nn:Int)-(p:Int))=(e:Int):=by have:=HM.out;have:=HPP.out;rw [IntKind.wrap_i64];omega
   have HE:Hid (e=mid+m-p):=he
   have HIN:Hid (a<= p/\p<= m/\m<= e/\e<= b/\p<= mid/\mid<= e/\a<= mid/\mid<b/\a<mid):=by
    have:=HC.out.in';have:=HM.out;show _/\_;omega
   have HR1:Hid (aA wr g n f/\Below w0.heap.size w0 wr):=⟨hrow,hbl⟩
   clear hrow hbl he HPQ;obtain ⟨b1,hb1⟩:∃ b1:Bool,b1=decide (p<m/\m<e):=⟨_,rfl⟩
   have HB1:Hid (b1=decide (p<m/\m<e)):=hb1;clear hb1;go_upto_region 39 with fail
   go_cut [185] from 178 to 185 (fun sv wx=>sv=.bool b1/\wx=wr)
   case first=>
    by_cases c1:p<m
    ·have d1:(p:Int)<(m:Int):=by omega
     by_cases c2:m<e
     ·have d2:(m:Int)<(e:Int):=by omega
      go_wp2_with fail
      go_meet
      exact ⟨by rw [HB1.out,decide_eq_true ⟨c1,c2⟩],rfl⟩
     have d2:¬ (m:Int)<(e:Int):=by omega
     go_wp2_with fail
     go_meet
     exact ⟨by rw [HB1.out,decide_eq_false (fun h=>c2 h.2)],rfl⟩
    have d1:¬ (p:Int)<(m:Int):=by omega
    go_wp2_with fail
    go_meet
    exact ⟨by rw [HB1.out,decide_eq_false (fun h=>c1 h.1)],rfl⟩
   case rest=>
   obtain ⟨rfl,rfl⟩:=hcut;go_upto_if 185 with fail
   go_cut [] (fun wx=>aA wx g n (fun k=>f (bt p m e k))/\Below w0.heap.size w0 wx)
   case first=>
    cases b1 with
    |true=>
     have c1:=of_decide_eq_true HB1.out.symm;go_wp2_with fail
     refine (kn g n c p m e f w0 _ HR1.out.2 hg HR1.out.1 c1.1 c1.2 (by have:=HIN.out;omega) hn).mono ?_;rintro ee w1 ⟨rfl,R1,B1⟩;have HX:Hid (aA w1 g n (fun k=>f (bt p m e k))/\Below w0.heap.size w0 w1):=⟨R1,B1⟩
     clear HR1 R1 B1;go_wp2_with fail
     go_meet
     exact HX.out
    |false=>
     have c1:=of_decide_eq_false HB1.out.symm;have HX:Hid (aA _ g n (fun k=>f (bt p m e k))/\Below w0.heap.size w0 _):=⟨aA.ext HR1.out.1 (fun k=>congrArg f (by have:=HIN.out;unfold bt;(repeat' split) <;> omega)),HR1.out.2⟩
     clear HR1;go_wp2_with fail
     go_meet
     exact HX.out
   case rest=>
   obtain ⟨RC,BC⟩:=hcut;have HR2:Hid (aA wc g n (fun k=>f (bt p m e k))/\Below w0.heap.size w0 wc):=⟨RC,BC⟩
   have HRUN:Hid (aE (fun k=>f (bt p m e k)) a p/\aE (fun k=>f (bt p m e k)) p mid/\aE (fun k=>f (bt p m e k)) mid e/\aE (fun k=>f (bt p m e k)) e b):=by
    have:=HC.out.runs HSS.out.1 HSS.out.2;rw [<- HE.out] at this;exact this
   clear RC BC HR1;obtain ⟨b2,hb2⟩:∃ b2:Bool,b2=decide (a<p/\p<mid):=⟨_,rfl⟩
   have HB2:Hid (b2=decide (a<p/\p<mid)):=hb2;clear hb2;obtain ⟨W2,hW2⟩:∃ W2,W2=wc:=⟨_,rfl⟩
   rw [<- hW2] at HR2 ⊢;clear hW2;go_upto_region 41 with fail
   go_cut [199] from 192 to 199 (fun sv wx=>sv=.bool b2/\wx=W2)
   case first=>
    by_cases c1:a<p
    ·have d1:(a:Int)<(p:Int):=by omega
     by_cases c2:p<mid
     ·have d2:(p:Int)<(mid:Int):=by omega
      go_wp2_with fail
      go_meet
      exact ⟨by rw [HB2.out,decide_eq_true ⟨c1,c2⟩],rfl⟩
     have d2:¬ (p:Int)<(mid:Int):=by omega
     go_wp2_with fail
     go_meet
     exact ⟨by rw [HB2.out,decide_eq_false (fun h=>c2 h.2)],rfl⟩
    have d1:¬ (a:Int)<(p:Int):=by omega
    go_wp2_with fail
    go_meet
    exact ⟨by rw [HB2.out,decide_eq_false (fun h=>c1 h.1)],rfl⟩
   case rest=>
   obtain ⟨rfl,rfl⟩:=hcut;go_upto_if 199 with fail
   go_cut [] (fun wx=>∃ f1,aA wx g n f1/\aK a mid (fun k=>f (bt p m e k)) f1/\aE f1 a mid/\Below w0.heap.size w0 wx)
   case first=>
    cases b2 with
    |true=>
     have c1:=of_decide_eq_true HB2.out.symm;go_wp2_with fail
     refine (HIH.out g n c a p mid (fun k=>f (bt p m e k)) w0 _ HR2.out.2 hg HR2.out.1 c1.1 c1.2 (by have:=HIN.out;omega) hn HRUN.out.1 HRUN.out.2.1 (by have:=HIN.out;have:=HDD.out;omega)).mono ?_;rintro ee w1 ⟨rfl,f1,R1,P1,S1,B1⟩;have HX:Hid (∃ f1,aA w1 g n f1/\aK a mid (fun k=>f (bt p m e k)) f1/\aE f1 a mid/\Below w0.heap.size w0 w1):=⟨f1,R1,P1,S1,B1⟩
     clear HR2 R1 B1 P1 S1;go_wp2_with fail
     go_meet
     exact HX.out
    |false=>
     have c1:=of_decide_eq_false HB2.out.symm
     have HSO:Hid (aE (fun k=>f (bt p m e k)) a mid):=(by
      have hI:=HIN.out;have h8:=HRUN.out.1;have h9:=HRUN.out.2.1;by_cases e9:mid=p
      ·rw [e9];exact h8
      rw [show a=p by omega];exact h9)
     have HX:Hid (∃ f1,aA _ g n f1/\aK a mid (fun k=>f (bt p m e k)) f1/\aE f1 a mid/\Below w0.heap.size w0 _):=⟨_,HR2.out.1,aK.refl _ _ _,HSO.out,HR2.out.2⟩
     clear HR2;go_wp2_with fail
     go_meet
     exact HX.out
   case rest=>
   obtain ⟨f1,R1,P1,S1,B1⟩:=hcut;have HR3:Hid (aA wc g n f1/\aK a mid (fun k=>f (bt p m e k)) f1/\aE f1 a mid/\Below w0.heap.size w0 wc):=⟨R1,P1,S1,B1⟩
   have HRU:Hid (aE f1 mid e/\aE f1 e b):=by
    have hI:=HIN.out;refine ⟨fun x y hx hxy hy=>?_,fun x y hx hxy hy=>?_⟩
    ·rw [P1.out (.inr hx),P1.out (.inr (by omega))];exact HRUN.out.2.2.1 x y hx hxy hy
    rw [P1.out (.inr (by omega)),P1.out (.inr (by omega))];exact HRUN.out.2.2.2 x y hx hxy hy
   have HFIN:Hid (∀ f2,aK mid b f1 f2->aE f2 mid b->aK a b f f2/\aE f2 a b):=by
    intro f2 P2 S2;have hI:=HIN.out;refine ⟨((aK.rot f (show p<= m by omega) (show m<= e by omega)).mono (by omega) (by omega)).trans ((P1.mono Nl (by omega)).trans (P2.mono (by omega) Nl)),iP (by omega) (by omega) (fun x y hx hx' hy hy'=>?_) P1 S1 P2 S2⟩
    have h9:=HC.out.cross HSS.out.1 HSS.out.2 hx hx' hy hy';rw [<- HE.out] at h9;exact h9
   clear R1 P1 S1 B1 HR2 HRUN;by_cases c1:mid<e
   ·have d1:(mid:Int)<(e:Int):=by omega
    by_cases c2:e<b
    ·have d2:(e:Int)<(b:Int):=by omega
     go_wp2_with fail
     refine (HIH.out g n c mid e b f1 w0 _ HR3.out.2.2.2 hg HR3.out.1 c1 c2 hbn hn HRU.out.1 HRU.out.2 (by have:=HIN.out;have:=HDD.out;omega)).mono ?_;rintro ee w1 ⟨rfl,f2,R2,P2,S2,B2⟩;have HX:Hid (∃ f',aA w1 g n f'/\aK a b f f'/\aE f' a b/\Below w0.heap.size w0 w1):=⟨f2,R2,(HFIN.out f2 P2 S2).1,(HFIN.out f2 P2 S2).2,B2⟩
     clear R2 P2 S2 B2 HR3 HFIN HRU;go_wp2;refine bodyPost_end (v:=.tuple #[]) (by simp [results,results193,go_sem]) rfl ⟨rfl,HX.out⟩
    have d2:¬ (e:Int)<(b:Int):=by omega
    have HX:Hid (∃ f',aA wc g n f'/\aK a b f f'/\aE f' a b/\Below w0.heap.size w0 wc):=(by
     have h8:aE f1 mid b:=by have:=HIN.out;rw [show b=e by omega];exact HRU.out.1
     exact ⟨f1,HR3.out.1,(HFIN.out f1 (aK.refl _ _ _) h8).1,(HFIN.out f1 (aK.refl _ _ _) h8).2,HR3.out.2.2.2⟩)
    clear HR3 HFIN HRU;go_wp2;refine bodyPost_end (v:=.tuple #[]) (by simp [results,results193,go_sem]) rfl ⟨rfl,HX.out⟩
   have d1:¬ (mid:Int)<(e:Int):=by omega
   have HX:Hid (∃ f',aA wc g n f'/\aK a b f f'/\aE f' a b/\Below w0.heap.size w0 wc):=(by
    have h8:aE f1 mid b:=by have:=HIN.out;rw [show mid=e by omega];exact HRU.out.2
    exact ⟨f1,HR3.out.1,(HFIN.out f1 (aK.refl _ _ _) h8).1,(HFIN.out f1 (aK.refl _ _ _) h8).2,HR3.out.2.2.2⟩)
   clear HR3 HFIN HRU;go_wp2;refine bodyPost_end (v:=.tuple #[]) (by simp [results,results193,go_sem]) rfl ⟨rfl,HX.out⟩
end Go.Proofs.YtohikbpolofklaaGreat
