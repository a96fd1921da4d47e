/- Texts that the proof needs, joined: Sr6. -/
import Derived.Test.YtohikbpolofklaaGreatY18
set_option linter.unusedVariables false
set_option linter.unusedSimpArgs false
set_option maxHeartbeats 2000000
set_option maxRecDepth 20000
namespace Go.Proofs.YtohikbpolofklaaGreat
open Go.RowKit Go.Proofs.Tryz
theorem mv(g n c a m b:Nat)(f:Nat->Ru)(w0 w:World)(hb:Below w0.heap.size w0 w)(hg:w0.heap.size<= g)(hr:aA w g n f)(h1:a<m)(h2:m<b)(hbn:b<= n)(hn:n<= 1000000)(sl:aE f a m)(sr:aE f m b)(hA:¬ m=a+1)(hB:b=m+1):
 Calls prog 193 #[.slice (some ⟨g,0,none⟩) n c,Vi (a:Int),Vi (m:Int),Vi (b:Int),.func (.func 109) #[] #[]] w fun e w'=>e=.returned (.tuple #[])/\∃ f',aA w' g n f'/\aK a b f f'/\aE f' a b/\Below w0.heap.size w0 w':=by
 have HB:Hid (b=m+1):=hB;have e1:¬ IntKind.i64.wrap ((m:Int)-a)=1:=by rw [IntKind.wrap_i64];omega
 have w1:IntKind.i64.wrap ((m:Int)-a)=(m:Int)-a:=by rw [IntKind.wrap_i64];omega
 have e1':((m:Int)-a == 1)=false:=by simp;omega
 have e3:¬ (m:Int)-a=1:=by omega
 clear e1;have e2:IntKind.i64.wrap ((b:Int)-m)=1:=by rw [IntKind.wrap_i64];omega
 have HS:Hid (aE f a m):=sl;have HR0:Hid (aA w g n f/\Below w0.heap.size w0 w):=⟨hr,hb⟩
 clear hA hB sl sr hr hb;go_enter func193,ntmps193
 go_wp2;go_loopw [14,15] (fun i j wr=>∃ (p q:Nat),a<= p/\p<= q/\q<= m/\i=Vi p/\j=Vi q/\(p=a\/¬ cy (f m) (f (p-1)))/\(q=m\/cy (f m) (f q))/\aA wr g n f/\Below w0.heap.size w0 wr) (fun i j _=>(intOf j).toNat-(intOf i).toNat)
 case atStart=>exact ⟨a,m,Nl,by omega,Nl,rfl,rfl,.inl rfl,.inl rfl,HR0.out.1,HR0.out.2⟩
 case round=>
  clear HR0;obtain ⟨p,q,hmp,hpq,hqb,rfl,rfl,i1,i2,hrow,hbl⟩:=hrel;have HPQ:Hid ((p=a\/¬ cy (f m) (f (p-1)))/\(q=m\/cy (f m) (f q))):=⟨i1,i2⟩
  clear i1 i2;by_cases hlt:p<q
  ·have hi:(p:Int)<(q:Int):=by omega
   obtain ⟨t,ht⟩:∃ t,t=(p+q) / 2:=⟨_,rfl⟩
   have ht':((p:Int)+(q:Int)) / 2=(t:Int):=by omega
   have HT:Hid (p<= t/\t<q):=(⟨by omega,by omega⟩:p<= t/\t<q)
   have htn:(t:Int)<(n:Int):=by omega
   have hmn:(m:Int)<(n:Int):=by omega
   have htn2:t<n:=by omega
   have hmn2:m<n:=by omega
   have wt:IntKind.i64.wrap ((t:Int)+1)=(t:Int)+1:=by rw [IntKind.wrap_i64];omega
   clear ht;obtain ⟨h,hh⟩:∃ h:Nat->Ru,h=f:=⟨_,rfl⟩
   have HF:Hid (h=f):=hh;have HROW:Hid (aA wr g n h/\Below w0.heap.size w0 wr):=⟨by rw [hh];exact hrow,hbl⟩
   clear hrow hbl;by_cases hx:cy (h m) (h t)
   ·have hc0:cm (h m) (h t)<0:=(eh _ _).2 hx
    have HL:Hid (cy (f m) (f t)):=by rw [<- hh];exact hx
    clear hx hh;go_wp2;refine wp_region_any (by kernel_rfl) ?_
    refine bw (fun u=>Below wr.heap.size wr u) (fun i v u=>match i with
     |0=>v=.func (.func 109) #[] #[]
     |1=>v=.slice (some ⟨g,0,none⟩) n c
     |2=>v=Vi (m:Int)
     |3=>v=Vp g (m*7)
     |4=>v=.agg (bg (h m))
     |5=>v=.slice (some ⟨g,0,none⟩) n c
     |6=>v=Vi (t:Int)
     |7=>v=Vp g (t*7)
     |8=>v=.agg (bg (h t))
     |9=>v=Vi (cm (h m) (h t))
     |10=>v=.bool true
     |11=>v=.bool false
     |_=>True) (by kernel_rfl) (by kernel_rfl) (fun _ _ _ _ h _=>h) Br.drew ?_ ?_ _ _ rfl (by decide) (fun i=>by simp [Array.getD];try (split <;> rfl))
    ·intro vs u hR hall
     have e16:vs 11=.bool false:=hall 11 (by simp);simp only [bI];rw [e16];clear hall e16;have HX:Hid (aA u g n h/\Below w0.heap.size w0 u):=⟨HROW.out.1.below hR,ak HROW.out.2 hR⟩
     clear hR HROW;go_simp;go_wp2;go_roundw
     case rel=>(have:=HT.out;have e:=HF.out;subst e;exact ⟨p,t,by omega,by omega,by omega,rfl,rfl,HPQ.out.1,.inr HL.out,HX.out.1,HX.out.2⟩)
     case measure=>(have:=HT.out;simp [intOf];omega)
    intro u i o ρ hR ho hρ hc hf hd
    have hi:i<12:=by
     have:=(Array.getElem?_eq_some_iff.1 ho).1;simpa using this
    obtain rfl|rfl|rfl|rfl|rfl|rfl|rfl|rfl|rfl|rfl|rfl|rfl:i=0\/i=1\/i=2\/i=3\/i=4\/i=5\/i=6\/i=7\/i=8\/i=9\/i=10\/i=11:=by omega
    all_goals (simp only [List.getElem?_toArray,List.getElem?_cons_zero,List.getElem?_cons_succ,Option.some.injEq] at ho;subst ho)
    ·exact yr rfl (hρ 4 (by kernel_rfl)) hR
    ·exact yr rfl (hρ 0 (by kernel_rfl)) hR
    ·exact yr rfl (hρ 2 (by kernel_rfl)) hR
    ·have h1:ρ (.tmp 93)=.slice (some ⟨g,0,none⟩) n c:=dq hd 1 93
     have h2:ρ (.tmp 94)=Vi (m:Int):=dq hd 2 94;exact yr (au rfl h1 h2 (by go_simp)) rfl hR
    ·have R0:aA u g n h:=HROW.out.1.below hR
     obtain ⟨d0,d1,d2,d3,d4,d5,d6⟩:=aA.seven R0 (show m<n from by omega);clear R0;have h3:ρ (.tmp 95)=Vp g (m*7):=dq hd 3 95;exact yr (ah rfl h3 (by go_simp)) rfl hR
    ·exact yr rfl (hρ 0 (by kernel_rfl)) hR
    ·exact yr rfl (hρ 16 (by kernel_rfl)) hR
    ·have h5:ρ (.tmp 97)=.slice (some ⟨g,0,none⟩) n c:=dq hd 5 97
     have h6:ρ (.tmp 98)=Vi (t:Int):=dq hd 6 98;exact yr (au rfl h5 h6 (by go_simp)) rfl hR
    ·have R0:aA u g n h:=HROW.out.1.below hR
     obtain ⟨d0,d1,d2,d3,d4,d5,d6⟩:=aA.seven R0 (show t<n from by omega);clear R0;have h7:ρ (.tmp 99)=Vp g (t*7):=dq hd 7 99;exact yr (ah rfl h7 (by go_simp)) rfl hR
    ·have h4:ρ (.tmp 96)=.agg (bg (h m)):=dq hd 4 96
     have h8:ρ (.tmp 100)=.agg (bg (h t)):=dq hd 8 100;have h0:ρ (.tmp 92)=.func (.func 109) #[] #[]:=dq hd 0 92;refine .inl ⟨rfl,.inr ⟨_,_,cz rfl h0 (args:=#[.agg (bg (h m)),.agg (bg (h t))]) (by simp [h4,h8]) (by kernel_rfl),?_⟩⟩;refine (cA (h m) (h t) _).mono ?_;rintro e u' ⟨rfl,b'⟩;exact ⟨_,rfl,rfl,ak hR b',b'⟩
    ·have h9:ρ (.tmp 101)=Vi (cm (h m) (h t)):=dq hd 9 101
     exact yr (aG rfl h9 (hc _) (by go_simp)) rfl hR
    have h10:ρ (.tmp 102)=.bool true:=dq hd 10 102;exact yr (bT rfl h10 (by go_simp)) rfl hR
   have hc0:¬ cm (h m) (h t)<0:=fun e=>hx ((eh _ _).1 e)
   have HL:Hid (¬ cy (f m) (f t)):=by rw [<- hh];exact hx
   clear hx hh;go_wp2;refine wp_region_any (by kernel_rfl) ?_
   refine bw (fun u=>Below wr.heap.size wr u) (fun i v u=>match i with
    |0=>v=.func (.func 109) #[] #[]
    |1=>v=.slice (some ⟨g,0,none⟩) n c
    |2=>v=Vi (m:Int)
    |3=>v=Vp g (m*7)
    |4=>v=.agg (bg (h m))
    |5=>v=.slice (some ⟨g,0,none⟩) n c
    |6=>v=Vi (t:Int)
    |7=>v=Vp g (t*7)
    |8=>v=.agg (bg (h t))
    |9=>v=Vi (cm (h m) (h t))
    |10=>v=.bool false
    |11=>v=.bool true
    |_=>True) (by kernel_rfl) (by kernel_rfl) (fun _ _ _ _ h _=>h) Br.drew ?_ ?_ _ _ rfl (by decide) (fun i=>by simp [Array.getD];try (split <;> rfl))
   ·intro vs u hR hall
    have e16:vs 11=.bool true:=hall 11 (by simp);simp only [bI];rw [e16];clear hall e16;have HX:Hid (aA u g n h/\Below w0.heap.size w0 u):=⟨HROW.out.1.below hR,ak HROW.out.2 hR⟩
    clear hR HROW;go_simp;go_wp2;go_roundw
    case rel=>(have:=HT.out;have e:=HF.out;subst e;exact ⟨t+1,q,by omega,by omega,by omega,by go_num,rfl,.inr (by rw [Nat.add_sub_cancel];exact HL.out),HPQ.out.2,HX.out.1,HX.out.2⟩)
    case measure=>(have:=HT.out;simp [intOf];omega)
   intro u i o ρ hR ho hρ hc hf hd
   have hi:i<12:=by
    have:=(Array.getElem?_eq_some_iff.1 ho).1;simpa using this
   obtain rfl|rfl|rfl|rfl|rfl|rfl|rfl|rfl|rfl|rfl|rfl|rfl:i=0\/i=1\/i=2\/i=3\/i=4\/i=5\/i=6\/i=7\/i=8\/i=9\/i=10\/i=11:=by omega
   all_goals (simp only [List.getElem?_toArray,List.getElem?_cons_zero,List.getElem?_cons_succ,Option.some.injEq] at ho;subst ho)
   ·exact yr rfl (hρ 4 (by kernel_rfl)) hR
   ·exact yr rfl (hρ 0 (by kernel_rfl)) hR
   ·exact yr rfl (hρ 2 (by kernel_rfl)) hR
   ·have h1:ρ (.tmp 93)=.slice (some ⟨g,0,none⟩) n c:=dq hd 1 93
    have h2:ρ (.tmp 94)=Vi (m:Int):=dq hd 2 94;exact yr (au rfl h1 h2 (by go_simp)) rfl hR
   ·have R0:aA u g n h:=HROW.out.1.below hR
    obtain ⟨d0,d1,d2,d3,d4,d5,d6⟩:=aA.seven R0 (show m<n from by omega);clear R0;have h3:ρ (.tmp 95)=Vp g (m*7):=dq hd 3 95;exact yr (ah rfl h3 (by go_simp)) rfl hR
   ·exact yr rfl (hρ 0 (by kernel_rfl)) hR
   ·exact yr rfl (hρ 16 (by kernel_rfl)) hR
   ·have h5:ρ (.tmp 97)=.slice (some ⟨g,0,none⟩) n c:=dq hd 5 97
    have h6:ρ (.tmp 98)=Vi (t:Int):=dq hd 6 98;exact yr (au rfl h5 h6 (by go_simp)) rfl hR
   ·have R0:aA u g n h:=HROW.out.1.below hR
    obtain ⟨d0,d1,d2,d3,d4,d5,d6⟩:=aA.seven R0 (show t<n from by omega);clear R0;have h7:ρ (.tmp 99)=Vp g (t*7):=dq hd 7 99;exact yr (ah rfl h7 (by go_simp)) rfl hR
   ·have h4:ρ (.tmp 96)=.agg (bg (h m)):=dq hd 4 96
    have h8:ρ (.tmp 100)=.agg (bg (h t)):=dq hd 8 100;have h0:ρ (.tmp 92)=.func (.func 109) #[] #[]:=dq hd 0 92;refine .inl ⟨rfl,.inr ⟨_,_,cz rfl h0 (args:=#[.agg (bg (h m)),.agg (bg (h t))]) (by simp [h4,h8]) (by kernel_rfl),?_⟩⟩;refine (cA (h m) (h t) _).mono ?_;rintro e u' ⟨rfl,b'⟩;exact ⟨_,rfl,rfl,ak hR b',b'⟩
   ·have h9:ρ (.tmp 101)=Vi (cm (h m) (h t)):=dq hd 9 101
    exact yr (aG rfl h9 (hc _) (by go_simp)) rfl hR
   have h10:ρ (.tmp 102)=.bool false:=dq hd 10 102;exact yr (bT rfl h10 (by go_simp)) rfl hR
  have hi:¬ (p:Int)<(q:Int):=by omega
  obtain rfl:p=q:=by omega
  have HR0:Hid (aA wr g n f/\Below w0.heap.size w0 wr):=⟨hrow,hbl⟩
  clear hrow hbl;go_wp2;go_loopw [17] (fun i wr=>∃ z:Nat,p<= z/\z<= m/\i=Vi z/\aA wr g n (fun x=>f (dm z (m+1) x))/\Below w0.heap.size w0 wr) (fun i _=>(intOf i).toNat)
  case atStart=>exact ⟨m,hqb,Nl,rfl,aA.ext HR0.out.1 (fun x=>by rw [qK]),HR0.out.2⟩
  case round=>
   clear HR0;obtain ⟨z,hz1,hz2,rfl,hrow,hbl⟩:=hrel;obtain ⟨h,hh⟩:∃ h:Nat->Ru,h=fun x=>f (dm z (m+1) x):=⟨_,rfl⟩
   rw [<- hh] at hrow;have HH:Hid (h=fun x=>f (dm z (m+1) x)):=hh;have HROW:Hid (aA wr g n h/\Below w0.heap.size w0 wr):=⟨hrow,hbl⟩
   clear hrow hbl hh;by_cases hzP:p<z
   ·have hi2:(p:Int)<(z:Int):=by omega
    obtain ⟨y,hy⟩:∃ y,z=y+1:=⟨z-1,by omega⟩
    have wy:IntKind.i64.wrap ((z:Int)-1)=(y:Int):=by rw [IntKind.wrap_i64];omega
    have hzn:(z:Int)<(n:Int):=by omega
    have hyn:(y:Int)<(n:Int):=by omega
    have hzn2:z<n:=by omega
    have hyn2:y<n:=by omega
    have hIJ:¬ z=y:=by omega
    have hJI:¬ y=z:=by omega
    have HY:Hid (z=y+1):=hy;clear hy;go_wp2;refine wp_region_any (by kernel_rfl) ?_
    refine gm (fun l u=>aA u g n (fun k=>if l 15=true/\k=z then h y else if l 17=true/\k=y then h z else h k)/\Below w0.heap.size w0 u) (fun _ _=>True) (fun i v u=>match i with
     |0=>v=.slice (some ⟨g,0,none⟩) n c
     |1=>v=Vi (z:Int)
     |2=>v=.slice (some ⟨g,0,none⟩) n c
     |3=>v=Vi (z:Int)
     |4=>v=Vi (y:Int)
     |5=>v=.slice (some ⟨g,0,none⟩) n c
     |6=>v=Vi (z:Int)
     |7=>v=Vi (y:Int)
     |8=>v=Vp g (y*7)
     |9=>v=.agg (bg (h y))
     |10=>v=.slice (some ⟨g,0,none⟩) n c
     |11=>v=Vi (z:Int)
     |12=>v=Vp g (z*7)
     |13=>v=.agg (bg (h z))
     |14=>v=Vp g (z*7)
     |16=>v=Vp g (y*7)
     |_=>True) (by kernel_rfl) (by kernel_rfl) (fun _ _ _ _ h _=>h) (fun _=>trivial) ⟨aM.congr (aM.below HROW.out.1 Br.drew) (fun k _=>by simp),HROW.out.2.drew⟩ ?_ ?_ _ _ rfl (by decide) (fun i=>by simp [Array.getD];try (split <;> rfl))
    ·intro vs u hR _
     have R1:aA u g n (fun k=>h (cS z y k)):=hR.1.congr (fun k _=>congrArg cG (by by_cases e1:k=z <;> by_cases e2:k=y <;> simp [cS,e1,e2,hJI,hIJ]));have R2:aA u g n (fun k=>f (dm y (m+1) k)):=aA.ext R1 (fun k=>by rw [show y=z-1 by have:=HY.out;omega,<- si (show 0<z by omega) hz2,HH.out]);have HX:Hid (aA u g n (fun k=>f (dm y (m+1) k))/\Below w0.heap.size w0 u):=⟨R2,hR.2⟩
     clear R1 R2 hR HROW HH;simp only [bI];go_simp;go_wp2;go_roundw
     case rel=>(have:=HY.out;exact ⟨y,by omega,by omega,by first|rfl|go_num,HX.out.1,HX.out.2⟩)
     case measure=>(have:=HY.out;simp [intOf];omega)
    intro u i o ρ l hR ho hli hcl hρ hc hf hd hv
    have hi:i<18:=by
     have:=(Array.getElem?_eq_some_iff.1 ho).1;simpa using this
    obtain rfl|rfl|rfl|rfl|rfl|rfl|rfl|rfl|rfl|rfl|rfl|rfl|rfl|rfl|rfl|rfl|rfl|rfl:i=0\/i=1\/i=2\/i=3\/i=4\/i=5\/i=6\/i=7\/i=8\/i=9\/i=10\/i=11\/i=12\/i=13\/i=14\/i=15\/i=16\/i=17:=by omega
    all_goals (simp only [List.getElem?_toArray,List.getElem?_cons_zero,List.getElem?_cons_succ,Option.some.injEq] at ho;subst ho)
    ·exact yr rfl (hρ 0 (by kernel_rfl)) (by simpa [aW] using hR) trivial
    ·exact yr rfl (hρ 17 (by kernel_rfl)) (by simpa [aW] using hR) trivial
    ·exact yr rfl (hρ 0 (by kernel_rfl)) (by simpa [aW] using hR) trivial
    ·exact yr rfl (hρ 17 (by kernel_rfl)) (by simpa [aW] using hR) trivial
    ·have h3:ρ (.tmp 116)=Vi (z:Int):=hv 3 116 rfl (hd ⟨3,.data⟩ (by simp) rfl)
     exact yr (aG rfl h3 (hc _) (by go_simp)) rfl (by simpa [aW] using hR) trivial
    ·exact yr rfl (hρ 0 (by kernel_rfl)) (by simpa [aW] using hR) trivial
    ·exact yr rfl (hρ 17 (by kernel_rfl)) (by simpa [aW] using hR) trivial
    ·have h6:ρ (.tmp 119)=Vi (z:Int):=hv 6 119 rfl (hd ⟨6,.data⟩ (by simp) rfl)
     exact yr (aG rfl h6 (hc _) (by go_simp)) rfl (by simpa [aW] using hR) trivial
    ·have h5:ρ (.tmp 118)=.slice (some ⟨g,0,none⟩) n c:=hv 5 118 rfl (hd ⟨5,.data⟩ (by simp) rfl)
     have h7:ρ (.tmp 120)=Vi (y:Int):=hv 7 120 rfl (hd ⟨7,.data⟩ (by simp) rfl);exact yr (au rfl h5 h7 (by go_simp)) rfl (by simpa [aW] using hR) trivial
    ·have n1:l 15=false:=(by cases hx:l 15;(rfl);(have h1:=hcl 15 _ rfl hx ⟨9,.data⟩ (by simp) rfl;rw [hli] at h1;cases h1))
     have n2:l 17=false:=(by cases hx:l 17;(rfl);(have h1:=hcl 17 _ rfl hx ⟨9,.phase⟩ (by simp) rfl;rw [hli] at h1;cases h1))
     have R0:aA u g n h:=hR.1.congr (fun k _=>by simp [n1,n2]);obtain ⟨d0,d1,d2,d3,d4,d5,d6⟩:=aA.seven R0 (show y<n from by omega);clear R0;have h8:ρ (.tmp 121)=Vp g (y*7):=hv 8 121 rfl (hd ⟨8,.data⟩ (by simp) rfl);exact yr (ah rfl h8 (by go_simp)) rfl (by simpa [aW] using hR) trivial
    ·exact yr rfl (hρ 0 (by kernel_rfl)) (by simpa [aW] using hR) trivial
    ·exact yr rfl (hρ 17 (by kernel_rfl)) (by simpa [aW] using hR) trivial
    ·have h10:ρ (.tmp 123)=.slice (some ⟨g,0,none⟩) n c:=hv 10 123 rfl (hd ⟨10,.data⟩ (by simp) rfl)
     have h11:ρ (.tmp 124)=Vi (z:Int):=hv 11 124 rfl (hd ⟨11,.data⟩ (by simp) rfl);exact yr (au rfl h10 h11 (by go_simp)) rfl (by simpa [aW] using hR) trivial
    ·have n1:l 15=false:=(by cases hx:l 15;(rfl);(have h1:=hcl 15 _ rfl hx ⟨13,.phase⟩ (by simp) rfl;rw [hli] at h1;cases h1))
     have n2:l 17=false:=(by cases hx:l 17;(rfl);(have h1:=hcl 17 _ rfl hx ⟨13,.data⟩ (by simp) rfl;rw [hli] at h1;cases h1))
     have R0:aA u g n h:=hR.1.congr (fun k _=>by simp [n1,n2]);obtain ⟨d0,d1,d2,d3,d4,d5,d6⟩:=aA.seven R0 (show z<n from by omega);clear R0;have h12:ρ (.tmp 125)=Vp g (z*7):=hv 12 125 rfl (hd ⟨12,.data⟩ (by simp) rfl);exact yr (ah rfl h12 (by go_simp)) rfl (by simpa [aW] using hR) trivial
    ·have h0:ρ (.tmp 113)=.slice (some ⟨g,0,none⟩) n c:=hv 0 113 rfl (hd ⟨0,.data⟩ (by simp) rfl)
     have h1:ρ (.tmp 114)=Vi (z:Int):=hv 1 114 rfl (hd ⟨1,.data⟩ (by simp) rfl);exact yr (au rfl h0 h1 (by go_simp)) rfl (by simpa [aW] using hR) trivial
    ·obtain ⟨d0,d1,d2,d3,d4,d5,d6⟩:=aA.seven hR.1 (show z<n from by omega)
     have f0:=aM.fro hR.1 (z*7);have f1:=aM.fro hR.1 (z*7+1);have f2:=aM.fro hR.1 (z*7+2);have f3:=aM.fro hR.1 (z*7+3);have f4:=aM.fro hR.1 (z*7+4);have f5:=aM.fro hR.1 (z*7+5);have f6:=aM.fro hR.1 (z*7+6);have h14:ρ (.tmp 127)=Vp g (z*7):=hv 14 127 rfl (hd ⟨14,.data⟩ (by simp) rfl);have h9:ρ (.tmp 122)=.agg (bg (h y)):=hv 9 122 rfl (hd ⟨9,.data⟩ (by simp) rfl);have hr:(Instr.storeAt 61 (Vp g (z*7)) (.agg (bg (h y)))).run prog u=.ok () ((((((((u).setCell ⟨g,z*7,none⟩ (Vi (h y).u)).setCell ⟨g,z*7+1,none⟩ (Vi (h y).s)).setCell ⟨g,z*7+2,none⟩ (Vi (h y).lo)).setCell ⟨g,z*7+3,none⟩ (Vi (h y).hi)).setCell ⟨g,z*7+4,none⟩ (Vi (h y).p)).setCell ⟨g,z*7+5,none⟩ (Vi (h y).t)).setCell ⟨g,z*7+6,none⟩ (Vi (h y).sh)):=by go_simp
     have hR2:=aM.set hR.1 (show z<n from by omega) (cG (h y)) rfl;have hB2:=aD (g:=g) hg (cG (h y)) u (z*7) hR.2;exact .inl ⟨rfl,.inr (.inr ⟨rfl,_,bY rfl h14 h9 hr,⟨hR2.congr (fun k _=>by by_cases e:k=z <;> simp [aW,e,hIJ,hJI]),hB2⟩,trivial⟩)⟩
    ·have h2:ρ (.tmp 115)=.slice (some ⟨g,0,none⟩) n c:=hv 2 115 rfl (hd ⟨2,.data⟩ (by simp) rfl)
     have h4:ρ (.tmp 117)=Vi (y:Int):=hv 4 117 rfl (hd ⟨4,.data⟩ (by simp) rfl);exact yr (au rfl h2 h4 (by go_simp)) rfl (by simpa [aW] using hR) trivial
    obtain ⟨d0,d1,d2,d3,d4,d5,d6⟩:=aA.seven hR.1 (show y<n from by omega);have f0:=aM.fro hR.1 (y*7);have f1:=aM.fro hR.1 (y*7+1);have f2:=aM.fro hR.1 (y*7+2);have f3:=aM.fro hR.1 (y*7+3);have f4:=aM.fro hR.1 (y*7+4);have f5:=aM.fro hR.1 (y*7+5);have f6:=aM.fro hR.1 (y*7+6);have h16:ρ (.tmp 128)=Vp g (y*7):=hv 16 128 rfl (hd ⟨16,.data⟩ (by simp) rfl);have h13:ρ (.tmp 126)=.agg (bg (h z)):=hv 13 126 rfl (hd ⟨13,.data⟩ (by simp) rfl);have hr:(Instr.storeAt 61 (Vp g (y*7)) (.agg (bg (h z)))).run prog u=.ok () ((((((((u).setCell ⟨g,y*7,none⟩ (Vi (h z).u)).setCell ⟨g,y*7+1,none⟩ (Vi (h z).s)).setCell ⟨g,y*7+2,none⟩ (Vi (h z).lo)).setCell ⟨g,y*7+3,none⟩ (Vi (h z).hi)).setCell ⟨g,y*7+4,none⟩ (Vi (h z).p)).setCell ⟨g,y*7+5,none⟩ (Vi (h z).t)).setCell ⟨g,y*7+6,none⟩ (Vi (h z).sh)):=by go_simp
    have hR2:=aM.set hR.1 (show y<n from by omega) (cG (h z)) rfl;have hB2:=aD (g:=g) hg (cG (h z)) u (y*7) hR.2;exact .inl ⟨rfl,.inr (.inr ⟨rfl,_,bY rfl h16 h13 hr,⟨hR2.congr (fun k _=>by by_cases e:k=y <;> simp [aW,e,hIJ,hJI]),hB2⟩,trivial⟩)⟩
   have hi2:¬ (p:Int)<(z:Int):=by omega
   have HX:Hid (aA wr g n (fun x=>f (dm p (m+1) x))/\Below w0.heap.size w0 wr):=⟨by rw [show p=z by omega,<- HH.out];exact HROW.out.1,HROW.out.2⟩
   have HG:Hid (aK a b f (fun x=>f (dm p (m+1) x))/\aE (fun x=>f (dm p (m+1) x)) a b):=⟨aK.down f (by omega) hmp (by have:=HB.out;omega),by rw [HB.out];exact ot HS.out hmp hqb HPQ.out.1 HPQ.out.2⟩
   clear HROW HH;go_wp2;refine bodyPost_ret (v:=.tuple #[]) (by simp [results,results193,go_sem]) rfl ⟨rfl,_,HX.out.1,HG.out.1,HG.out.2,HX.out.2⟩
end Go.Proofs.YtohikbpolofklaaGreat
