/- Texts that the proof needs, joined: Sr11. -/
import Derived.Test.YtohikbpolofklaaGreatY21
import Derived.Test.YtohikbpolofklaaGreatY17
set_option linter.unusedVariables false
set_option linter.unusedSimpArgs false
set_option maxHeartbeats 8000000
set_option maxRecDepth 20000
namespace Go.Proofs.YtohikbpolofklaaGreat
open Go.RowKit Go.Proofs.Tryz
theorem vy{u:World}{g o:Nat}{a b c d:Value}(h0:u.cell? ⟨g,o,none⟩=some a)(h1:u.cell? ⟨g,o+1,none⟩=some b)(h2:u.cell? ⟨g,o+2,none⟩=some c)(h3:u.cell? ⟨g,o+3,none⟩=some d):u.rangeAt g o [a,b,c,d]:=by
 intro j v hv;match j,hv with
 |0,hv=>cases hv;exact h0
 |1,hv=>cases hv;exact h1
 |2,hv=>cases hv;exact h2
 |3,hv=>cases hv;exact h3
theorem gM(a:OA)(n cap:Nat)(f:Nat->Ru)(w:World)(hs:dU w a n f)(hl:n<= 2000000)(b:Bool)(hb:b=true↔ eK f n):
 Calls prog 20 #[.slice a n cap] w fun e w'=>e=.returned (.bool b)/\Below w.heap.size w w':=by
 have HB:Hid (b=true↔ eK f n):=hb;clear hb;by_cases hn:24<n
 ·have d:(24:Int)<(n:Int):=by omega
  have hno:b=false:=by cases b with|false=>rfl|true=>(have:=(HB.out.1 rfl).1;omega)
  subst hno;clear hs;go_enter func20,ntmps20
  go_wp2;go_ret;exact ⟨rfl,Br⟩
 have d:¬ (24:Int)<(n:Int):=by omega
 go_enter func20,ntmps20
 go_wp2;go_loopw [3] (fun i wr=>∃ z:Nat,z<= n/\i=Vi z/\(∀ k,k<z->bP (f k))/\gK f z/\Below w.heap.size w wr) (fun i _=>n-(intOf i).toNat)
 case atStart=>exact ⟨0,Nat.zero_le _,rfl,fun k hk=>by omega,fun i hi=>by omega,Br⟩
 case round=>
  obtain ⟨z,hz,rfl,hall,hap,hbl⟩:=hrel;have HZ:Hid ((∀ k,k<z->bP (f k))/\gK f z):=⟨hall,hap⟩
  clear hall hap;by_cases hlt:z<n
  ·have hi:(z:Int)<(n:Int):=by omega
   obtain ⟨bb,off,rfl,hb0,c0,c1,c2,c3,c4,c5,c6⟩:=dU.seven (fd.below hs hbl) hlt;go_wp2_with fail
   refine (oA (f z) _).mono ?_;rintro e w2 ⟨rfl,b2⟩;have B2:=ak hbl b2;clear hbl b2 c0 c1 c2 c3 c4 c5 c6 hb0;by_cases ho:bP (f z)
   ·rw [decide_eq_true ho]
    go_wp2;go_loopw [4] (fun i wr=>∃ y:Nat,y<= z/\i=Vi y/\(∀ k,k<y->¬ gJ (f k) (f z))/\Below w.heap.size w wr) (fun i _=>z-(intOf i).toNat)
    case atStart=>exact ⟨0,Nat.zero_le _,rfl,fun k hk=>by omega,B2⟩
    case round=>
     clear B2;obtain ⟨y,hy,rfl,hno',hbl⟩:=hrel;have HA:Hid (∀ k,k<y->¬ gJ (f k) (f z)):=hno';clear hno';by_cases hlt2:y<z
     case neg=>
      have hi2:¬ (y:Int)<(z:Int):=by omega
      have HX:Hid ((∀ k,k<z+1->bP (f k))/\gK f (z+1)):=⟨fun k hk=>(by by_cases e:k=z;(subst e;exact ho);(exact HZ.out.1 k (by omega))),fun i hi k hk=>(by by_cases e:i=z;(subst e;exact HA.out k (by omega));(exact HZ.out.2 i (by omega) k hk))⟩
      go_wp2;go_roundw
      case rel=>exact ⟨z+1,by omega,by go_num,HX.out.1,HX.out.2,hbl⟩
      case measure=>simp [intOf];omega
     have hi2:(y:Int)<(z:Int):=by omega
     have hyn:(y:Int)<(n:Int):=by omega
     have hyn2:y<n:=by omega
     have SS:=fd.below hs hbl
     have CE:Hid (∀ u,Below wr.heap.size wr u->u.rangeAt bb (off+z*7) [Vi (f z).u,Vi (f z).s,Vi (f z).lo,Vi (f z).hi]/\u.rangeAt bb (off+y*7) [Vi (f y).u,Vi (f y).s,Vi (f y).lo,Vi (f y).hi]):=by
      intro u hu;have S2:=fd.below SS hu;obtain ⟨b1,o1,e1,_,x0,x1,x2,x3,_,_,_⟩:=dU.seven S2 hlt;obtain ⟨b2,o2,e2,_,y0,y1,y2,y3,_,_,_⟩:=dU.seven S2 hyn2;simp only [Option.some.injEq,Addr.mk.injEq] at e1 e2;obtain ⟨rfl,rfl,_⟩:=e1;obtain ⟨rfl,rfl,_⟩:=e2;exact ⟨vy x0 x1 x2 x3,vy y0 y1 y2 y3⟩
     clear SS hs;obtain ⟨x0,h0⟩:∃ x,((f y).u == (f z).u)=x:=⟨_,rfl⟩
     obtain ⟨x1,h1⟩:∃ x,((f y).s == (f z).s)=x:=⟨_,rfl⟩
     obtain ⟨x2,h2⟩:∃ x,decide ((f y).lo<= (f z).hi)=x:=⟨_,rfl⟩
     obtain ⟨x3,h3⟩:∃ x,decide ((f z).lo<= (f y).hi)=x:=⟨_,rfl⟩
     obtain ⟨x,hx⟩:∃ x,(x0 && (x1 && (x2 && x3)))=x:=⟨_,rfl⟩
     have HX:Hid (((f y).u == (f z).u)=x0/\((f y).s == (f z).s)=x1/\decide ((f y).lo<= (f z).hi)=x2/\decide ((f z).lo<= (f y).hi)=x3):=⟨h0,h1,h2,h3⟩
     have HO:Hid ((x0 && (x1 && (x2 && x3)))=x/\(gJ (f y) (f z)↔ x=true)):=⟨hx,by rw [<- hx,<- h0,<- h1,<- h2,<- h3];simp [gJ]⟩
     clear h0 h1 h2 h3 hx;go_wp2;refine wp_region_any (by kernel_rfl) ?_
     refine bw (fun u=>Below wr.heap.size wr u) (fun i v u=>match i with
      |0=>v=.slice (some ⟨bb,off,none⟩) n cap
      |1=>v=Vi (y:Int)
      |2=>v=Vp bb (off+y*7)
      |3=>v=Vp bb (off+y*7)
      |4=>v=Vi (f y).u
      |5=>v=.slice (some ⟨bb,off,none⟩) n cap
      |6=>v=Vi (z:Int)
      |7=>v=Vp bb (off+z*7)
      |8=>v=Vp bb (off+z*7)
      |9=>v=Vi (f z).u
      |10=>v=.bool x0
      |11=>v=.bool x0
      |12=>v=cond x0 (.slice (some ⟨bb,off,none⟩) n cap) undef
      |13=>v=cond x0 (Vi (y:Int)) undef
      |14=>v=cond x0 (Vp bb (off+y*7)) undef
      |15=>v=cond x0 (Vp bb (off+y*7+1)) undef
      |16=>v=cond x0 (Vi (f y).s) undef
      |17=>v=cond x0 (.slice (some ⟨bb,off,none⟩) n cap) undef
      |18=>v=cond x0 (Vi (z:Int)) undef
      |19=>v=cond x0 (Vp bb (off+z*7)) undef
      |20=>v=cond x0 (Vp bb (off+z*7+1)) undef
      |21=>v=cond x0 (Vi (f z).s) undef
      |22=>v=cond x0 (.bool x1) undef
      |23=>v=cond x0 (.bool x1) (.bool false)
      |24=>v=cond x0 (.bool x1) (.bool false)
      |25=>v=cond x0 (cond x1 (.slice (some ⟨bb,off,none⟩) n cap) undef) undef
      |26=>v=cond x0 (cond x1 (Vi (y:Int)) undef) undef
      |27=>v=cond x0 (cond x1 (Vp bb (off+y*7)) undef) undef
      |28=>v=cond x0 (cond x1 (Vp bb (off+y*7+2)) undef) undef
      |29=>v=cond x0 (cond x1 (Vi (f y).lo) undef) undef
      |30=>v=cond x0 (cond x1 (.slice (some ⟨bb,off,none⟩) n cap) undef) undef
      |31=>v=cond x0 (cond x1 (Vi (z:Int)) undef) undef
      |32=>v=cond x0 (cond x1 (Vp bb (off+z*7)) undef) undef
      |33=>v=cond x0 (cond x1 (Vp bb (off+z*7+3)) undef) undef
      |34=>v=cond x0 (cond x1 (Vi (f z).hi) undef) undef
      |35=>v=cond x0 (cond x1 (.bool x2) undef) undef
      |36=>v=cond x0 (cond x1 (.bool x2) (.bool false)) (.bool false)
      |37=>v=cond x0 (cond x1 (.bool x2) (.bool false)) (.bool false)
      |38=>v=cond x0 (cond x1 (cond x2 (.slice (some ⟨bb,off,none⟩) n cap) undef) undef) undef
      |39=>v=cond x0 (cond x1 (cond x2 (Vi (z:Int)) undef) undef) undef
      |40=>v=cond x0 (cond x1 (cond x2 (Vp bb (off+z*7)) undef) undef) undef
      |41=>v=cond x0 (cond x1 (cond x2 (Vp bb (off+z*7+2)) undef) undef) undef
      |42=>v=cond x0 (cond x1 (cond x2 (Vi (f z).lo) undef) undef) undef
      |43=>v=cond x0 (cond x1 (cond x2 (.slice (some ⟨bb,off,none⟩) n cap) undef) undef) undef
      |44=>v=cond x0 (cond x1 (cond x2 (Vi (y:Int)) undef) undef) undef
      |45=>v=cond x0 (cond x1 (cond x2 (Vp bb (off+y*7)) undef) undef) undef
      |46=>v=cond x0 (cond x1 (cond x2 (Vp bb (off+y*7+3)) undef) undef) undef
      |47=>v=cond x0 (cond x1 (cond x2 (Vi (f y).hi) undef) undef) undef
      |48=>v=cond x0 (cond x1 (cond x2 (.bool x3) undef) undef) undef
      |49=>v=cond x0 (cond x1 (cond x2 (.bool x3) (.bool false)) (.bool false)) (.bool false)
      |_=>v=undef) (by kernel_rfl) (by kernel_rfl) (fun _ _ _ _ h _=>h) (by first|exact Br|exact Br.drew) ?_ ?_ _ _ rfl (by decide) (fun i=>by simp [Array.getD];try (split <;> rfl))
     ·intro vs u hR hall
      simp only [bI];have e49:vs 49=.bool x:=(hall 49 (by simp)).trans (by rw [<- HO.out.1];cases x0 <;> cases x1 <;> cases x2 <;> cases x3 <;> rfl);rw [e49];clear hall e49;have BX:=ak hbl hR;clear hR CE hbl HX;cases x
      ·go_simp
       go_wp2;go_roundw
       case rel=>exact ⟨y+1,by omega,by go_num,fun k hk=>(by by_cases e:k=y;(subst e;exact fun h=>(by simpa using HO.out.2.1 h));(exact HA.out k (by omega))),BX⟩
       case measure=>simp [intOf];omega
      have hno:b=false:=by cases b with|false=>rfl|true=>exact absurd (HO.out.2.2 rfl) ((HB.out.1 rfl).2.2 z hlt y hlt2)
      subst hno;go_simp;go_wp2;go_ret;exact ⟨rfl,BX⟩
     intro u i o ρ hR ho hρ hc hf hd
     have hi:i<50:=by
      have:=(Array.getElem?_eq_some_iff.1 ho).1;simpa using this
     obtain rfl|rfl|rfl|rfl|rfl|rfl|rfl|rfl|rfl|rfl|rfl|rfl|rfl|rfl|rfl|rfl|rfl|rfl|rfl|rfl|rfl|rfl|rfl|rfl|rfl|rfl|rfl|rfl|rfl|rfl|rfl|rfl|rfl|rfl|rfl|rfl|rfl|rfl|rfl|rfl|rfl|rfl|rfl|rfl|rfl|rfl|rfl|rfl|rfl|rfl:i=0\/i=1\/i=2\/i=3\/i=4\/i=5\/i=6\/i=7\/i=8\/i=9\/i=10\/i=11\/i=12\/i=13\/i=14\/i=15\/i=16\/i=17\/i=18\/i=19\/i=20\/i=21\/i=22\/i=23\/i=24\/i=25\/i=26\/i=27\/i=28\/i=29\/i=30\/i=31\/i=32\/i=33\/i=34\/i=35\/i=36\/i=37\/i=38\/i=39\/i=40\/i=41\/i=42\/i=43\/i=44\/i=45\/i=46\/i=47\/i=48\/i=49:=by omega
     all_goals (simp only [List.getElem?_toArray,List.getElem?_cons_zero,List.getElem?_cons_succ,Option.some.injEq] at ho;subst ho)
     ·exact yr rfl (hρ 0 (by kernel_rfl)) hR
     ·exact yr rfl (hρ 4 (by kernel_rfl)) hR
     ·exact yr (au rfl (dq hd 0 25) (dq hd 1 26) (by go_simp)) rfl hR
     ·exact yr (ao rfl (dq hd 2 27) (by go_simp)) rfl hR
     ·have y9:u.cell? ⟨bb,off+y*7,none⟩=some (Vi (f y).u):=(CE.out u hR).2 0 _ rfl
      exact yr (ah rfl (dq hd 3 28) (by go_simp)) rfl hR
     ·exact yr rfl (hρ 0 (by kernel_rfl)) hR
     ·exact yr rfl (hρ 3 (by kernel_rfl)) hR
     ·exact yr (au rfl (dq hd 5 30) (dq hd 6 31) (by go_simp)) rfl hR
     ·exact yr (ao rfl (dq hd 7 32) (by go_simp)) rfl hR
     ·have y9:u.cell? ⟨bb,off+z*7,none⟩=some (Vi (f z).u):=(CE.out u hR).1 0 _ rfl
      exact yr (ah rfl (dq hd 8 33) (by go_simp)) rfl hR
     ·have t0:=HX.out.1
      exact yr (aG rfl (dq hd 4 29) (dq hd 9 34) (by go_simp)) rfl hR
     ·exact yr rfl (dq hd 10 35) hR
     ·cases x0
      ·exact aj (.bool false) hd 11 36
      exact yq hd 11 36 rfl (hρ 0 (by kernel_rfl)) hR
     ·cases x0
      ·exact aj (.bool false) hd 11 36
      exact yq hd 11 36 rfl (hρ 4 (by kernel_rfl)) hR
     ·cases x0
      ·exact aj (.bool false) hd 11 36
      exact yq hd 11 36 (au rfl (dq hd 12 37) (dq hd 13 38) (by go_simp)) rfl hR
     ·cases x0
      ·exact aj (.bool false) hd 11 36
      exact yq hd 11 36 (ao rfl (dq hd 14 39) (by go_simp)) rfl hR
     ·cases x0
      ·exact aj (.bool false) hd 11 36
      have y9:=(CE.out u hR).2 1 _ rfl;exact yq hd 11 36 (ah rfl (dq hd 15 40) (by go_simp)) rfl hR
     ·cases x0
      ·exact aj (.bool false) hd 11 36
      exact yq hd 11 36 rfl (hρ 0 (by kernel_rfl)) hR
     ·cases x0
      ·exact aj (.bool false) hd 11 36
      exact yq hd 11 36 rfl (hρ 3 (by kernel_rfl)) hR
     ·cases x0
      ·exact aj (.bool false) hd 11 36
      exact yq hd 11 36 (au rfl (dq hd 17 42) (dq hd 18 43) (by go_simp)) rfl hR
     ·cases x0
      ·exact aj (.bool false) hd 11 36
      exact yq hd 11 36 (ao rfl (dq hd 19 44) (by go_simp)) rfl hR
     ·cases x0
      ·exact aj (.bool false) hd 11 36
      have y9:=(CE.out u hR).1 1 _ rfl;exact yq hd 11 36 (ah rfl (dq hd 20 45) (by go_simp)) rfl hR
     ·cases x0
      ·exact aj (.bool false) hd 11 36
      have t1:=HX.out.2.1;exact yq hd 11 36 (aG rfl (dq hd 16 41) (dq hd 21 46) (by go_simp)) rfl hR
     ·cases x0
      ·exact yr (aC rfl (dq hd 11 36)) (by simpa using hc _) hR
      exact yr (aC rfl (dq hd 11 36)) (by simpa using (dq hd 22 47)) hR
     ·exact yr rfl (dq hd 23 48) hR
     ·cases x0
      ·exact aj (.bool false) hd 24 49
      cases x1
      ·exact aj (.bool false) hd 24 49
      exact yq hd 24 49 rfl (hρ 0 (by kernel_rfl)) hR
     ·cases x0
      ·exact aj (.bool false) hd 24 49
      cases x1
      ·exact aj (.bool false) hd 24 49
      exact yq hd 24 49 rfl (hρ 4 (by kernel_rfl)) hR
     ·cases x0
      ·exact aj (.bool false) hd 24 49
      cases x1
      ·exact aj (.bool false) hd 24 49
      exact yq hd 24 49 (au rfl (dq hd 25 50) (dq hd 26 51) (by go_simp)) rfl hR
     ·cases x0
      ·exact aj (.bool false) hd 24 49
      cases x1
      ·exact aj (.bool false) hd 24 49
      exact yq hd 24 49 (ao rfl (dq hd 27 52) (by go_simp)) rfl hR
     ·cases x0
      ·exact aj (.bool false) hd 24 49
      cases x1
      ·exact aj (.bool false) hd 24 49
      have y9:=(CE.out u hR).2 2 _ rfl;exact yq hd 24 49 (ah rfl (dq hd 28 53) (by go_simp)) rfl hR
     ·cases x0
      ·exact aj (.bool false) hd 24 49
      cases x1
      ·exact aj (.bool false) hd 24 49
      exact yq hd 24 49 rfl (hρ 0 (by kernel_rfl)) hR
     ·cases x0
      ·exact aj (.bool false) hd 24 49
      cases x1
      ·exact aj (.bool false) hd 24 49
      exact yq hd 24 49 rfl (hρ 3 (by kernel_rfl)) hR
     ·cases x0
      ·exact aj (.bool false) hd 24 49
      cases x1
      ·exact aj (.bool false) hd 24 49
      exact yq hd 24 49 (au rfl (dq hd 30 55) (dq hd 31 56) (by go_simp)) rfl hR
     ·cases x0
      ·exact aj (.bool false) hd 24 49
      cases x1
      ·exact aj (.bool false) hd 24 49
      exact yq hd 24 49 (ao rfl (dq hd 32 57) (by go_simp)) rfl hR
     ·cases x0
      ·exact aj (.bool false) hd 24 49
      cases x1
      ·exact aj (.bool false) hd 24 49
      have y9:=(CE.out u hR).1 3 _ rfl;exact yq hd 24 49 (ah rfl (dq hd 33 58) (by go_simp)) rfl hR
     ·cases x0
      ·exact aj (.bool false) hd 24 49
      cases x1
      ·exact aj (.bool false) hd 24 49
      cases x2
      ·have t2:=of_decide_eq_false HX.out.2.2.1
       exact yq hd 24 49 (aG rfl (dq hd 29 54) (dq hd 34 59) (by go_simp)) rfl hR
      have t2:=of_decide_eq_true HX.out.2.2.1;exact yq hd 24 49 (aG rfl (dq hd 29 54) (dq hd 34 59) (by go_simp)) rfl hR
     ·cases x0
      ·exact yr (aC rfl (dq hd 24 49)) (by simpa using hc _) hR
      cases x1
      ·exact yr (aC rfl (dq hd 24 49)) (by simpa using hc _) hR
      exact yr (aC rfl (dq hd 24 49)) (by simpa using (dq hd 35 60)) hR
     ·exact yr rfl (dq hd 36 61) hR
     ·cases x0
      ·exact aj (.bool false) hd 37 62
      cases x1
      ·exact aj (.bool false) hd 37 62
      cases x2
      ·exact aj (.bool false) hd 37 62
      exact yq hd 37 62 rfl (hρ 0 (by kernel_rfl)) hR
     ·cases x0
      ·exact aj (.bool false) hd 37 62
      cases x1
      ·exact aj (.bool false) hd 37 62
      cases x2
      ·exact aj (.bool false) hd 37 62
      exact yq hd 37 62 rfl (hρ 3 (by kernel_rfl)) hR
     ·cases x0
      ·exact aj (.bool false) hd 37 62
      cases x1
      ·exact aj (.bool false) hd 37 62
      cases x2
      ·exact aj (.bool false) hd 37 62
      exact yq hd 37 62 (au rfl (dq hd 38 63) (dq hd 39 64) (by go_simp)) rfl hR
     ·cases x0
      ·exact aj (.bool false) hd 37 62
      cases x1
      ·exact aj (.bool false) hd 37 62
      cases x2
      ·exact aj (.bool false) hd 37 62
      exact yq hd 37 62 (ao rfl (dq hd 40 65) (by go_simp)) rfl hR
     ·cases x0
      ·exact aj (.bool false) hd 37 62
      cases x1
      ·exact aj (.bool false) hd 37 62
      cases x2
      ·exact aj (.bool false) hd 37 62
      have y9:=(CE.out u hR).1 2 _ rfl;exact yq hd 37 62 (ah rfl (dq hd 41 66) (by go_simp)) rfl hR
     ·cases x0
      ·exact aj (.bool false) hd 37 62
      cases x1
      ·exact aj (.bool false) hd 37 62
      cases x2
      ·exact aj (.bool false) hd 37 62
      exact yq hd 37 62 rfl (hρ 0 (by kernel_rfl)) hR
     ·cases x0
      ·exact aj (.bool false) hd 37 62
      cases x1
      ·exact aj (.bool false) hd 37 62
      cases x2
      ·exact aj (.bool false) hd 37 62
      exact yq hd 37 62 rfl (hρ 4 (by kernel_rfl)) hR
     ·cases x0
      ·exact aj (.bool false) hd 37 62
      cases x1
      ·exact aj (.bool false) hd 37 62
      cases x2
      ·exact aj (.bool false) hd 37 62
      exact yq hd 37 62 (au rfl (dq hd 43 68) (dq hd 44 69) (by go_simp)) rfl hR
     ·cases x0
      ·exact aj (.bool false) hd 37 62
      cases x1
      ·exact aj (.bool false) hd 37 62
      cases x2
      ·exact aj (.bool false) hd 37 62
      exact yq hd 37 62 (ao rfl (dq hd 45 70) (by go_simp)) rfl hR
     ·cases x0
      ·exact aj (.bool false) hd 37 62
      cases x1
      ·exact aj (.bool false) hd 37 62
      cases x2
      ·exact aj (.bool false) hd 37 62
      have y9:=(CE.out u hR).2 3 _ rfl;exact yq hd 37 62 (ah rfl (dq hd 46 71) (by go_simp)) rfl hR
     ·cases x0
      ·exact aj (.bool false) hd 37 62
      cases x1
      ·exact aj (.bool false) hd 37 62
      cases x2
      ·exact aj (.bool false) hd 37 62
      cases x3
      ·have t3:=of_decide_eq_false HX.out.2.2.2
       exact yq hd 37 62 (aG rfl (dq hd 42 67) (dq hd 47 72) (by go_simp)) rfl hR
      have t3:=of_decide_eq_true HX.out.2.2.2;exact yq hd 37 62 (aG rfl (dq hd 42 67) (dq hd 47 72) (by go_simp)) rfl hR
     cases x0
     ·exact yr (aC rfl (dq hd 37 62)) (by simpa using hc _) hR
     cases x1
     ·exact yr (aC rfl (dq hd 37 62)) (by simpa using hc _) hR
     cases x2
     ·exact yr (aC rfl (dq hd 37 62)) (by simpa using hc _) hR
     exact yr (aC rfl (dq hd 37 62)) (by simpa using (dq hd 48 73)) hR
   rw [decide_eq_false ho];have hno:b=false:=by cases b with|false=>rfl|true=>exact absurd ((HB.out.1 rfl).2.1 z hlt) ho
   subst hno;go_wp2;go_ret;exact ⟨rfl,B2⟩
  have hi:¬ (z:Int)<(n:Int):=by omega
  have hyes:b=true:=HB.out.2 ⟨by omega,fun k hk=>HZ.out.1 k (by omega),fun i hi k hk=>HZ.out.2 i (by omega) k hk⟩;subst hyes;clear hs;go_wp2;go_ret;exact ⟨rfl,hbl⟩
end Go.Proofs.YtohikbpolofklaaGreat
