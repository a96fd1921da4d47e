/- Texts that the proof needs, joined: SrQ Sr3 Sr4 Sr5. -/
import Derived.Test.YtohikbpolofklaaGreatY16
import Derived.Test.YtohikbpolofklaaGreatY17
set_option linter.unusedVariables false
set_option linter.unusedSimpArgs false
set_option maxHeartbeats 4000000
set_option maxRecDepth 20000
namespace Go.Proofs.YtohikbpolofklaaGreat
open Go.Proofs.Tryz
theorem aK.of{a b:Nat}{f:Nat->Ru}(σ τ:Nat->Nat)(h1:∀ k,(k<a\/b<= k)->σ k=k/\τ k=k)(h2:∀ k,a<= k->k<b->a<= σ k/\σ k<b/\a<= τ k/\τ k<b)(h3:∀ k,τ (σ k)=k/\σ (τ k)=k):aK a b f (fun k=>f (σ k)):=
 ⟨σ,τ,h1,h2,h3,fun _=>rfl⟩
def eX(a b m k:Nat):Nat:=if a<= k/\k<a+m then k-a+b else if b<= k/\k<b+m then k-b+a else k
theorem rZ(a b k:Nat):eX a b 0 k=k:=by unfold eX;rw [if_neg (by omega),if_neg (by omega)]
theorem sd{a b i:Nat}(h:a+i<b)(k:Nat):eX a b i (cS (a+i) (b+i) k)=eX a b (i+1) k:=by
 unfold eX cS;repeat' split
 all_goals omega
def bt(a m b k:Nat):Nat:=if a<= k/\k<a+(b-m) then k+(m-a) else if a+(b-m)<= k/\k<b then k-(b-m) else k
theorem vq{m i j:Nat}(h:j<i)(hi:i<= m)(hj:0<j)(k:Nat):eX (m-i) m j (bt (m-(i-j)) m (m+j) k)=bt (m-i) m (m+j) k:=by
 unfold eX bt;repeat' split
 all_goals omega
theorem vr{m i j:Nat}(h:i<j)(hi:i<= m)(h0:0<i)(k:Nat):eX (m-i) (m+j-i) i (bt (m-i) m (m+(j-i)) k)=bt (m-i) m (m+j) k:=by
 unfold eX bt;repeat' split
 all_goals omega
theorem vt{m i:Nat}(hi:i<= m)(k:Nat):eX (m-i) m i k=bt (m-i) m (m+i) k:=by
 unfold eX bt;repeat' split
 all_goals omega
theorem tV{a m b:Nat}(h1:a<= m)(h2:m<= b)(k:Nat):bt a (a+(b-m)) b (bt a m b k)=k/\bt a m b (bt a (a+(b-m)) b k)=k:=by
 unfold bt;constructor
 all_goals (repeat' split)
 all_goals omega
theorem aK.rot{a m b:Nat}(f:Nat->Ru)(h1:a<= m)(h2:m<= b):aK a b f (fun k=>f (bt a m b k)):=by
 refine aK.of (bt a m b) (bt a (a+(b-m)) b) (fun k hk=>?_) (fun k ha hb=>?_) (tV h1 h2)
 ·unfold bt
  constructor
  all_goals (repeat' split)
  all_goals omega
 unfold bt;refine ⟨?_,?_,?_,?_⟩
 all_goals (repeat' split)
 all_goals omega
def cD(a i k:Nat):Nat:=if a<= k/\k+1<i then k+1 else if k+1=i/\a<= k then a else k
def dm(i e k:Nat):Nat:=if i<k/\k<e then k-1 else if k=i/\i<e then e-1 else k
theorem qJ(a k:Nat):cD a (a+1) k=k:=by
 unfold cD;repeat' split
 all_goals omega
theorem sg{a k:Nat}(h:a<= k)(x:Nat):cD a (k+1) (cS k (k+1) x)=cD a (k+1+1) x:=by
 unfold cD cS;repeat' split
 all_goals omega
theorem qK(m k:Nat):dm m (m+1) k=k:=by
 unfold dm;repeat' split
 all_goals omega
theorem si{k m:Nat}(h:0<k)(hm:k<= m)(x:Nat):dm k (m+1) (cS k (k-1) x)=dm (k-1) (m+1) x:=by
 unfold dm cS;repeat' split
 all_goals omega
theorem mQ{a i:Nat}(h:a<i)(k:Nat):dm a i (cD a i k)=k/\cD a i (dm a i k)=k:=by
 unfold cD dm;constructor
 all_goals (repeat' split)
 all_goals omega
theorem aK.up{a i b:Nat}(f:Nat->Ru)(h:a<i)(hi:i<= b):aK a b f (fun k=>f (cD a i k)):=by
 refine aK.of (cD a i) (dm a i) (fun k hk=>?_) (fun k ha hb=>?_) (mQ h)
 ·unfold cD dm
  constructor
  all_goals (repeat' split)
  all_goals omega
 unfold cD dm;refine ⟨?_,?_,?_,?_⟩
 all_goals (repeat' split)
 all_goals omega
theorem aK.down{a i e b:Nat}(f:Nat->Ru)(h:i<e)(ha:a<= i)(hi:e<= b):aK a b f (fun k=>f (dm i e k)):=by
 refine aK.mono ?_ ha hi;refine aK.of (dm i e) (cD i e) (fun k hk=>?_) (fun k ha hb=>?_) (fun k=>⟨(mQ h k).2,(mQ h k).1⟩)
 ·unfold cD dm
  constructor
  all_goals (repeat' split)
  all_goals omega
 unfold cD dm;refine ⟨?_,?_,?_,?_⟩
 all_goals (repeat' split)
 all_goals omega
theorem qM{f:Nat->Ru}{a b i:Nat}(hs:aE f (a+1) b)(h1:a+1<= i)(h2:i<= b)(hl:i=a+1\/cy (f (i-1)) (f a))(hr:i=b\/¬ cy (f i) (f a)):aE (fun k=>f (cD a i k)) a b:=by
 intro x y hx hxy hy;show cK (f (cD a i x)) (f (cD a i y));by_cases x1:x+1<i
 ·have ex:cD a i x=x+1:=by unfold cD;rw [if_pos (by omega)]
  rw [ex];by_cases y1:y+1<i
  ·have ey:cD a i y=y+1:=by unfold cD;rw [if_pos (by omega)]
   rw [ey];exact hs.le (by omega) (by omega) (by omega)
  by_cases y2:y+1=i
  ·have ey:cD a i y=a:=by unfold cD;rw [if_neg (by omega),if_pos (by omega)]
   rw [ey];rcases hl with hl|hl
   ·omega
   exact (hs.le (by omega) (show x+1<= i-1 by omega) (by omega)).trans hl.le
  have ey:cD a i y=y:=by unfold cD;rw [if_neg (by omega),if_neg (by omega)]
  rw [ey];exact hs.le (by omega) (by omega) (by omega)
 by_cases x2:x+1=i
 ·have ex:cD a i x=a:=by unfold cD;rw [if_neg (by omega),if_pos (by omega)]
  have ey:cD a i y=y:=by unfold cD;rw [if_neg (by omega),if_neg (by omega)]
  rw [ex,ey];rcases hr with hr|hr
  ·omega
  have e1:cK (f a) (f i):=hr;exact e1.trans (hs.le (by omega) (by omega) (by omega))
 have ex:cD a i x=x:=by unfold cD;rw [if_neg (by omega),if_neg (by omega)]
 have ey:cD a i y=y:=by unfold cD;rw [if_neg (by omega),if_neg (by omega)]
 rw [ex,ey];exact hs.le (by omega) (by omega) (by omega)
theorem ot{f:Nat->Ru}{a m i:Nat}(hs:aE f a m)(h1:a<= i)(h2:i<= m)(hl:i=a\/¬ cy (f m) (f (i-1)))(hr:i=m\/cy (f m) (f i)):aE (fun k=>f (dm i (m+1) k)) a (m+1):=by
 intro x y hx hxy hy;show cK (f (dm i (m+1) x)) (f (dm i (m+1) y));have lo:∀ z,z<i->dm i (m+1) z=z:=fun z hz=>by unfold dm;rw [if_neg (by omega),if_neg (by omega)]
 have at':dm i (m+1) i=m:=by unfold dm;rw [if_neg (by omega),if_pos (by omega)];omega
 have hi':∀ z,i<z->z<m+1->dm i (m+1) z=z-1:=fun z h1 h2=>by unfold dm;rw [if_pos (by omega)]
 by_cases y1:y<i
 ·rw [lo x (by omega),lo y y1]
  exact hs.le hx (by omega) (by omega)
 by_cases y2:y=i
 ·subst y2
  rw [lo x hxy,at'];rcases hl with hl|hl
  ·omega
  have e1:cK (f (y-1)) (f m):=hl;exact (hs.le hx (by omega) (by omega)).trans e1
 rw [hi' y (by omega) hy];by_cases x1:x<i
 ·rw [lo x x1]
  exact hs.le hx (by omega) (by omega)
 by_cases x2:x=i
 ·subst x2
  rw [at'];rcases hr with hr|hr
  ·omega
  exact hr.le.trans (hs.le (by omega) (by omega) (by omega))
 rw [hi' x (by omega) (by omega)];exact hs.le (by omega) (by omega) (by omega)
structure Cutd(f:Nat->Ru)(a m b mid s:Nat):Prop where
 hm:mid=(a+b) / 2
 am:a<= m
 mb:m<= b
 ab:a<b
 lo:(mid<m->mid+m-b<= s/\s<= mid)/\(m<= mid->a<= s/\s<= m)
 p1:(mid<m/\s=mid+m-b)\/(m<= mid/\s=a)\/cK (f (s-1)) (f (mid+m-s))
 p2:(mid<m/\s=mid)\/(m<= mid/\s=m)\/cy (f (mid+m-s-1)) (f s)
theorem Cutd.in'{f:Nat->Ru}{a m b mid s:Nat}(h:Cutd f a m b mid s):a<= s/\s<= m/\m<= mid+m-s/\mid+m-s<= b/\s<= mid/\mid<= mid+m-s/\a<= mid/\mid<b/\s<= mid+m:=by
 obtain ⟨h1,h2,h3,h4,h5,_,_⟩:=h;omega
theorem Cutd.cross{f:Nat->Ru}{a m b mid s:Nat}(h:Cutd f a m b mid s)(sl:aE f a m)(sr:aE f m b){x y:Nat}(hx:a<= x)(hx':x<mid)(hy:mid<= y)(hy':y<b):
 cK (f (bt s m (mid+m-s) x)) (f (bt s m (mid+m-s) y)):=by
 obtain ⟨i1,i2,i3,i4,i5,i6,i7,i8,i9⟩:=h.in';have h1:=h.hm;have h4:=h.ab;have lo:=h.lo;by_cases x1:x<s
 ·have ex:bt s m (mid+m-s) x=x:=by unfold bt;rw [if_neg (by omega),if_neg (by omega)]
  rw [ex];by_cases y1:y<mid+m-s
  ·have ey:bt s m (mid+m-s) y=y-(mid+m-s-m):=by unfold bt;rw [if_neg (by omega),if_pos (by omega)]
   rw [ey];exact sl.le hx (by omega) (by omega)
  have ey:bt s m (mid+m-s) y=y:=by unfold bt;rw [if_neg (by omega),if_neg (by omega)]
  rw [ey];rcases h.p1 with p|p|p
  ·omega
  ·omega
  exact ((sl.le hx (show x<= s-1 by omega) (by omega)).trans p).trans (sr.le (by omega) (by omega) hy')
 have ex:bt s m (mid+m-s) x=x+(m-s):=by unfold bt;rw [if_pos (by omega)]
 rw [ex];by_cases y1:y<mid+m-s
 ·have ey:bt s m (mid+m-s) y=y-(mid+m-s-m):=by unfold bt;rw [if_neg (by omega),if_pos (by omega)]
  rw [ey];rcases h.p2 with p|p|p
  ·omega
  ·omega
  exact ((sr.le (by omega) (show x+(m-s)<= mid+m-s-1 by omega) (by omega)).trans p.le).trans (sl.le (by omega) (by omega) (by omega))
 have ey:bt s m (mid+m-s) y=y:=by unfold bt;rw [if_neg (by omega),if_neg (by omega)]
 rw [ey];exact sr.le (by omega) (by omega) hy'
theorem Cutd.runs{f:Nat->Ru}{a m b mid s:Nat}(h:Cutd f a m b mid s)(sl:aE f a m)(sr:aE f m b):
 aE (fun k=>f (bt s m (mid+m-s) k)) a s/\aE (fun k=>f (bt s m (mid+m-s) k)) s mid/\aE (fun k=>f (bt s m (mid+m-s) k)) mid (mid+m-s)/\aE (fun k=>f (bt s m (mid+m-s) k)) (mid+m-s) b:=by
 obtain ⟨i1,i2,i3,i4,i5,i6,i7,i8,i9⟩:=h.in';have e1:∀ k,k<s->bt s m (mid+m-s) k=k:=fun k hk=>by unfold bt;rw [if_neg (by omega),if_neg (by omega)]
 have e2:∀ k,s<= k->k<mid->bt s m (mid+m-s) k=k+(m-s):=fun k h1 h2=>by unfold bt;rw [if_pos (by omega)]
 have e3:∀ k,mid<= k->k<mid+m-s->bt s m (mid+m-s) k=k-(mid+m-s-m):=fun k h1 h2=>by unfold bt;rw [if_neg (by omega),if_pos (by omega)]
 have e4:∀ k,mid+m-s<= k->bt s m (mid+m-s) k=k:=fun k h1=>by unfold bt;rw [if_neg (by omega),if_neg (by omega)]
 refine ⟨fun x y hx hxy hy=>?_,fun x y hx hxy hy=>?_,fun x y hx hxy hy=>?_,fun x y hx hxy hy=>?_⟩
 ·show cK (f (bt _ _ _ x)) (f (bt _ _ _ y));rw [e1 x (by omega),e1 y hy];exact sl.le hx (by omega) (by omega)
 ·show cK (f (bt _ _ _ x)) (f (bt _ _ _ y));rw [e2 x hx (by omega),e2 y (by omega) hy];exact sr.le (by omega) (by omega) (by omega)
 ·show cK (f (bt _ _ _ x)) (f (bt _ _ _ y));rw [e3 x hx (by omega),e3 y (by omega) hy];exact sl.le (by omega) (by omega) (by omega)
 show cK (f (bt _ _ _ x)) (f (bt _ _ _ y));rw [e4 x hx,e4 y (by omega)];exact sr.le (by omega) (by omega) (by omega)
theorem iP{g g1 g2:Nat->Ru}{a mid b:Nat}(h1:a<= mid)(h2:mid<= b)(hc:∀ x y,a<= x->x<mid->mid<= y->y<b->cK (g x) (g y))(p1:aK a mid g g1)(s1:aE g1 a mid)(p2:aK mid b g1 g2)(s2:aE g2 mid b):aE g2 a b:=by
 intro x y hx hxy hy;by_cases y1:y<mid
 ·rw [p2.out (.inl (by omega)),p2.out (.inl y1)]
  exact s1 x y hx hxy y1
 by_cases x1:mid<= x
 ·exact s2 x y x1 hxy hy
 rw [p2.out (.inl (by omega))];obtain ⟨j,j1,j2,ej⟩:=p2.from' (k:=y) (by omega) hy;obtain ⟨i,i1,i2,ei⟩:=p1.from' (k:=x) hx (by omega);rw [ej,ei,p1.out (.inr j1)];exact hc i j i1 i2 j1 j2
end Go.Proofs.YtohikbpolofklaaGreat
namespace Go.Proofs.YtohikbpolofklaaGreat
open Go.RowKit Go.Proofs.Tryz
theorem aA.ext{w:World}{g n:Nat}{f f':Nat->Ru}(h:aA w g n f)(e:∀ k,f k=f' k):aA w g n f':=aM.congr h (fun k _=>by rw [e k])
theorem gc(g n c a b m:Nat)(f:Nat->Ru)(w0 w:World)(hb:Below w0.heap.size w0 w)(hg:w0.heap.size<= g)(hr:aA w g n f)(hab:a+m<= b)(hbn:b+m<= n)(hn:n<= 1000000):
 Calls prog 204 #[.slice (some ⟨g,0,none⟩) n c,Vi (a:Int),Vi (b:Int),Vi (m:Int),.func (.func 109) #[] #[]] w fun e w'=>e=.returned (.tuple #[])/\aA w' g n (fun k=>f (eX a b m k))/\Below w0.heap.size w0 w':=by
 go_enter func204,ntmps204
 go_wp2;go_loopw [10] (fun i wr=>∃ (k:Nat),k<= m/\i=Vi k/\aA wr g n (fun x=>f (eX a b k x))/\Below w0.heap.size w0 wr) (fun i _=>m-(intOf i).toNat)
 case atStart=>exact ⟨0,by omega,rfl,aA.ext hr (fun k=>by rw [rZ]),hb⟩
 case round=>
  obtain ⟨z,hz,rfl,hrow,hbl⟩:=hrel;obtain ⟨h,hh⟩:∃ h:Nat->Ru,h=fun x=>f (eX a b z x):=⟨_,rfl⟩
  rw [<- hh] at hrow;have HH:Hid (h=fun x=>f (eX a b z x)):=hh;have HROW:Hid (aA wr g n h/\Below w0.heap.size w0 wr):=⟨hrow,hbl⟩
  clear hrow hbl hh hr hb;by_cases hlt:z<m
  ·have hi':(z:Int)<(m:Int):=by omega
   obtain ⟨p,hp⟩:∃ p,p=a+z:=⟨_,rfl⟩
   obtain ⟨q,hq⟩:∃ q,q=b+z:=⟨_,rfl⟩
   have wp':IntKind.i64.wrap ((a:Int)+(z:Int))=(p:Int):=by rw [IntKind.wrap_i64];omega
   have wq':IntKind.i64.wrap ((b:Int)+(z:Int))=(q:Int):=by rw [IntKind.wrap_i64];omega
   have hpn:(p:Int)<(n:Int):=by omega
   have hqn:(q:Int)<(n:Int):=by omega
   have hIJ:¬ p=q:=by omega
   have hJI:¬ q=p:=by omega
   have HP:Hid (p=a+z/\q=b+z):=⟨hp,hq⟩
   have hpn2:p<n:=by omega
   have hqn2:q<n:=by omega
   clear hp hq;go_wp2;refine wp_region_any (by kernel_rfl) ?_
   refine gm (fun l u=>aA u g n (fun k=>if l 21=true/\k=p then h q else if l 23=true/\k=q then h p else h k)/\Below w0.heap.size w0 u) (fun _ _=>True) (fun i v u=>match i with
    |0=>v=.slice (some ⟨g,0,none⟩) n c
    |1=>v=Vi (a:Int)
    |2=>v=Vi (z:Int)
    |3=>v=Vi (p:Int)
    |4=>v=.slice (some ⟨g,0,none⟩) n c
    |5=>v=Vi (b:Int)
    |6=>v=Vi (z:Int)
    |7=>v=Vi (q:Int)
    |8=>v=.slice (some ⟨g,0,none⟩) n c
    |9=>v=Vi (b:Int)
    |10=>v=Vi (z:Int)
    |11=>v=Vi (q:Int)
    |12=>v=Vp g (q*7)
    |13=>v=.agg (bg (h q))
    |14=>v=.slice (some ⟨g,0,none⟩) n c
    |15=>v=Vi (a:Int)
    |16=>v=Vi (z:Int)
    |17=>v=Vi (p:Int)
    |18=>v=Vp g (p*7)
    |19=>v=.agg (bg (h p))
    |20=>v=Vp g (p*7)
    |22=>v=Vp g (q*7)
    |_=>True) (by kernel_rfl) (by kernel_rfl) (fun _ _ _ _ h _=>h) (fun _=>trivial) ⟨aM.congr (aM.below HROW.out.1 Br.drew) (fun k _=>by simp),HROW.out.2.drew⟩ ?_ ?_ _ _ rfl (by decide) (fun i=>by simp [Array.getD];try (split <;> rfl))
   ·intro vs u hR _
    have R1:aA u g n (fun k=>h (cS p q k)):=hR.1.congr (fun k _=>congrArg cG (by by_cases e1:k=p <;> by_cases e2:k=q <;> simp [cS,e1,e2,hJI,hIJ]));have R2:aA u g n (fun k=>f (eX a b (z+1) k)):=aA.ext R1 (fun k=>by rw [<- sd (show a+z<b by omega),<- HP.out.1,<- HP.out.2,HH.out]);have HX:Hid (aA u g n (fun k=>f (eX a b (z+1) k))/\Below w0.heap.size w0 u):=⟨R2,hR.2⟩
    clear R1 R2 hR HROW HH;simp only [bI];go_simp;go_wp2;go_roundw
    case rel=>exact ⟨z+1,by omega,by go_num,HX.out.1,HX.out.2⟩
    case measure=>simp [intOf];omega
   intro u i o ρ l hR ho hli hcl hρ hc hf hd hv
   have hi:i<24:=by
    have:=(Array.getElem?_eq_some_iff.1 ho).1;simpa using this
   obtain rfl|rfl|rfl|rfl|rfl|rfl|rfl|rfl|rfl|rfl|rfl|rfl|rfl|rfl|rfl|rfl|rfl|rfl|rfl|rfl|rfl|rfl|rfl|rfl:i=0\/i=1\/i=2\/i=3\/i=4\/i=5\/i=6\/i=7\/i=8\/i=9\/i=10\/i=11\/i=12\/i=13\/i=14\/i=15\/i=16\/i=17\/i=18\/i=19\/i=20\/i=21\/i=22\/i=23:=by omega
   all_goals (simp only [List.getElem?_toArray,List.getElem?_cons_zero,List.getElem?_cons_succ,Option.some.injEq] at ho;subst ho)
   ·exact yr rfl (hρ 0 (by kernel_rfl)) (by simpa [aW] using hR) trivial
   ·exact yr rfl (hρ 1 (by kernel_rfl)) (by simpa [aW] using hR) trivial
   ·exact yr rfl (hρ 10 (by kernel_rfl)) (by simpa [aW] using hR) trivial
   ·have h1:ρ (.tmp 17)=Vi (a:Int):=hv 1 17 rfl (hd ⟨1,.data⟩ (by simp) rfl)
    have h2:ρ (.tmp 18)=Vi (z:Int):=hv 2 18 rfl (hd ⟨2,.data⟩ (by simp) rfl);exact yr (aG rfl h1 h2 (by go_simp)) rfl (by simpa [aW] using hR) trivial
   ·exact yr rfl (hρ 0 (by kernel_rfl)) (by simpa [aW] using hR) trivial
   ·exact yr rfl (hρ 2 (by kernel_rfl)) (by simpa [aW] using hR) trivial
   ·exact yr rfl (hρ 10 (by kernel_rfl)) (by simpa [aW] using hR) trivial
   ·have h5:ρ (.tmp 21)=Vi (b:Int):=hv 5 21 rfl (hd ⟨5,.data⟩ (by simp) rfl)
    have h6:ρ (.tmp 22)=Vi (z:Int):=hv 6 22 rfl (hd ⟨6,.data⟩ (by simp) rfl);exact yr (aG rfl h5 h6 (by go_simp)) rfl (by simpa [aW] using hR) trivial
   ·exact yr rfl (hρ 0 (by kernel_rfl)) (by simpa [aW] using hR) trivial
   ·exact yr rfl (hρ 2 (by kernel_rfl)) (by simpa [aW] using hR) trivial
   ·exact yr rfl (hρ 10 (by kernel_rfl)) (by simpa [aW] using hR) trivial
   ·have h9:ρ (.tmp 25)=Vi (b:Int):=hv 9 25 rfl (hd ⟨9,.data⟩ (by simp) rfl)
    have h10:ρ (.tmp 26)=Vi (z:Int):=hv 10 26 rfl (hd ⟨10,.data⟩ (by simp) rfl);exact yr (aG rfl h9 h10 (by go_simp)) rfl (by simpa [aW] using hR) trivial
   ·have h8:ρ (.tmp 24)=.slice (some ⟨g,0,none⟩) n c:=hv 8 24 rfl (hd ⟨8,.data⟩ (by simp) rfl)
    have h11:ρ (.tmp 27)=Vi (q:Int):=hv 11 27 rfl (hd ⟨11,.data⟩ (by simp) rfl);exact yr (au rfl h8 h11 (by go_simp)) rfl (by simpa [aW] using hR) trivial
   ·have n1:l 21=false:=(by cases hx:l 21;(rfl);(have h1:=hcl 21 _ rfl hx ⟨13,.data⟩ (by simp) rfl;rw [hli] at h1;cases h1))
    have n2:l 23=false:=(by cases hx:l 23;(rfl);(have h1:=hcl 23 _ rfl hx ⟨13,.phase⟩ (by simp) rfl;rw [hli] at h1;cases h1))
    have R0:aA u g n h:=hR.1.congr (fun k _=>by simp [n1,n2]);obtain ⟨d0,d1,d2,d3,d4,d5,d6⟩:=aA.seven R0 (show q<n from by omega);clear R0;have h12:ρ (.tmp 28)=Vp g (q*7):=hv 12 28 rfl (hd ⟨12,.data⟩ (by simp) rfl);exact yr (ah rfl h12 (by go_simp)) rfl (by simpa [aW] using hR) trivial
   ·exact yr rfl (hρ 0 (by kernel_rfl)) (by simpa [aW] using hR) trivial
   ·exact yr rfl (hρ 1 (by kernel_rfl)) (by simpa [aW] using hR) trivial
   ·exact yr rfl (hρ 10 (by kernel_rfl)) (by simpa [aW] using hR) trivial
   ·have h15:ρ (.tmp 31)=Vi (a:Int):=hv 15 31 rfl (hd ⟨15,.data⟩ (by simp) rfl)
    have h16:ρ (.tmp 32)=Vi (z:Int):=hv 16 32 rfl (hd ⟨16,.data⟩ (by simp) rfl);exact yr (aG rfl h15 h16 (by go_simp)) rfl (by simpa [aW] using hR) trivial
   ·have h14:ρ (.tmp 30)=.slice (some ⟨g,0,none⟩) n c:=hv 14 30 rfl (hd ⟨14,.data⟩ (by simp) rfl)
    have h17:ρ (.tmp 33)=Vi (p:Int):=hv 17 33 rfl (hd ⟨17,.data⟩ (by simp) rfl);exact yr (au rfl h14 h17 (by go_simp)) rfl (by simpa [aW] using hR) trivial
   ·have n1:l 21=false:=(by cases hx:l 21;(rfl);(have h1:=hcl 21 _ rfl hx ⟨19,.phase⟩ (by simp) rfl;rw [hli] at h1;cases h1))
    have n2:l 23=false:=(by cases hx:l 23;(rfl);(have h1:=hcl 23 _ rfl hx ⟨19,.data⟩ (by simp) rfl;rw [hli] at h1;cases h1))
    have R0:aA u g n h:=hR.1.congr (fun k _=>by simp [n1,n2]);obtain ⟨d0,d1,d2,d3,d4,d5,d6⟩:=aA.seven R0 (show p<n from by omega);clear R0;have h18:ρ (.tmp 34)=Vp g (p*7):=hv 18 34 rfl (hd ⟨18,.data⟩ (by simp) rfl);exact yr (ah rfl h18 (by go_simp)) rfl (by simpa [aW] using hR) trivial
   ·have h0:ρ (.tmp 16)=.slice (some ⟨g,0,none⟩) n c:=hv 0 16 rfl (hd ⟨0,.data⟩ (by simp) rfl)
    have h3:ρ (.tmp 19)=Vi (p:Int):=hv 3 19 rfl (hd ⟨3,.data⟩ (by simp) rfl);exact yr (au rfl h0 h3 (by go_simp)) rfl (by simpa [aW] using hR) trivial
   ·obtain ⟨d0,d1,d2,d3,d4,d5,d6⟩:=aA.seven hR.1 (show p<n from by omega)
    have f0:=aM.fro hR.1 (p*7);have f1:=aM.fro hR.1 (p*7+1);have f2:=aM.fro hR.1 (p*7+2);have f3:=aM.fro hR.1 (p*7+3);have f4:=aM.fro hR.1 (p*7+4);have f5:=aM.fro hR.1 (p*7+5);have f6:=aM.fro hR.1 (p*7+6);have h20:ρ (.tmp 36)=Vp g (p*7):=hv 20 36 rfl (hd ⟨20,.data⟩ (by simp) rfl);have h13:ρ (.tmp 29)=.agg (bg (h q)):=hv 13 29 rfl (hd ⟨13,.data⟩ (by simp) rfl);have hr:(Instr.storeAt 61 (Vp g (p*7)) (.agg (bg (h q)))).run prog u=.ok () ((((((((u).setCell ⟨g,p*7,none⟩ (Vi (h q).u)).setCell ⟨g,p*7+1,none⟩ (Vi (h q).s)).setCell ⟨g,p*7+2,none⟩ (Vi (h q).lo)).setCell ⟨g,p*7+3,none⟩ (Vi (h q).hi)).setCell ⟨g,p*7+4,none⟩ (Vi (h q).p)).setCell ⟨g,p*7+5,none⟩ (Vi (h q).t)).setCell ⟨g,p*7+6,none⟩ (Vi (h q).sh)):=by go_simp
    have hR2:=aM.set hR.1 (show p<n from by omega) (cG (h q)) rfl;have hB2:=aD (g:=g) hg (cG (h q)) u (p*7) hR.2;exact .inl ⟨rfl,.inr (.inr ⟨rfl,_,bY rfl h20 h13 hr,⟨hR2.congr (fun k _=>by by_cases e:k=p <;> simp [aW,e,hIJ,hJI]),hB2⟩,trivial⟩)⟩
   ·have h4:ρ (.tmp 20)=.slice (some ⟨g,0,none⟩) n c:=hv 4 20 rfl (hd ⟨4,.data⟩ (by simp) rfl)
    have h7:ρ (.tmp 23)=Vi (q:Int):=hv 7 23 rfl (hd ⟨7,.data⟩ (by simp) rfl);exact yr (au rfl h4 h7 (by go_simp)) rfl (by simpa [aW] using hR) trivial
   obtain ⟨d0,d1,d2,d3,d4,d5,d6⟩:=aA.seven hR.1 (show q<n from by omega);have f0:=aM.fro hR.1 (q*7);have f1:=aM.fro hR.1 (q*7+1);have f2:=aM.fro hR.1 (q*7+2);have f3:=aM.fro hR.1 (q*7+3);have f4:=aM.fro hR.1 (q*7+4);have f5:=aM.fro hR.1 (q*7+5);have f6:=aM.fro hR.1 (q*7+6);have h22:ρ (.tmp 37)=Vp g (q*7):=hv 22 37 rfl (hd ⟨22,.data⟩ (by simp) rfl);have h19:ρ (.tmp 35)=.agg (bg (h p)):=hv 19 35 rfl (hd ⟨19,.data⟩ (by simp) rfl);have hr:(Instr.storeAt 61 (Vp g (q*7)) (.agg (bg (h p)))).run prog u=.ok () ((((((((u).setCell ⟨g,q*7,none⟩ (Vi (h p).u)).setCell ⟨g,q*7+1,none⟩ (Vi (h p).s)).setCell ⟨g,q*7+2,none⟩ (Vi (h p).lo)).setCell ⟨g,q*7+3,none⟩ (Vi (h p).hi)).setCell ⟨g,q*7+4,none⟩ (Vi (h p).p)).setCell ⟨g,q*7+5,none⟩ (Vi (h p).t)).setCell ⟨g,q*7+6,none⟩ (Vi (h p).sh)):=by go_simp
   have hR2:=aM.set hR.1 (show q<n from by omega) (cG (h p)) rfl;have hB2:=aD (g:=g) hg (cG (h p)) u (q*7) hR.2;exact .inl ⟨rfl,.inr (.inr ⟨rfl,_,bY rfl h22 h19 hr,⟨hR2.congr (fun k _=>by by_cases e:k=q <;> simp [aW,e,hIJ,hJI]),hB2⟩,trivial⟩)⟩
  have hi':¬ (z:Int)<(m:Int):=by omega
  have HX:Hid (aA wr g n (fun k=>f (eX a b m k))/\Below w0.heap.size w0 wr):=⟨by have e:=HH.out;subst e;rw [show m=z by omega];exact HROW.out.1,HROW.out.2⟩
  clear HROW HH;go_wp2;refine bodyPost_end (v:=.tuple #[]) (by simp [results,results204,go_sem]) rfl ⟨rfl,HX.out⟩
theorem kn(g n c a m b:Nat)(f:Nat->Ru)(w0 w:World)(hb:Below w0.heap.size w0 w)(hg:w0.heap.size<= g)(hr:aA w g n f)(h1:a<m)(h2:m<b)(hbn:b<= n)(hn:n<= 1000000):
 Calls prog 199 #[.slice (some ⟨g,0,none⟩) n c,Vi (a:Int),Vi (m:Int),Vi (b:Int),.func (.func 109) #[] #[]] w fun e w'=>e=.returned (.tuple #[])/\aA w' g n (fun k=>f (bt a m b k))/\Below w0.heap.size w0 w':=by
 obtain ⟨d,hd⟩:∃ d,d=m-a:=⟨_,rfl⟩
 obtain ⟨d',hd'⟩:∃ d',d'=b-m:=⟨_,rfl⟩
 have wi:IntKind.i64.wrap ((m:Int)-(a:Int))=(d:Int):=by rw [IntKind.wrap_i64];omega
 have wj:IntKind.i64.wrap ((b:Int)-(m:Int))=(d':Int):=by rw [IntKind.wrap_i64];omega
 have HD:Hid (d=m-a/\d'=b-m):=⟨hd,hd'⟩
 clear hd hd';go_enter func199,ntmps199
 go_wp2;go_loopw [10,11] (fun i j wr=>∃ (p q:Nat) (h:Nat->Ru),0<p/\0<q/\p<= m-a/\m+q<= b/\i=Vi p/\j=Vi q/\aA wr g n h/\(∀ k,h (bt (m-p) m (m+q) k)=f (bt a m b k))/\Below w0.heap.size w0 wr) (fun i j _=>(intOf i).toNat+(intOf j).toNat)
 case atStart=>
  obtain ⟨e1,e2⟩:=HD.out;exact ⟨d,d',f,by omega,by omega,by omega,by omega,by first|rfl|simp,by first|rfl|simp,hr,fun k=>by rw [show m-d=a by omega,show m+d'=b by omega],hb⟩
 case round=>
  obtain ⟨p,q,h,hp,hq,hpa,hqb,rfl,rfl,hrow,hx,hbl⟩:=hrel;have HROW:Hid (aA wr g n h/\(∀ k,h (bt (m-p) m (m+q) k)=f (bt a m b k))/\Below w0.heap.size w0 wr):=⟨hrow,hx,hbl⟩
  have HQ:Hid (p<= m-a/\m+q<= b):=⟨hpa,hqb⟩
  obtain ⟨x,hx1⟩:∃ x,x=m-p:=⟨_,rfl⟩
  have ws1:IntKind.i64.wrap ((m:Int)-(p:Int))=(x:Int):=by rw [IntKind.wrap_i64];omega
  have HX1:Hid (x=m-p):=hx1;clear hrow hx hbl hr hb wi wj HD hx1;by_cases he:p=q
  ·subst he
   have e1:((p:Int) == (p:Int))=true:=by simp
   clear hpa hqb;go_wp2_with fail
   refine (gc g n c x m p h w0 _ HROW.out.2.2 hg HROW.out.1 (by have:=HX1.out;have:=HQ.out;omega) (by have:=HX1.out;have:=HQ.out;omega) hn).mono ?_;rintro e w1 ⟨rfl,R1,B1⟩;have HX:Hid (aA w1 g n (fun k=>f (bt a m b k))/\Below w0.heap.size w0 w1):=⟨aA.ext R1 (fun k=>by rw [HX1.out,vt (by have:=HQ.out;omega)];exact HROW.out.2.1 k),B1⟩
   clear HROW R1 B1;go_wp2;refine bodyPost_end (v:=.tuple #[]) (by simp [results,results199,go_sem]) rfl ⟨rfl,HX.out⟩
  have e2:¬ (p:Int)=(q:Int):=by omega
  by_cases hgt:q<p
  ·have e3:(q:Int)<(p:Int):=by omega
   obtain ⟨y,hy⟩:∃ y,y=p-q:=⟨_,rfl⟩
   have ws2:IntKind.i64.wrap ((p:Int)-(q:Int))=(y:Int):=by rw [IntKind.wrap_i64];omega
   have HY:Hid (y=p-q):=hy;clear hy hpa hqb;go_wp2_with fail
   refine (gc g n c x m q h w0 _ HROW.out.2.2 hg HROW.out.1 (by have:=HX1.out;have:=HQ.out;omega) (by have:=HX1.out;have:=HQ.out;omega) hn).mono ?_;rintro e w1 ⟨rfl,R1,B1⟩;have HX:Hid (aA w1 g n (fun k=>h (eX x m q k))/\(∀ k,h (eX x m q (bt (m-y) m (m+q) k))=f (bt a m b k))/\Below w0.heap.size w0 w1):=⟨R1,fun k=>by rw [HX1.out,HY.out,vq hgt (by have:=HQ.out;omega) hq];exact HROW.out.2.1 k,B1⟩
   clear HROW R1 B1;go_wp2;go_roundw
   case rel=>(have:=HY.out;have:=HQ.out;exact ⟨y,q,_,by omega,by omega,by omega,by omega,by first|rfl|go_num,rfl,HX.out.1,HX.out.2.1,HX.out.2.2⟩)
   case measure=>(have:=HY.out;simp [intOf];omega)
  have e3:¬ (q:Int)<(p:Int):=by omega
  obtain ⟨y,hy⟩:∃ y,y=q-p:=⟨_,rfl⟩
  obtain ⟨z,hz⟩:∃ z,z=m+q-p:=⟨_,rfl⟩
  have ws2:IntKind.i64.wrap ((q:Int)-(p:Int))=(y:Int):=by rw [IntKind.wrap_i64];omega
  have ws3:IntKind.i64.wrap ((m:Int)+(q:Int))=(m:Int)+(q:Int):=by rw [IntKind.wrap_i64];omega
  have ws4:IntKind.i64.wrap ((m:Int)+(q:Int)-(p:Int))=(z:Int):=by rw [IntKind.wrap_i64];omega
  have HY:Hid (y=q-p/\z=m+q-p):=⟨hy,hz⟩
  clear hy hz hpa hqb;go_wp2_with fail
  refine (gc g n c x z p h w0 _ HROW.out.2.2 hg HROW.out.1 (by have:=HX1.out;have:=HY.out;have:=HQ.out;omega) (by have:=HX1.out;have:=HY.out;have:=HQ.out;omega) hn).mono ?_;rintro e w1 ⟨rfl,R1,B1⟩;have HX:Hid (aA w1 g n (fun k=>h (eX x z p k))/\(∀ k,h (eX x z p (bt (m-p) m (m+y) k))=f (bt a m b k))/\Below w0.heap.size w0 w1):=⟨R1,fun k=>by rw [HX1.out,HY.out.1,HY.out.2,vr (by omega) (by have:=HQ.out;omega) hp];exact HROW.out.2.1 k,B1⟩
  clear HROW R1 B1;go_wp2;go_roundw
  case rel=>(have:=HY.out;have:=HQ.out;exact ⟨p,y,_,by omega,by omega,by omega,by omega,rfl,by first|rfl|go_num,HX.out.1,HX.out.2.1,HX.out.2.2⟩)
  case measure=>(have:=HY.out;simp [intOf];omega)
theorem ou(g n c a m b:Nat)(f:Nat->Ru)(w0 w:World)(hb:Below w0.heap.size w0 w)(hg:w0.heap.size<= g)(hr:aA w g n f)(h1:a<m)(h2:m<b)(hbn:b<= n)(hn:n<= 1000000)(sl:aE f a m)(sr:aE f m b)(hA:m=a+1):
 Calls prog 193 #[.slice (some ⟨g,0,none⟩) n c,Vi (a:Int),Vi (m:Int),Vi (b:Int),.func (.func 109) #[] #[]] w fun e w'=>e=.returned (.tuple #[])/\∃ f',aA w' g n f'/\aK a b f f'/\aE f' a b/\Below w0.heap.size w0 w':=by
 have HA:Hid (m=a+1):=hA;have e2:IntKind.i64.wrap ((m:Int)-a)=1:=by rw [IntKind.wrap_i64];omega
 have HS:Hid (aE f (a+1) b):=by rw [<- hA];exact sr
 have HR0:Hid (aA w g n f/\Below w0.heap.size w0 w):=⟨hr,hb⟩
 clear hA sl sr hr hb;go_enter func193,ntmps193
 go_wp2;go_loopw [10,11] (fun i j wr=>∃ (p q:Nat),m<= p/\p<= q/\q<= b/\i=Vi p/\j=Vi q/\(p=m\/cy (f (p-1)) (f a))/\(q=b\/¬ cy (f q) (f a))/\aA wr g n f/\Below w0.heap.size w0 wr) (fun i j _=>(intOf j).toNat-(intOf i).toNat)
 case atStart=>exact ⟨m,b,Nl,by omega,Nl,rfl,rfl,.inl rfl,.inl rfl,HR0.out.1,HR0.out.2⟩
 case round=>
  clear HR0;obtain ⟨p,q,hmp,hpq,hqb,rfl,rfl,i1,i2,hrow,hbl⟩:=hrel;have HPQ:Hid ((p=m\/cy (f (p-1)) (f a))/\(q=b\/¬ cy (f q) (f a))):=⟨i1,i2⟩
  clear i1 i2;by_cases hlt:p<q
  ·have hi:(p:Int)<(q:Int):=by omega
   obtain ⟨t,ht⟩:∃ t,t=(p+q) / 2:=⟨_,rfl⟩
   have ht':((p:Int)+(q:Int)) / 2=(t:Int):=by omega
   have HT:Hid (p<= t/\t<q):=(⟨by omega,by omega⟩:p<= t/\t<q)
   have htn:(t:Int)<(n:Int):=by omega
   have han:(a:Int)<(n:Int):=by omega
   have htn2:t<n:=by omega
   have han2:a<n:=by omega
   have wt:IntKind.i64.wrap ((t:Int)+1)=(t:Int)+1:=by rw [IntKind.wrap_i64];omega
   clear ht;obtain ⟨h,hh⟩:∃ h:Nat->Ru,h=f:=⟨_,rfl⟩
   have HF:Hid (h=f):=hh;have HROW:Hid (aA wr g n h/\Below w0.heap.size w0 wr):=⟨by rw [hh];exact hrow,hbl⟩
   clear hrow hbl;by_cases hx:cy (h t) (h a)
   ·have hc0:cm (h t) (h a)<0:=(eh _ _).2 hx
    have HL:Hid (cy (f t) (f a)):=by rw [<- hh];exact hx
    clear hx hh;go_wp2;refine wp_region_any (by kernel_rfl) ?_
    refine bw (fun u=>Below wr.heap.size wr u) (fun i v u=>match i with
     |0=>v=.func (.func 109) #[] #[]
     |1=>v=.slice (some ⟨g,0,none⟩) n c
     |2=>v=Vi (t:Int)
     |3=>v=Vp g (t*7)
     |4=>v=.agg (bg (h t))
     |5=>v=.slice (some ⟨g,0,none⟩) n c
     |6=>v=Vi (a:Int)
     |7=>v=Vp g (a*7)
     |8=>v=.agg (bg (h a))
     |9=>v=Vi (cm (h t) (h a))
     |10=>v=.bool true
     |_=>True) (by kernel_rfl) (by kernel_rfl) (fun _ _ _ _ h _=>h) Br.drew ?_ ?_ _ _ rfl (by decide) (fun i=>by simp [Array.getD];try (split <;> rfl))
    ·intro vs u hR hall
     have e16:vs 10=.bool true:=hall 10 (by simp);simp only [bI];rw [e16];clear hall e16;have HX:Hid (aA u g n h/\Below w0.heap.size w0 u):=⟨HROW.out.1.below hR,ak HROW.out.2 hR⟩
     clear hR HROW;go_simp;go_wp2;go_roundw
     case rel=>(have:=HT.out;have e:=HF.out;subst e;exact ⟨t+1,q,by omega,by omega,by omega,by go_num,rfl,.inr (by rw [Nat.add_sub_cancel];exact HL.out),HPQ.out.2,HX.out.1,HX.out.2⟩)
     case measure=>(have:=HT.out;simp [intOf];omega)
    intro u i o ρ hR ho hρ hc hf hd
    have hi:i<11:=by
     have:=(Array.getElem?_eq_some_iff.1 ho).1;simpa using this
    obtain rfl|rfl|rfl|rfl|rfl|rfl|rfl|rfl|rfl|rfl|rfl:i=0\/i=1\/i=2\/i=3\/i=4\/i=5\/i=6\/i=7\/i=8\/i=9\/i=10:=by omega
    all_goals (simp only [List.getElem?_toArray,List.getElem?_cons_zero,List.getElem?_cons_succ,Option.some.injEq] at ho;subst ho)
    ·exact yr rfl (hρ 4 (by kernel_rfl)) hR
    ·exact yr rfl (hρ 0 (by kernel_rfl)) hR
    ·exact yr rfl (hρ 12 (by kernel_rfl)) hR
    ·have h1:ρ (.tmp 41)=.slice (some ⟨g,0,none⟩) n c:=dq hd 1 41
     have h2:ρ (.tmp 42)=Vi (t:Int):=dq hd 2 42;exact yr (au rfl h1 h2 (by go_simp)) rfl hR
    ·have R0:aA u g n h:=HROW.out.1.below hR
     obtain ⟨d0,d1,d2,d3,d4,d5,d6⟩:=aA.seven R0 (show t<n from by omega);clear R0;have h3:ρ (.tmp 43)=Vp g (t*7):=dq hd 3 43;exact yr (ah rfl h3 (by go_simp)) rfl hR
    ·exact yr rfl (hρ 0 (by kernel_rfl)) hR
    ·exact yr rfl (hρ 1 (by kernel_rfl)) hR
    ·have h5:ρ (.tmp 45)=.slice (some ⟨g,0,none⟩) n c:=dq hd 5 45
     have h6:ρ (.tmp 46)=Vi (a:Int):=dq hd 6 46;exact yr (au rfl h5 h6 (by go_simp)) rfl hR
    ·have R0:aA u g n h:=HROW.out.1.below hR
     obtain ⟨d0,d1,d2,d3,d4,d5,d6⟩:=aA.seven R0 (show a<n from by omega);clear R0;have h7:ρ (.tmp 47)=Vp g (a*7):=dq hd 7 47;exact yr (ah rfl h7 (by go_simp)) rfl hR
    ·have h4:ρ (.tmp 44)=.agg (bg (h t)):=dq hd 4 44
     have h8:ρ (.tmp 48)=.agg (bg (h a)):=dq hd 8 48;have h0:ρ (.tmp 40)=.func (.func 109) #[] #[]:=dq hd 0 40;refine .inl ⟨rfl,.inr ⟨_,_,cz rfl h0 (args:=#[.agg (bg (h t)),.agg (bg (h a))]) (by simp [h4,h8]) (by kernel_rfl),?_⟩⟩;refine (cA (h t) (h a) _).mono ?_;rintro e u' ⟨rfl,b'⟩;exact ⟨_,rfl,rfl,ak hR b',b'⟩
    have h9:ρ (.tmp 49)=Vi (cm (h t) (h a)):=dq hd 9 49;exact yr (aG rfl h9 (hc _) (by go_simp)) rfl hR
   have hc0:¬ cm (h t) (h a)<0:=fun e=>hx ((eh _ _).1 e)
   have HL:Hid (¬ cy (f t) (f a)):=by rw [<- hh];exact hx
   clear hx hh;go_wp2;refine wp_region_any (by kernel_rfl) ?_
   refine bw (fun u=>Below wr.heap.size wr u) (fun i v u=>match i with
    |0=>v=.func (.func 109) #[] #[]
    |1=>v=.slice (some ⟨g,0,none⟩) n c
    |2=>v=Vi (t:Int)
    |3=>v=Vp g (t*7)
    |4=>v=.agg (bg (h t))
    |5=>v=.slice (some ⟨g,0,none⟩) n c
    |6=>v=Vi (a:Int)
    |7=>v=Vp g (a*7)
    |8=>v=.agg (bg (h a))
    |9=>v=Vi (cm (h t) (h a))
    |10=>v=.bool false
    |_=>True) (by kernel_rfl) (by kernel_rfl) (fun _ _ _ _ h _=>h) Br.drew ?_ ?_ _ _ rfl (by decide) (fun i=>by simp [Array.getD];try (split <;> rfl))
   ·intro vs u hR hall
    have e16:vs 10=.bool false:=hall 10 (by simp);simp only [bI];rw [e16];clear hall e16;have HX:Hid (aA u g n h/\Below w0.heap.size w0 u):=⟨HROW.out.1.below hR,ak HROW.out.2 hR⟩
    clear hR HROW;go_simp;go_wp2;go_roundw
    case rel=>(have:=HT.out;have e:=HF.out;subst e;exact ⟨p,t,by omega,by omega,by omega,rfl,rfl,HPQ.out.1,.inr HL.out,HX.out.1,HX.out.2⟩)
    case measure=>(have:=HT.out;simp [intOf];omega)
   intro u i o ρ hR ho hρ hc hf hd
   have hi:i<11:=by
    have:=(Array.getElem?_eq_some_iff.1 ho).1;simpa using this
   obtain rfl|rfl|rfl|rfl|rfl|rfl|rfl|rfl|rfl|rfl|rfl:i=0\/i=1\/i=2\/i=3\/i=4\/i=5\/i=6\/i=7\/i=8\/i=9\/i=10:=by omega
   all_goals (simp only [List.getElem?_toArray,List.getElem?_cons_zero,List.getElem?_cons_succ,Option.some.injEq] at ho;subst ho)
   ·exact yr rfl (hρ 4 (by kernel_rfl)) hR
   ·exact yr rfl (hρ 0 (by kernel_rfl)) hR
   ·exact yr rfl (hρ 12 (by kernel_rfl)) hR
   ·have h1:ρ (.tmp 41)=.slice (some ⟨g,0,none⟩) n c:=dq hd 1 41
    have h2:ρ (.tmp 42)=Vi (t:Int):=dq hd 2 42;exact yr (au rfl h1 h2 (by go_simp)) rfl hR
   ·have R0:aA u g n h:=HROW.out.1.below hR
    obtain ⟨d0,d1,d2,d3,d4,d5,d6⟩:=aA.seven R0 (show t<n from by omega);clear R0;have h3:ρ (.tmp 43)=Vp g (t*7):=dq hd 3 43;exact yr (ah rfl h3 (by go_simp)) rfl hR
   ·exact yr rfl (hρ 0 (by kernel_rfl)) hR
   ·exact yr rfl (hρ 1 (by kernel_rfl)) hR
   ·have h5:ρ (.tmp 45)=.slice (some ⟨g,0,none⟩) n c:=dq hd 5 45
    have h6:ρ (.tmp 46)=Vi (a:Int):=dq hd 6 46;exact yr (au rfl h5 h6 (by go_simp)) rfl hR
   ·have R0:aA u g n h:=HROW.out.1.below hR
    obtain ⟨d0,d1,d2,d3,d4,d5,d6⟩:=aA.seven R0 (show a<n from by omega);clear R0;have h7:ρ (.tmp 47)=Vp g (a*7):=dq hd 7 47;exact yr (ah rfl h7 (by go_simp)) rfl hR
   ·have h4:ρ (.tmp 44)=.agg (bg (h t)):=dq hd 4 44
    have h8:ρ (.tmp 48)=.agg (bg (h a)):=dq hd 8 48;have h0:ρ (.tmp 40)=.func (.func 109) #[] #[]:=dq hd 0 40;refine .inl ⟨rfl,.inr ⟨_,_,cz rfl h0 (args:=#[.agg (bg (h t)),.agg (bg (h a))]) (by simp [h4,h8]) (by kernel_rfl),?_⟩⟩;refine (cA (h t) (h a) _).mono ?_;rintro e u' ⟨rfl,b'⟩;exact ⟨_,rfl,rfl,ak hR b',b'⟩
   have h9:ρ (.tmp 49)=Vi (cm (h t) (h a)):=dq hd 9 49;exact yr (aG rfl h9 (hc _) (by go_simp)) rfl hR
  have hi:¬ (p:Int)<(q:Int):=by omega
  obtain rfl:p=q:=by omega
  have HR0:Hid (aA wr g n f/\Below w0.heap.size w0 wr):=⟨hrow,hbl⟩
  obtain ⟨P,hP⟩:∃ P,p=P+1:=⟨p-1,by have:=HA.out;omega⟩
  have wP:IntKind.i64.wrap ((p:Int)-1)=(P:Int):=by rw [IntKind.wrap_i64];omega
  have HP:Hid (p=P+1/\a<= P/\P<n):=⟨hP,by have:=HA.out;omega,by omega⟩
  clear hrow hbl hP;go_wp2;go_loopw [13] (fun i wr=>∃ z:Nat,a<= z/\z<= P/\i=Vi z/\aA wr g n (fun x=>f (cD a (z+1) x))/\Below w0.heap.size w0 wr) (fun i _=>P-(intOf i).toNat)
  case atStart=>exact ⟨a,Nl,HP.out.2.1,rfl,aA.ext HR0.out.1 (fun x=>by rw [qJ]),HR0.out.2⟩
  case round=>
   clear HR0;obtain ⟨z,hz1,hz2,rfl,hrow,hbl⟩:=hrel;obtain ⟨h,hh⟩:∃ h:Nat->Ru,h=fun x=>f (cD a (z+1) x):=⟨_,rfl⟩
   rw [<- hh] at hrow;have HH:Hid (h=fun x=>f (cD a (z+1) x)):=hh;have HROW:Hid (aA wr g n h/\Below w0.heap.size w0 wr):=⟨hrow,hbl⟩
   clear hrow hbl hh;by_cases hzP:z<P
   ·have hi2:(z:Int)<(P:Int):=by omega
    obtain ⟨y,hy⟩:∃ y,y=z+1:=⟨_,rfl⟩
    have wy:IntKind.i64.wrap ((z:Int)+1)=(y:Int):=by have:=HP.out;rw [IntKind.wrap_i64];omega
    have hzn:(z:Int)<(n:Int):=by have:=HP.out;omega
    have hyn:(y:Int)<(n:Int):=by have:=HP.out;omega
    have hzn2:z<n:=by omega
    have hyn2:y<n:=by omega
    have hIJ:¬ z=y:=by omega
    have hJI:¬ y=z:=by omega
    have HY:Hid (y=z+1):=hy;clear hy;go_wp2;refine wp_region_any (by kernel_rfl) ?_
    refine gm (fun l u=>aA u g n (fun k=>if l 15=true/\k=z then h y else if l 17=true/\k=y then h z else h k)/\Below w0.heap.size w0 u) (fun _ _=>True) (fun i v u=>match i with
     |0=>v=.slice (some ⟨g,0,none⟩) n c
     |1=>v=Vi (z:Int)
     |2=>v=.slice (some ⟨g,0,none⟩) n c
     |3=>v=Vi (z:Int)
     |4=>v=Vi (y:Int)
     |5=>v=.slice (some ⟨g,0,none⟩) n c
     |6=>v=Vi (z:Int)
     |7=>v=Vi (y:Int)
     |8=>v=Vp g (y*7)
     |9=>v=.agg (bg (h y))
     |10=>v=.slice (some ⟨g,0,none⟩) n c
     |11=>v=Vi (z:Int)
     |12=>v=Vp g (z*7)
     |13=>v=.agg (bg (h z))
     |14=>v=Vp g (z*7)
     |16=>v=Vp g (y*7)
     |_=>True) (by kernel_rfl) (by kernel_rfl) (fun _ _ _ _ h _=>h) (fun _=>trivial) ⟨aM.congr (aM.below HROW.out.1 Br.drew) (fun k _=>by simp),HROW.out.2.drew⟩ ?_ ?_ _ _ rfl (by decide) (fun i=>by simp [Array.getD];try (split <;> rfl))
    ·intro vs u hR _
     have R1:aA u g n (fun k=>h (cS z y k)):=hR.1.congr (fun k _=>congrArg cG (by by_cases e1:k=z <;> by_cases e2:k=y <;> simp [cS,e1,e2,hJI,hIJ]));have R2:aA u g n (fun k=>f (cD a (z+1+1) k)):=aA.ext R1 (fun k=>by rw [<- sg hz1,HH.out,HY.out]);have HX:Hid (aA u g n (fun k=>f (cD a (z+1+1) k))/\Below w0.heap.size w0 u):=⟨R2,hR.2⟩
     clear R1 R2 hR HROW HH;simp only [bI];go_simp;go_wp2;go_roundw
     case rel=>(have:=HY.out;exact ⟨z+1,by omega,by omega,by first|rfl|(rw [HY.out];rfl)|go_num,HX.out.1,HX.out.2⟩)
     case measure=>(have:=HY.out;simp [intOf];omega)
    intro u i o ρ l hR ho hli hcl hρ hc hf hd hv
    have hi:i<18:=by
     have:=(Array.getElem?_eq_some_iff.1 ho).1;simpa using this
    obtain rfl|rfl|rfl|rfl|rfl|rfl|rfl|rfl|rfl|rfl|rfl|rfl|rfl|rfl|rfl|rfl|rfl|rfl:i=0\/i=1\/i=2\/i=3\/i=4\/i=5\/i=6\/i=7\/i=8\/i=9\/i=10\/i=11\/i=12\/i=13\/i=14\/i=15\/i=16\/i=17:=by omega
    all_goals (simp only [List.getElem?_toArray,List.getElem?_cons_zero,List.getElem?_cons_succ,Option.some.injEq] at ho;subst ho)
    ·exact yr rfl (hρ 0 (by kernel_rfl)) (by simpa [aW] using hR) trivial
    ·exact yr rfl (hρ 13 (by kernel_rfl)) (by simpa [aW] using hR) trivial
    ·exact yr rfl (hρ 0 (by kernel_rfl)) (by simpa [aW] using hR) trivial
    ·exact yr rfl (hρ 13 (by kernel_rfl)) (by simpa [aW] using hR) trivial
    ·have h3:ρ (.tmp 64)=Vi (z:Int):=hv 3 64 rfl (hd ⟨3,.data⟩ (by simp) rfl)
     exact yr (aG rfl h3 (hc _) (by go_simp)) rfl (by simpa [aW] using hR) trivial
    ·exact yr rfl (hρ 0 (by kernel_rfl)) (by simpa [aW] using hR) trivial
    ·exact yr rfl (hρ 13 (by kernel_rfl)) (by simpa [aW] using hR) trivial
    ·have h6:ρ (.tmp 67)=Vi (z:Int):=hv 6 67 rfl (hd ⟨6,.data⟩ (by simp) rfl)
     exact yr (aG rfl h6 (hc _) (by go_simp)) rfl (by simpa [aW] using hR) trivial
    ·have h5:ρ (.tmp 66)=.slice (some ⟨g,0,none⟩) n c:=hv 5 66 rfl (hd ⟨5,.data⟩ (by simp) rfl)
     have h7:ρ (.tmp 68)=Vi (y:Int):=hv 7 68 rfl (hd ⟨7,.data⟩ (by simp) rfl);exact yr (au rfl h5 h7 (by go_simp)) rfl (by simpa [aW] using hR) trivial
    ·have n1:l 15=false:=(by cases hx:l 15;(rfl);(have h1:=hcl 15 _ rfl hx ⟨9,.data⟩ (by simp) rfl;rw [hli] at h1;cases h1))
     have n2:l 17=false:=(by cases hx:l 17;(rfl);(have h1:=hcl 17 _ rfl hx ⟨9,.phase⟩ (by simp) rfl;rw [hli] at h1;cases h1))
     have R0:aA u g n h:=hR.1.congr (fun k _=>by simp [n1,n2]);obtain ⟨d0,d1,d2,d3,d4,d5,d6⟩:=aA.seven R0 (show y<n from by omega);clear R0;have h8:ρ (.tmp 69)=Vp g (y*7):=hv 8 69 rfl (hd ⟨8,.data⟩ (by simp) rfl);exact yr (ah rfl h8 (by go_simp)) rfl (by simpa [aW] using hR) trivial
    ·exact yr rfl (hρ 0 (by kernel_rfl)) (by simpa [aW] using hR) trivial
    ·exact yr rfl (hρ 13 (by kernel_rfl)) (by simpa [aW] using hR) trivial
    ·have h10:ρ (.tmp 71)=.slice (some ⟨g,0,none⟩) n c:=hv 10 71 rfl (hd ⟨10,.data⟩ (by simp) rfl)
     have h11:ρ (.tmp 72)=Vi (z:Int):=hv 11 72 rfl (hd ⟨11,.data⟩ (by simp) rfl);exact yr (au rfl h10 h11 (by go_simp)) rfl (by simpa [aW] using hR) trivial
    ·have n1:l 15=false:=(by cases hx:l 15;(rfl);(have h1:=hcl 15 _ rfl hx ⟨13,.phase⟩ (by simp) rfl;rw [hli] at h1;cases h1))
     have n2:l 17=false:=(by cases hx:l 17;(rfl);(have h1:=hcl 17 _ rfl hx ⟨13,.data⟩ (by simp) rfl;rw [hli] at h1;cases h1))
     have R0:aA u g n h:=hR.1.congr (fun k _=>by simp [n1,n2]);obtain ⟨d0,d1,d2,d3,d4,d5,d6⟩:=aA.seven R0 (show z<n from by omega);clear R0;have h12:ρ (.tmp 73)=Vp g (z*7):=hv 12 73 rfl (hd ⟨12,.data⟩ (by simp) rfl);exact yr (ah rfl h12 (by go_simp)) rfl (by simpa [aW] using hR) trivial
    ·have h0:ρ (.tmp 61)=.slice (some ⟨g,0,none⟩) n c:=hv 0 61 rfl (hd ⟨0,.data⟩ (by simp) rfl)
     have h1:ρ (.tmp 62)=Vi (z:Int):=hv 1 62 rfl (hd ⟨1,.data⟩ (by simp) rfl);exact yr (au rfl h0 h1 (by go_simp)) rfl (by simpa [aW] using hR) trivial
    ·obtain ⟨d0,d1,d2,d3,d4,d5,d6⟩:=aA.seven hR.1 (show z<n from by omega)
     have f0:=aM.fro hR.1 (z*7);have f1:=aM.fro hR.1 (z*7+1);have f2:=aM.fro hR.1 (z*7+2);have f3:=aM.fro hR.1 (z*7+3);have f4:=aM.fro hR.1 (z*7+4);have f5:=aM.fro hR.1 (z*7+5);have f6:=aM.fro hR.1 (z*7+6);have h14:ρ (.tmp 75)=Vp g (z*7):=hv 14 75 rfl (hd ⟨14,.data⟩ (by simp) rfl);have h9:ρ (.tmp 70)=.agg (bg (h y)):=hv 9 70 rfl (hd ⟨9,.data⟩ (by simp) rfl);have hr:(Instr.storeAt 61 (Vp g (z*7)) (.agg (bg (h y)))).run prog u=.ok () ((((((((u).setCell ⟨g,z*7,none⟩ (Vi (h y).u)).setCell ⟨g,z*7+1,none⟩ (Vi (h y).s)).setCell ⟨g,z*7+2,none⟩ (Vi (h y).lo)).setCell ⟨g,z*7+3,none⟩ (Vi (h y).hi)).setCell ⟨g,z*7+4,none⟩ (Vi (h y).p)).setCell ⟨g,z*7+5,none⟩ (Vi (h y).t)).setCell ⟨g,z*7+6,none⟩ (Vi (h y).sh)):=by go_simp
     have hR2:=aM.set hR.1 (show z<n from by omega) (cG (h y)) rfl;have hB2:=aD (g:=g) hg (cG (h y)) u (z*7) hR.2;exact .inl ⟨rfl,.inr (.inr ⟨rfl,_,bY rfl h14 h9 hr,⟨hR2.congr (fun k _=>by by_cases e:k=z <;> simp [aW,e,hIJ,hJI]),hB2⟩,trivial⟩)⟩
    ·have h2:ρ (.tmp 63)=.slice (some ⟨g,0,none⟩) n c:=hv 2 63 rfl (hd ⟨2,.data⟩ (by simp) rfl)
     have h4:ρ (.tmp 65)=Vi (y:Int):=hv 4 65 rfl (hd ⟨4,.data⟩ (by simp) rfl);exact yr (au rfl h2 h4 (by go_simp)) rfl (by simpa [aW] using hR) trivial
    obtain ⟨d0,d1,d2,d3,d4,d5,d6⟩:=aA.seven hR.1 (show y<n from by omega);have f0:=aM.fro hR.1 (y*7);have f1:=aM.fro hR.1 (y*7+1);have f2:=aM.fro hR.1 (y*7+2);have f3:=aM.fro hR.1 (y*7+3);have f4:=aM.fro hR.1 (y*7+4);have f5:=aM.fro hR.1 (y*7+5);have f6:=aM.fro hR.1 (y*7+6);have h16:ρ (.tmp 76)=Vp g (y*7):=hv 16 76 rfl (hd ⟨16,.data⟩ (by simp) rfl);have h13:ρ (.tmp 74)=.agg (bg (h z)):=hv 13 74 rfl (hd ⟨13,.data⟩ (by simp) rfl);have hr:(Instr.storeAt 61 (Vp g (y*7)) (.agg (bg (h z)))).run prog u=.ok () ((((((((u).setCell ⟨g,y*7,none⟩ (Vi (h z).u)).setCell ⟨g,y*7+1,none⟩ (Vi (h z).s)).setCell ⟨g,y*7+2,none⟩ (Vi (h z).lo)).setCell ⟨g,y*7+3,none⟩ (Vi (h z).hi)).setCell ⟨g,y*7+4,none⟩ (Vi (h z).p)).setCell ⟨g,y*7+5,none⟩ (Vi (h z).t)).setCell ⟨g,y*7+6,none⟩ (Vi (h z).sh)):=by go_simp
    have hR2:=aM.set hR.1 (show y<n from by omega) (cG (h z)) rfl;have hB2:=aD (g:=g) hg (cG (h z)) u (y*7) hR.2;exact .inl ⟨rfl,.inr (.inr ⟨rfl,_,bY rfl h16 h13 hr,⟨hR2.congr (fun k _=>by by_cases e:k=y <;> simp [aW,e,hIJ,hJI]),hB2⟩,trivial⟩)⟩
   have hi2:¬ (z:Int)<(P:Int):=by omega
   have HX:Hid (aA wr g n (fun x=>f (cD a p x))/\Below w0.heap.size w0 wr):=⟨by have e:=HP.out.1;rw [e,show P=z by omega,<- HH.out];exact HROW.out.1,HROW.out.2⟩
   have HG:Hid (aK a b f (fun x=>f (cD a p x))/\aE (fun x=>f (cD a p x)) a b):=⟨aK.up f (by have:=HA.out;omega) hqb,qM HS.out (by have:=HA.out;omega) hqb (by have e:=HPQ.out.1;rw [HA.out] at e;exact e) HPQ.out.2⟩
   clear HROW HH;go_wp2;refine bodyPost_ret (v:=.tuple #[]) (by simp [results,results193,go_sem]) rfl ⟨rfl,_,HX.out.1,HG.out.1,HG.out.2,HX.out.2⟩
end Go.Proofs.YtohikbpolofklaaGreat
