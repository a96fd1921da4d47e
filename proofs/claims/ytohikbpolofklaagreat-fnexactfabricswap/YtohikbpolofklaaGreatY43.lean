/- Texts that the proof needs, joined: Fo9 Mk3 Mz0. -/
import Derived.Test.YtohikbpolofklaaGreatY39
import Derived.Test.YtohikbpolofklaaGreatY40
import Derived.Test.YtohikbpolofklaaGreatY42
import Derived.Test.YtohikbpolofklaaGreatY4
import Derived.Test.YtohikbpolofklaaGreatY26
import Derived.Test.YtohikbpolofklaaGreatY17
set_option linter.unusedVariables false
set_option linter.unusedSimpArgs false
set_option maxHeartbeats 8000000
set_option maxRecDepth 20000
namespace Go.Proofs.YtohikbpolofklaaGreat
open Go.RowKit Go.Joins Go.Proofs.Tryz
theorem hdI{w:World}{b o:Nat}{L:List Value}(h:w.rangeAt b o L)(j x:Nat)(i:Int)(hL:L[j]?=some (Vi ((x:Nat):Int)):=by rfl)(hx:((x:Nat):Int)=i:=by omega):w.cell? ⟨b,o+j,none⟩=some (Vi i):=by
 rw [<- hx];exact h j _ hL
theorem hdI0{w:World}{b o:Nat}{L:List Value}(h:w.rangeAt b o L)(x:Nat)(i:Int)(hL:L[0]?=some (Vi ((x:Nat):Int)):=by rfl)(hx:((x:Nat):Int)=i:=by omega):w.cell? ⟨b,o,none⟩=some (Vi i):=by
 rw [<- hx];exact h 0 _ hL
theorem hdB{w:World}{b o:Nat}{L:List Value}(h:w.rangeAt b o L)(j x:Nat)(i:Int)(hL:L[j]?=some (.bool (((x:Nat):Int) % 3 == 0)):=by rfl)(hx:((x:Nat):Int)=i:=by omega):w.cell? ⟨b,o+j,none⟩=some (.bool (i % 3 == 0)):=by
 rw [<- hx];exact h j _ hL
theorem wrI(k:Nat)(a c:Int)(h:k<= 1125899906842700)(ha:0<= a/\a<= 100:=by decide)(hc:a+1=c:=by rfl):IntKind.i64.wrap ((k:Int)+a+1)=(k:Int)+c:=by
 rw [IntKind.wrap_i64];omega
theorem wrI0(k:Nat)(h:k<= 1125899906842700):IntKind.i64.wrap ((k:Int)+1)=(k:Int)+1:=by
 rw [IntKind.wrap_i64];omega
def ir(w0:World)(lo hi:Nat)(w:World)(s:Nat)(v:Value)(n:Nat)(f:Nat->List Tr):Prop:=
 hi<= w.heap.size/\∃ a c,v=.slice a n c/\n<= c/\(n=0\/∃ (g off:Nat) (F:Nat->List Value),a=some ⟨g,off,none⟩/\g<hi/\(g<w0.heap.size\/lo<= g)/\∀ k,k<n->(F k).length=s/\w.rangeAt g (off+k*s) (F k)/\aV w0 0 (ac (f k)) (F k))
section
variable {w0 w w':World} {lo hi s n:Nat} {v:Value} {f:Nat->List Tr}
theorem ed.k(h:ed w0 lo w s v n f):ir w0 lo w.heap.size w s v n f:=⟨Nl,h⟩
theorem ir.kept{row:Option Nat}(h:ir w0 lo hi w s v n f)(hg:w.grownBy w' row)(hr:∀ k,row=some k->w0.heap.size<= k/\(k<lo\/hi<= k)):ir w0 lo hi w' s v n f:=by
 obtain ⟨hh,a,c,h1,h2,h4⟩:=h;refine ⟨Nat.le_trans hh hg.size,a,c,h1,h2,?_⟩
 rcases h4 with h4|⟨g,off,F,ha,hgs,hlo,hc⟩
 ·exact .inl h4
 refine .inr ⟨g,off,F,ha,hgs,hlo,fun k hk=>⟨(hc k hk).1,fun j u hu=>?_,(hc k hk).2.2⟩⟩;rw [<- (hc k hk).2.1 j u hu]
 exact World.cell?_of_block (a:=⟨g,off+k*s+j,none⟩) (hg.block g (by omega) (fun e=>by
  cases row with
  |none=>cases e
  |some r=>have:=hr r rfl;have:=Option.some.inj e;omega))
theorem ir.below(h:ir w0 lo hi w s v n f)(hb:Below w.heap.size w w'):ir w0 lo hi w' s v n f:=by
 obtain ⟨hh,a,c,h1,h2,h4⟩:=h;refine ⟨Nat.le_trans hh hb.size,a,c,h1,h2,?_⟩
 rcases h4 with h4|⟨g,off,F,ha,hgs,hlo,hc⟩
 ·exact .inl h4
 exact .inr ⟨g,off,F,ha,hgs,hlo,fun k hk=>⟨(hc k hk).1,ay (hc k hk).2.1 (by omega) hb,(hc k hk).2.2⟩⟩
theorem ir.at{a:OA}{m c k:Nat}(h:ir w0 lo hi w s (.slice a m c) n f)(hk:k<n):∃ g off vs,a=some ⟨g,off,none⟩/\g<w.heap.size/\vs.length=s/\w.rangeAt g (off+k*s) vs/\aV w0 0 (ac (f k)) vs:=by
 obtain ⟨hh,a',c',h1,h2,h4⟩:=h;simp only [Value.slice.injEq] at h1;rcases h4 with h4|⟨g,off,F,ha,hgs,hlo,hc⟩
 ·omega
 exact ⟨g,off,F k,by rw [h1.1,ha],by omega,(hc k hk).1,(hc k hk).2.1,(hc k hk).2.2⟩
end
def FS(X:VF)(w wr:World)(v:Value)(P:List VL)(R:List (Int × Int × (VP->Bool))):Prop:=
 cI w wr 88 9 v P.length (fun i=>aJ (P.getD i default))/\gj (cW X.op X.op.m) [] (gT X.lf 0 X.nl)=gj (cW X.op X.op.m) (P.map (fun c=>(c.id,c.pa))) R/\P.length+R.length=(gT X.lf 0 X.nl).length
theorem FS.below{X:VF}{w wr wu:World}{v:Value}{P:List VL}{R:List (Int × Int × (VP->Bool))}(h:FS X w wr v P R)(hb:Below wr.heap.size wr wu):FS X w wu v P R:=⟨h.1.below hb,h.2⟩
theorem mH(N:VN)(a1:OA)(c1:Nat)(e1:OA)(k1:Nat)(e2:OA)(k2:Nat)(w:World)(h:aV w 0 (ac (aN N)) (bj N a1 N.nq c1 e1 N.c.q.ws.length k1 e2 N.c.q.bs.length k2))(hb:jF N):
 Calls prog 47 #[.agg (bj N a1 N.nq c1 e1 N.c.q.ws.length k1 e2 N.c.q.bs.length k2).toArray] w fun e w'=>e=.returned (.bool (cO N))/\Below w.heap.size w w':=by
 obtain ⟨_,_,_,_,_,_,e9,r1,r2,r3⟩:=VN.cells h rfl;simp only [List.cons.injEq,Value.slice.injEq,and_true,true_and] at e9;obtain ⟨⟨rfl,rfl⟩,⟨rfl,rfl⟩,⟨rfl,rfl⟩⟩:=e9;obtain ⟨_,_,x2,_,_,s2⟩:=r2.ints;obtain ⟨_,_,x3,_,_,s3⟩:=r3.bools;simp only [Value.slice.injEq] at x2 x3;rw [<- x2.1] at s2;rw [<- x3.1] at s3;exact lH (rk N) N.nq _ _ _ _ N.c.q.ws.length N.c.q.bs.length _ _ (fun k=>nE (N.qf k)) w ⟨rfl,rfl,r1.slc,s2,s3⟩ ⟨hb.1,fun k hk=>hb.2.1 k hk⟩ hb.2.2.1 hb.2.2.2
theorem wV{O:List (Int × Int × VP)}{Q:List (Int × Int)}{c:Int × Int × (VP->Bool)}{cs:List (Int × Int × (VP->Bool))}(h:fe Q c.1 c.2.1=true):gj O Q (c:: cs)=false:=by
 unfold gj;rw [h];rfl
theorem wW{O:List (Int × Int × VP)}{Q:List (Int × Int)}{c:Int × Int × (VP->Bool)}{cs:List (Int × Int × (VP->Bool))}(h:fc O c=false):gj O Q (c:: cs)=false:=by
 unfold gj;rw [h];simp
theorem xx{O:List (Int × Int × VP)}{Q:List (Int × Int)}{c:Int × Int × (VP->Bool)}{cs:List (Int × Int × (VP->Bool))}(h:fe Q c.1 c.2.1=false)(h2:fc O c=true):gj O Q (c:: cs)=gj O (Q++[(c.1,c.2.1)]) cs:=by
 conv=>lhs;unfold gj
 rw [h,h2];rfl
theorem inKy{P:List VL}{n:Nat}{a b:Int}(hn:n<P.length)(h1:(P.getD n default).id=a)(h2:(P.getD n default).pa=b):fe (P.map (fun c=>(c.id,c.pa))) a b=true:=by
 unfold fe;rw [List.any_map,List.any_eq_true];rw [List.getD_eq_getElem?_getD,List.getElem?_eq_getElem hn] at h1 h2;exact ⟨P[n],List.getElem_mem hn,by simp only [Option.getD_some] at h1 h2;simp [h1,h2]⟩
theorem wX{P:List VL}{a b:Int}(h:∀ n,n<P.length->¬ ((P.getD n default).id=a/\(P.getD n default).pa=b)):fe (P.map (fun c=>(c.id,c.pa))) a b=false:=by
 cases e:fe (P.map (fun c=>(c.id,c.pa))) a b with
 |false=>rfl
 |true=>
  unfold fe at e;rw [List.any_map,List.any_eq_true] at e;obtain ⟨c,hc,he⟩:=e;obtain ⟨n,hn,rfl⟩:=List.getElem_of_mem hc;exfalso
  refine h n hn ?_;rw [List.getD_eq_getElem?_getD,List.getElem?_eq_getElem hn];simpa using he
theorem lI{f:Nat->Ca}:∀ {n:Nat},dx f n=true->∀ {k:Nat},k<n->dw (f k)=true
 |0,_,k,hk=>by omega
 |n+1,h,k,hk=>by
  unfold dx at h;simp only [Bool.and_eq_true] at h;by_cases e:k=n
  ·subst e;exact h.2
  exact lI h.1 (by omega)
theorem oVpa{N:VN}(h:cO N=true){i:Nat}(hi:i<(dp N).length):0<= (aU N i).pa:=by
 have key:∀ c:Ca,dw c=true->0<= c.pa:=by
  intro c hc;unfold dw aB at hc;simp only [Bool.and_eq_true,decide_eq_true_eq] at hc;omega
 unfold cO iE at h;simp only [Bool.and_eq_true,decide_eq_true_eq] at h;obtain ⟨-,-,-,-,h5,h6⟩:=h;unfold aU;rw [List.getD_eq_getElem?_getD];cases hb:N.bz with
 |true=>
  unfold fE at h6;rw [show (rk N).bz=true from hb] at h6;cases i with
  |zero=>
   rw [gp hb];have:=key (rk N).c (by simp at h6;exact h6.1);exact this
  |succ j=>
   rw [eV,hb] at hi;simp only [if_true] at hi;rw [ij hb (by omega)];exact key (nE (N.qf j)) (lI h5 (by omega))
 |false=>
  rw [eV,hb] at hi;simp only [Bool.false_eq_true,if_false] at hi;rw [ik hb (by omega)];exact key (nE (N.qf i)) (lI h5 (by omega))
theorem rK{P:List VL}{c:VL}{i:Nat}(hi:i<P.length):(P++[c]).getD i default=P.getD i default:=by
 simp [List.getD_eq_getElem?_getD,List.getElem?_append_left hi]
theorem oT{P:List VL}{c:VL}:(P++[c]).getD P.length default=c:=by
 simp [List.getD_eq_getElem?_getD]
theorem tv{P:List VL}{c:VL}:(P++[c]).map (fun c=>(c.id,c.pa))=P.map (fun c=>(c.id,c.pa))++[(c.id,c.pa)]:=by simp
theorem jt{X:VF}(h:aO (bQ X.op) X.op.m=true):cw X=(gj (cW X.op X.op.m) [] (gT X.lf 0 X.nl) && decide ((gT X.lf 0 X.nl).length=(cW X.op X.op.m).length)):=by
 unfold cw;exact wM (pE h _ Nl) _
theorem j4(X:VF)(f1:OA)(m1:Nat)(f2:OA)(m2:Nat)(f3:OA)(m3:Nat)(w:World)(h:aV w 0 (ac (aX X)) (aq X f1 X.set.n m1 f2 X.op.m m2 f3 X.nl m3))(hb:jH X):
 Calls prog 19 #[.agg (aq X f1 X.set.n m1 f2 X.op.m m2 f3 X.nl m3).toArray] w fun e w'=>e=.returned (.bool (cn X))/\Below w.heap.size w w':=by
 obtain ⟨_,_,_,_,_,_,e9,r1,r2,r3⟩:=VF.cells h rfl;simp only [List.cons.injEq,Value.slice.injEq,and_true,true_and] at e9;obtain ⟨⟨rfl,rfl⟩,⟨rfl,rfl⟩,⟨rfl,rfl⟩⟩:=e9;obtain ⟨x0,h0⟩:∃ x,aB X.nw 0 4294967295=x:=⟨_,rfl⟩
 obtain ⟨x1,h1⟩:∃ x,jf X.set.wt X.set.tr (gr X.set)=x:=⟨_,rfl⟩
 obtain ⟨x2,h2⟩:∃ x,eB X.op=x:=⟨_,rfl⟩
 obtain ⟨c0,hc0⟩:∃ x,aB X.sk 0 1000000000=x:=⟨_,rfl⟩
 obtain ⟨c1,hc1⟩:∃ x,aB X.re 0 1000000000=x:=⟨_,rfl⟩
 obtain ⟨c2,hc2⟩:∃ x,aB X.fa 0 1000000000=x:=⟨_,rfl⟩
 obtain ⟨c3,hc3⟩:∃ x,aB X.se 0 1000000000=x:=⟨_,rfl⟩
 obtain ⟨x3,hx3⟩:∃ x,decide (X.nl=6)=x:=⟨_,rfl⟩
 obtain ⟨yl,hyl⟩:∃ x,aO (fun i=>cO (X.lf i)) X.nl=x:=⟨_,rfl⟩
 obtain ⟨yc,hyc⟩:∃ x,cw X=x:=⟨_,rfl⟩
 have HYC:Hid (decide (X.nl=6)=x3/\aO (fun i=>cO (X.lf i)) X.nl=yl/\cw X=yc):=⟨hx3,hyl,hyc⟩
 have hq:cn X=(x0 && (x1 && (x2 && (x3 && (c0 && (c1 && (c2 && (c3 && (yl && yc))))))))):=by
  unfold cn;rw [show aO (fun k=>aB (fY X k) 0 1000000000) 4=((((true && aB X.sk 0 1000000000) && aB X.re 0 1000000000) && aB X.fa 0 1000000000) && aB X.se 0 1000000000) from rfl,h0,h1,h2,hc0,hc1,hc2,hc3,hx3,hyl,hyc,Bool.true_and];clear HYC h hb r1 r2 r3 h0 h1 h2 hc0 hc1 hc2 hc3 hx3 hyl hyc;revert x0 x1 x2 x3 c0 c1 c2 c3 yl yc
  decide
 rw [hq];obtain ⟨W,hW⟩:∃ W,W=w.alloc (.cells (aq X f1 X.set.n m1 f2 X.op.m m2 f3 X.nl m3).toArray 41):=⟨_,rfl⟩
 obtain ⟨G,hG⟩:∃ G,G=w.heap.size:=⟨_,rfl⟩
 have bW:Below w.heap.size w W:=by rw [hW];exact aa _ _
 have k0:ae W G 41 (aq X f1 X.set.n m1 f2 X.op.m m2 f3 X.nl m3).toArray:=by rw [hW,hG];exact ae.new _ _ _
 have HX:Hid (aB X.nw 0 4294967295=x0/\jf X.set.wt X.set.tr (gr X.set)=x1/\eB X.op=x2/\aB X.sk 0 1000000000=c0/\aB X.re 0 1000000000=c1/\aB X.fa 0 1000000000=c2/\aB X.se 0 1000000000=c3):=⟨h0,h1,h2,hc0,hc1,hc2,hc3⟩
 have HE:Hid (Below w.heap.size w W/\ae W G 41 (aq X f1 X.set.n m1 f2 X.op.m m2 f3 X.nl m3).toArray/\Rd w 0 (.list 7 X.set.n (fun i=>ac (aR (X.set.f i)))) (.slice f1 X.set.n m1)/\Rd w 0 (.list 13 X.op.m (fun i=>ac (dT (X.op.f i)))) (.slice f2 X.op.m m2)/\Rd w 0 (.list 17 X.nl (fun i=>ac (aN (X.lf i)))) (.slice f3 X.nl m3)/\jH X/\w.heap.size<= G):=⟨bW,k0,r1,r2,r3,hb,by rw [hG];exact Nl⟩
 have y0:W.cell? ⟨G,0,none⟩=some (Vi X.nw):=k0.cell 0 rfl;have y1:W.cell? ⟨G,1,none⟩=some (Vi X.set.wt):=k0.cell 1 rfl;have y2:W.cell? ⟨G,2,none⟩=some (Vi X.set.tr):=k0.cell 2 rfl;have y3:W.cell? ⟨G,3,none⟩=some (.slice f1 X.set.n m1):=k0.cell 3 rfl;have y4:W.cell? ⟨G,4,none⟩=some (Vi X.op.nx):=k0.cell 4 rfl;have y5:W.cell? ⟨G,5,none⟩=some (.slice f2 X.op.m m2):=k0.cell 5 rfl;have y6:W.cell? ⟨G,6,none⟩=some (.slice f3 X.nl m3):=k0.cell 6 rfl;have y7:W.cell? ⟨G,7,none⟩=some (Vi X.sk):=k0.cell 7 rfl;have y8:W.cell? ⟨G,8,none⟩=some (Vi X.re):=k0.cell 8 rfl;have y9:W.cell? ⟨G,9,none⟩=some (Vi X.fa):=k0.cell 9 rfl;have y10:W.cell? ⟨G,10,none⟩=some (Vi X.se):=k0.cell 10 rfl;clear hq h0 h1 h2 hc0 hc1 hc2 hc3 hx3 hyl hyc r1 r2 r3 h hb bW k0;go_enter func19,ntmps19
 go_upto_region 1 with fail
 rw [<- hW,<- hG];clear hW hG;try go_simp
 go_wp2_with fail
 refine (px _ _ _ HX.out.1).mono ?_;rintro e w1 ⟨rfl,hw⟩;have hw:=hw.symm;subst hw;cases x0 with
 |false=>
  go_wp2;go_ret;exact ⟨rfl,HE.out.1⟩
 |true=>
 go_wp2_with fail
 refine (jQ X.set.wt X.set.tr f1 X.set.n m1 X.set.f _ (HE.out.2.2.1.below HE.out.1).slu.2 HE.out.2.2.2.2.2.1.1 (gr X.set) (ml X.set)).mono ?_;rintro e w1 ⟨rfl,b1⟩;rw [HX.out.2.1];have B1:Hid (Below w.heap.size w w1):=af HE.out.1 b1;have K1:Hid (ae w1 G 41 (aq X f1 X.set.n m1 f2 X.op.m m2 f3 X.nl m3).toArray):=HE.out.2.1.below b1;clear b1 y0 y1 y2 y3 y4 y5 y6 y7 y8 y9 y10;cases x1 with
 |false=>
  go_wp2;go_ret;exact ⟨rfl,B1.out⟩
 |true=>
 have y4:w1.cell? ⟨G,4,none⟩=some (Vi X.op.nx):=K1.out.cell 4 rfl;have y5:w1.cell? ⟨G,5,none⟩=some (.slice f2 X.op.m m2):=K1.out.cell 5 rfl;go_wp2_with fail
 refine (fL X.op f2 m2 _ ⟨HE.out.2.2.2.1.below B1.out,HE.out.2.2.2.2.2.1.2.2.1⟩).mono ?_;rintro e w2 ⟨rfl,b2⟩;rw [HX.out.2.2.1];have B2:Hid (Below w.heap.size w w2):=af B1.out b2;have K2:Hid (ae w2 G 41 (aq X f1 X.set.n m1 f2 X.op.m m2 f3 X.nl m3).toArray):=K1.out.below b2;clear b2 y4 y5 B1 K1;cases x2 with
 |false=>
  go_wp2;go_ret;exact ⟨rfl,B2.out⟩
 |true=>
 have y6:w2.cell? ⟨G,6,none⟩=some (.slice f3 X.nl m3):=K2.out.cell 6 rfl;have y7:w2.cell? ⟨G,7,none⟩=some (Vi X.sk):=K2.out.cell 7 rfl;have y8:w2.cell? ⟨G,8,none⟩=some (Vi X.re):=K2.out.cell 8 rfl;have y9:w2.cell? ⟨G,9,none⟩=some (Vi X.fa):=K2.out.cell 9 rfl;have y10:w2.cell? ⟨G,10,none⟩=some (Vi X.se):=K2.out.cell 10 rfl;cases x3 with
 |true=>
  have e6:X.nl=6:=of_decide_eq_true HYC.out.1;have h6:((X.nl:Int) != 6)=false:=by simp;omega
  have H6:Hid (X.nl=6):=e6;have hn6:X.nl<= 6:=by omega
  clear e6;go_wp2_with fail
  refine (aI _ _ _ _ _ HX.out.2.2.2.1).mono ?_;rintro e w3 ⟨rfl,hw⟩;have hw:=hw.symm;subst hw;cases c0 with
  |false=>
   go_wp2;go_ret;exact ⟨rfl,B2.out⟩
  |true=>
  go_wp2_with fail
  refine (aI _ _ _ _ _ HX.out.2.2.2.2.1).mono ?_;rintro e w3 ⟨rfl,hw⟩;have hw:=hw.symm;subst hw;cases c1 with
  |false=>
   go_wp2;go_ret;exact ⟨rfl,B2.out⟩
  |true=>
  go_wp2_with fail
  refine (aI _ _ _ _ _ HX.out.2.2.2.2.2.1).mono ?_;rintro e w3 ⟨rfl,hw⟩;have hw:=hw.symm;subst hw;cases c2 with
  |false=>
   go_wp2;go_ret;exact ⟨rfl,B2.out⟩
  |true=>
  go_wp2_with fail
  refine (aI _ _ _ _ _ HX.out.2.2.2.2.2.2).mono ?_;rintro e w3 ⟨rfl,hw⟩;have hw:=hw.symm;subst hw;cases c3 with
  |false=>
   go_wp2;go_ret;exact ⟨rfl,B2.out⟩
  |true=>
  have HO:Hid (aO (bQ X.op) X.op.m=true/\X.op.m<= 16/\kK X.op):=⟨(iH HX.out.2.2.1).1,(iH HX.out.2.2.1).2,HE.out.2.2.2.2.2.1.2.2.1⟩
  obtain ⟨bl,ol,vs9,ef3,_,_,_⟩:=HE.out.2.2.2.2.1.at (k:=0) (by have:=H6.out;omega);subst ef3;obtain ⟨WA,hWA⟩:∃ X,X=w2.alloc (.cells #[] 88):=⟨_,rfl⟩
  obtain ⟨GA,hGA⟩:∃ X,X=w2.heap.size:=⟨_,rfl⟩
  have bWA:Below w2.heap.size w2 WA:=by rw [hWA];exact aa _ _
  have G0:Hid (FS X w WA (.slice (some ⟨GA,0,none⟩) 0 0) [] (gT X.lf 0 X.nl)/\ae WA G 41 (aq X f1 X.set.n m1 f2 X.op.m m2 (some ⟨bl,ol,none⟩) X.nl m3).toArray/\Below w.heap.size w WA/\(∀ j,(Value.slice (some ⟨GA,0,none⟩) 0 0).ownBlock=some j->w.heap.size<= j/\j≠G)):=by
   refine ⟨⟨by rw [hWA,hGA];exact cI.new w w2 _ _ _ B2.out.size,rfl,by simp⟩,K2.out.below bWA,af B2.out bWA,fun j hj=>?_⟩
   have ej:GA=j:=Option.some.inj hj;have q1:=B2.out.size;have q2:=K2.out.lt;exact ⟨by omega,by omega⟩
  clear h6 y6 y7 y8 y9 y10 bWA;go_upto_region 4 with fail
  rw [<- hWA,<- hGA];clear hWA hGA K2 B2;try go_simp
  go_wp2;go_loopw [4,3] (fun i0 va wr=>∃ (ii:Nat) (P:List VL),ii<= X.nl/\i0=Vi ii/\FS X w wr va P (gT X.lf ii (X.nl-ii))/\ae wr G 41 (aq X f1 X.set.n m1 f2 X.op.m m2 (some ⟨bl,ol,none⟩) X.nl m3).toArray/\Below w.heap.size w wr/\(∀ j,va.ownBlock=some j->w.heap.size<= j/\j≠G)/\aO (fun i=>cO (X.lf i)) ii=true/\P.length<= 41*ii) (fun i0 _ _=>X.nl-(intOf i0).toNat)
  case atStart=>exact ⟨0,[],Nat.zero_le _,rfl,G0.out.1,G0.out.2.1,G0.out.2.2.1,G0.out.2.2.2,rfl,Nat.zero_le _⟩
  case round=>
   clear G0;obtain ⟨ii,P,hi0,rfl,HH⟩:=hrel;obtain ⟨av,cva,rfl,hvle,_⟩:=id HH.1.1.shape;have g6:wr.cell? ⟨G,6,none⟩=some (.slice (some ⟨bl,ol,none⟩) X.nl m3):=HH.2.1.cell 6 rfl;have g4:wr.cell? ⟨G,4,none⟩=some (Vi X.op.nx):=HH.2.1.cell 4 rfl;have g5:wr.cell? ⟨G,5,none⟩=some (.slice f2 X.op.m m2):=HH.2.1.cell 5 rfl;by_cases hlt:ii<X.nl
   ·have hi:(ii:Int)<(X.nl:Int):=by omega
    obtain ⟨b9,o9,vs,e9,_,hb9,hl9,hr9,hd9⟩:=HE.out.2.2.2.2.1.at hlt;simp only [Option.some.injEq,Addr.mk.injEq,and_true] at e9;obtain ⟨rfl,rfl⟩:=e9;obtain ⟨q1,d1,q2,d2,q3,d3,rfl,z1,z2,z3⟩:=VN.cells hd9 hl9;have HR:Hid (aV w 0 (ac (aN (X.lf ii))) (bj (X.lf ii) q1 (X.lf ii).nq d1 q2 (X.lf ii).c.q.ws.length d2 q3 (X.lf ii).c.q.bs.length d3)/\bl<w.heap.size/\w.rangeAt bl (ol+ii*17) (bj (X.lf ii) q1 (X.lf ii).nq d1 q2 (X.lf ii).c.q.ws.length d2 q3 (X.lf ii).c.q.bs.length d3)/\jF (X.lf ii)):=⟨hd9,hb9,hr9,HE.out.2.2.2.2.2.1.2.2.2.2 ii hlt⟩
    have HS0:Hid (_):=HH;have hrw:wr.rangeAt bl (ol+ii*17) (bj (X.lf ii) q1 (X.lf ii).nq d1 q2 (X.lf ii).c.q.ws.length d2 q3 (X.lf ii).c.q.bs.length d3):=ay hr9 hb9 HH.2.2.1;clear HH hb9 hl9 hr9 hd9 z1 z2 z3 g4 g5;go_wp2_with (first|(refine wpList_load_mid rfl 90 _ rfl bl (ol+ii*17) rfl (bj (X.lf ii) q1 (X.lf ii).nq d1 q2 (X.lf ii).c.q.ws.length d2 q3 (X.lf ii).c.q.bs.length d3) _ hrw underlying90 rfl (by kernel_rfl) ?_)|fail)
    refine (mH (X.lf ii) q1 d1 q2 d2 q3 d3 _ (HR.out.1.below HS0.out.2.2.1) HR.out.2.2.2).mono ?_;rintro e w4 ⟨rfl,b4⟩;obtain ⟨y,hy⟩:∃ y,cO (X.lf ii)=y:=⟨_,rfl⟩
    rw [hy];have HY4:Hid (cO (X.lf ii)=y/\Below wr.heap.size wr w4):=⟨hy,b4⟩
    clear b4 hy hrw g6;cases y with
    |false=>
     have H9:Hid (aO (fun i=>cO (X.lf i)) X.nl=false/\Below w.heap.size w w4):=⟨cT hlt HY4.out.1,af HS0.out.2.2.1 HY4.out.2⟩
     go_wp2;go_ret;exact ⟨by rw [<- HYC.out.2.1,H9.out.1];rfl,H9.out.2⟩
    |true=>
    have hrw:w4.rangeAt bl (ol+ii*17) (bj (X.lf ii) q1 (X.lf ii).nq d1 q2 (X.lf ii).c.q.ws.length d2 q3 (X.lf ii).c.q.bs.length d3):=ay HR.out.2.2.1 HR.out.2.1 (af HS0.out.2.2.1 HY4.out.2);have g6:w4.cell? ⟨G,6,none⟩=some (.slice (some ⟨bl,ol,none⟩) X.nl m3):=(HS0.out.2.1.below HY4.out.2).cell 6 rfl;go_wp2_with (first|(refine wpList_load_mid rfl 90 _ rfl bl (ol+ii*17) rfl (bj (X.lf ii) q1 (X.lf ii).nq d1 q2 (X.lf ii).c.q.ws.length d2 q3 (X.lf ii).c.q.bs.length d3) _ hrw underlying90 rfl (by kernel_rfl) ?_)|fail)
    refine (nR (X.lf ii) q1 d1 q2 d2 q3 d3 w _ (af HS0.out.2.2.1 HY4.out.2) HR.out.1 HR.out.2.2.2.1).mono ?_;rintro e w5 ⟨v,rfl,hC,b5⟩;obtain ⟨al,cv,rfl,hle,_⟩:=id hC;obtain ⟨LO,hLO⟩:∃ n,n=w4.heap.size:=⟨_,rfl⟩
    obtain ⟨HI,hHI⟩:∃ n,n=w5.heap.size:=⟨_,rfl⟩
    obtain ⟨nc,hnc⟩:∃ n,n=(dp (X.lf ii)).length:=⟨_,rfl⟩
    have HNC:Hid (nc=(dp (X.lf ii)).length/\cO (X.lf ii)=true):=⟨hnc,HY4.out.1⟩
    have hq41:nc<= 41:=by rw [hnc];exact rI HY4.out.1
    have b35:Below wr.heap.size wr w5:=af HY4.out.2 b5
    have HS1:Hid (FS X w w5 (.slice av P.length cva) P (eC X ii 0)/\ae w5 G 41 (aq X f1 X.set.n m1 f2 X.op.m m2 (some ⟨bl,ol,none⟩) X.nl m3).toArray/\ir w LO HI w5 9 (.slice al nc cv) nc (fun i9=>aJ (aU (X.lf ii) i9))/\Below w.heap.size w w5/\(∀ j,(Value.slice av P.length cva).ownBlock=some j->w.heap.size<= j/\j≠G/\(j<LO\/HI<= j))/\P.length<= 41*ii+0):=by
     refine ⟨by rw [rC hlt];exact HS0.out.1.below b35,HS0.out.2.1.below b35,by rw [hnc,hLO,hHI];exact hC.k,af HS0.out.2.2.1 b35,fun j hj=>?_,HS0.out.2.2.2.2.2⟩
     have q1:=HS0.out.2.2.2.1 j hj;have q2:=(HS0.out.1.1.lt hj).2;have q3:=HY4.out.2.size;exact ⟨q1.1,q1.2,.inl (by omega)⟩
    have HAL:Hid (aO (fun i=>cO (X.lf i)) (ii+1)=true):=cL HS0.out.2.2.2.2.1 HY4.out.1;rw [<- hnc];rw [<- hnc] at hle;clear hC b5 b35 hrw g6 HS0 HY4 hLO hHI hnc;go_wp2;go_loopw [6,3] (fun k0 va wr=>∃ (k:Nat) (P:List VL),k<= nc/\k0=Vi k/\FS X w wr va P (eC X ii k)/\ae wr G 41 (aq X f1 X.set.n m1 f2 X.op.m m2 (some ⟨bl,ol,none⟩) X.nl m3).toArray/\ir w LO HI wr 9 (.slice al nc cv) nc (fun i9=>aJ (aU (X.lf ii) i9))/\Below w.heap.size w wr/\(∀ j,va.ownBlock=some j->w.heap.size<= j/\j≠G/\(j<LO\/HI<= j))/\P.length<= 41*ii+k) (fun k0 _ _=>nc-(intOf k0).toNat)
    case atStart=>exact ⟨0,P,Nat.zero_le _,rfl,HS1.out⟩
    case round=>
     clear HS1;obtain ⟨k,P,hk0,rfl,HH⟩:=hrel;obtain ⟨av,ca,ev,hvle,_⟩:=id HH.1.1.shape;subst ev;by_cases hlj:k<nc
     ·have hi2:(k:Int)<(nc:Int):=by omega
      obtain ⟨gl,o1,vs,rfl,hg1,hvl,hr,hrd⟩:=HH.2.2.1.at hlj;obtain ⟨e1,k1,e2,k2,rfl,z1,z2⟩:=VL.cells hrd hvl;obtain ⟨wq,hwq⟩:∃ x,x=wr:=⟨_,rfl⟩
      rw [<- hwq] at HH hg1 hr;have HC9:Hid (aV w 0 (ac (aJ (aU (X.lf ii) k))) (bh (aU (X.lf ii) k) e1 (aU (X.lf ii) k).q.ws.length k1 e2 (aU (X.lf ii) k).q.bs.length k2)):=hrd;have HS:Hid (FS X w wq (.slice av P.length ca) P (eC X ii k)/\True/\ir w LO HI wq 9 (.slice (some ⟨gl,o1,none⟩) nc cv) nc (fun i9=>aJ (aU (X.lf ii) i9))/\Below w.heap.size w wq):=⟨HH.1,trivial,HH.2.2.1,HH.2.2.2.1⟩
      have HOW:Hid ((∀ j,(Value.slice av P.length ca).ownBlock=some j->w.heap.size<= j/\j≠G/\(j<LO\/HI<= j))/\P.length<= 41*ii+k):=HH.2.2.2.2;have HZ0:Hid (ae wq G 41 (aq X f1 X.set.n m1 f2 X.op.m m2 (some ⟨bl,ol,none⟩) X.nl m3).toArray):=HH.2.1;have HV:Hid (gl<wq.heap.size/\wq.rangeAt gl (o1+k*9) (bh (aU (X.lf ii) k) e1 (aU (X.lf ii) k).q.ws.length k1 e2 (aU (X.lf ii) k).q.bs.length k2)/\cV (aU (X.lf ii) k).q/\Rd w 0 (aw (aU (X.lf ii) k).q.ws) (.slice e1 (aU (X.lf ii) k).q.ws.length k1)/\Rd w 0 (ai (aU (X.lf ii) k).q.bs) (.slice e2 (aU (X.lf ii) k).q.bs.length k2)/\0<= (aU (X.lf ii) k).pa):=⟨hg1,hr,rD HR.out.2.2.2 (by have:=HNC.out.1;omega),z1,z2,oVpa HNC.out.2 (by have:=HNC.out.1;omega)⟩
      have hpl:P.length<= 1000:=by have:=HH.2.2.2.2.2;omega
      clear HH hg1 hvl hr hrd z1 z2;go_wp2;go_loopw [7] (fun n0 wr=>∃ (n:Nat),n<= P.length/\n0=Vi n/\(∀ m,m<n->¬ ((P.getD m default).id=(aU (X.lf ii) k).id/\(P.getD m default).pa=(aU (X.lf ii) k).pa))/\Below wq.heap.size wq wr) (fun n0 _=>P.length-(intOf n0).toNat)
      case atStart=>exact ⟨0,Nat.zero_le _,rfl,fun m hm=>by omega,by rw [hwq];exact Br⟩
      case round=>
       clear hwq;obtain ⟨n,hn0,rfl,hno,hby⟩:=hrel;have HNO:Hid ((∀ m,m<n->¬ ((P.getD m default).id=(aU (X.lf ii) k).id/\(P.getD m default).pa=(aU (X.lf ii) k).pa))/\Below wq.heap.size wq wr):=⟨hno,hby⟩
       clear hno hby;by_cases hn9:n<P.length
       ·have hi3:(n:Int)<(P.length:Int):=by omega
        obtain ⟨ga,ca',vs,eav,_,hga,hvl,hr,hrd⟩:=(HS.out.1.1.below HNO.out.2).at hn9;simp only [Value.slice.injEq,and_true,true_and] at eav;obtain ⟨rfl,rfl⟩:=eav;obtain ⟨PE,hPE⟩:∃ c,P.getD n default=c:=⟨_,rfl⟩
        rw [hPE] at hrd;have HPE:Hid (P.getD n default=PE):=hPE;clear hPE;obtain ⟨r1,s1,r2,s2,rfl,_,_⟩:=VL.cells hrd hvl;have HN:Hid (ga<wr.heap.size/\wr.rangeAt ga (n*9) (bh PE r1 PE.q.ws.length s1 r2 PE.q.bs.length s2)):=⟨hga,hr⟩
        have HL:Hid (gl<wr.heap.size/\wr.rangeAt gl (o1+k*9) (bh (aU (X.lf ii) k) e1 (aU (X.lf ii) k).q.ws.length k1 e2 (aU (X.lf ii) k).q.bs.length k2)):=⟨Nat.lt_of_lt_of_le HV.out.1 HNO.out.2.size,ay HV.out.2.1 HV.out.1 HNO.out.2⟩
        obtain ⟨x0,hx0⟩:∃ x,(PE.id == (aU (X.lf ii) k).id)=x:=⟨_,rfl⟩
        obtain ⟨x1,hx1⟩:∃ x,(PE.pa == (aU (X.lf ii) k).pa)=x:=⟨_,rfl⟩
        have HT:Hid ((PE.id == (aU (X.lf ii) k).id)=x0/\(PE.pa == (aU (X.lf ii) k).pa)=x1):=⟨hx0,hx1⟩
        clear hga hvl hr hrd hx0 hx1;go_upto_region 16 with fail
        try go_simp
        refine wp_region_any (by kernel_rfl) ?_
        refine bw (fun u=>Below wr.heap.size wr u) (fun i v u=>match i with
         |0=>v=.slice (some ⟨ga,0,none⟩) P.length ca
         |1=>v=Vi (n:Int)
         |2=>v=Vp ga (n*9)
         |3=>v=Vp ga (n*9)
         |4=>v=Vi PE.id
         |5=>v=.slice (some ⟨gl,o1,none⟩) nc cv
         |6=>v=Vi (k:Int)
         |7=>v=Vp gl (o1+k*9)
         |8=>v=Vp gl (o1+k*9)
         |9=>v=Vi (aU (X.lf ii) k).id
         |10=>v=.bool x0
         |11=>v=.bool x0
         |12=>v=cond x0 (.slice (some ⟨ga,0,none⟩) P.length ca) undef
         |13=>v=cond x0 (Vi (n:Int)) undef
         |14=>v=cond x0 (Vp ga (n*9)) undef
         |15=>v=cond x0 (Vp ga (n*9+1)) undef
         |16=>v=cond x0 (Vi PE.pa) undef
         |17=>v=cond x0 (.slice (some ⟨gl,o1,none⟩) nc cv) undef
         |18=>v=cond x0 (Vi (k:Int)) undef
         |19=>v=cond x0 (Vp gl (o1+k*9)) undef
         |20=>v=cond x0 (Vp gl (o1+k*9+1)) undef
         |21=>v=cond x0 (Vi (aU (X.lf ii) k).pa) undef
         |22=>v=cond x0 (.bool x1) undef
         |23=>v=cond x0 (.bool x1) (.bool false)
         |_=>v=undef) (by kernel_rfl) (by kernel_rfl) (fun _ _ _ _ h _=>h) (by first|exact Br|exact Br.drew) ?_ ?_ _ _ rfl (by decide) (fun i=>by simp [Array.getD];try (split <;> rfl))
        ·intro vs u hR hall
         simp only [bI];cases x0
         ·have e23:vs 23=.bool false:=hall 23 (by simp)
          rw [e23];clear hall e23;have RB:Hid (Below wr.heap.size wr u):=hR;have HT2:Hid (¬ ((P.getD n default).id=(aU (X.lf ii) k).id/\(P.getD n default).pa=(aU (X.lf ii) k).pa)):=by show ¬ _;rw [HPE.out];rintro ⟨h1,h2⟩;have h9:=HT.out.1;rw [h1] at h9;simp at h9
          clear HT HN HL hR;try go_simp
          go_wp2;go_roundw
          case rel=>exact ⟨n+1,by omega,by go_num,(fun m hm=>by by_cases e:m=n;(subst e;exact HT2.out);(exact HNO.out.1 m (by omega))),af HNO.out.2 RB.out⟩
          case measure=>simp [intOf];omega
         cases x1
         ·have e23:vs 23=.bool false:=hall 23 (by simp)
          rw [e23];clear hall e23;have RB:Hid (Below wr.heap.size wr u):=hR;have HT2:Hid (¬ ((P.getD n default).id=(aU (X.lf ii) k).id/\(P.getD n default).pa=(aU (X.lf ii) k).pa)):=by show ¬ _;rw [HPE.out];rintro ⟨h1,h2⟩;have h9:=HT.out.2;rw [h2] at h9;simp at h9
          clear HT HN HL hR;try go_simp
          go_wp2;go_roundw
          case rel=>exact ⟨n+1,by omega,by go_num,(fun m hm=>by by_cases e:m=n;(subst e;exact HT2.out);(exact HNO.out.1 m (by omega))),af HNO.out.2 RB.out⟩
          case measure=>simp [intOf];omega
         have e23:vs 23=.bool true:=hall 23 (by simp);rw [e23];clear hall e23;have H9:Hid (cw X=false/\Below w.heap.size w u):=⟨by rw [jt HO.out.1,HS.out.1.2.1,jr (by have:=HNC.out.1;omega),wV (c:=gH ii (aU (X.lf ii) k)) (inKy (a:=(aU (X.lf ii) k).id) (b:=(aU (X.lf ii) k).pa) hn9 (by rw [HPE.out];simpa using HT.out.1) (by rw [HPE.out];simpa using HT.out.2)),Bool.false_and],af (af HS.out.2.2.2 HNO.out.2) hR⟩
         clear HT HN HL hR;try go_simp
         go_wp2;go_ret;exact ⟨by rw [<- HYC.out.2.2,H9.out.1];simp,H9.out.2⟩
        intro u i o ρ hR ho hρ hc hf hd
        have hi:i<24:=by
         have:=(Array.getElem?_eq_some_iff.1 ho).1;simpa using this
        obtain rfl|rfl|rfl|rfl|rfl|rfl|rfl|rfl|rfl|rfl|rfl|rfl|rfl|rfl|rfl|rfl|rfl|rfl|rfl|rfl|rfl|rfl|rfl|rfl:i=0\/i=1\/i=2\/i=3\/i=4\/i=5\/i=6\/i=7\/i=8\/i=9\/i=10\/i=11\/i=12\/i=13\/i=14\/i=15\/i=16\/i=17\/i=18\/i=19\/i=20\/i=21\/i=22\/i=23:=by omega
        all_goals (simp only [List.getElem?_toArray,List.getElem?_cons_zero,List.getElem?_cons_succ,Option.some.injEq] at ho;subst ho)
        ·exact yr rfl (hρ 3 (by kernel_rfl)) hR
        ·exact yr rfl (hρ 7 (by kernel_rfl)) hR
        ·exact yr (au rfl (dq hd 0 87) (dq hd 1 88) (by go_simp)) rfl hR
        ·exact yr (ao rfl (dq hd 2 89) (by go_simp)) rfl hR
        ·have y9:u.cell? ⟨ga,n*9,none⟩=some (Vi PE.id):=(ay HN.out.2 HN.out.1 hR) 0 _ rfl
         exact yr (ah rfl (dq hd 3 90) (by go_simp)) rfl hR
        ·exact yr rfl (hρ 5 (by kernel_rfl)) hR
        ·exact yr rfl (hρ 6 (by kernel_rfl)) hR
        ·exact yr (au rfl (dq hd 5 92) (dq hd 6 93) (by go_simp)) rfl hR
        ·exact yr (ao rfl (dq hd 7 94) (by go_simp)) rfl hR
        ·have y9:u.cell? ⟨gl,o1+k*9,none⟩=some (Vi (aU (X.lf ii) k).id):=(ay HL.out.2 HL.out.1 hR) 0 _ rfl
         exact yr (ah rfl (dq hd 8 95) (by go_simp)) rfl hR
        ·cases x0
         ·have t0:(PE.id == (aU (X.lf ii) k).id)=false:=HT.out.1
          exact yr (aG rfl (dq hd 4 91) (dq hd 9 96) (by go_simp)) rfl hR
         have t0:(PE.id == (aU (X.lf ii) k).id)=true:=HT.out.1;exact yr (aG rfl (dq hd 4 91) (dq hd 9 96) (by go_simp)) rfl hR
        ·exact yr rfl (dq hd 10 97) hR
        ·cases x0
         ·exact aj (.bool false) hd 11 98
         exact yq hd 11 98 rfl (hρ 3 (by kernel_rfl)) hR
        ·cases x0
         ·exact aj (.bool false) hd 11 98
         exact yq hd 11 98 rfl (hρ 7 (by kernel_rfl)) hR
        ·cases x0
         ·exact aj (.bool false) hd 11 98
         exact yq hd 11 98 (au rfl (dq hd 12 99) (dq hd 13 100) (by go_simp)) rfl hR
        ·cases x0
         ·exact aj (.bool false) hd 11 98
         exact yq hd 11 98 (ao rfl (dq hd 14 101) (by go_simp)) rfl hR
        ·cases x0
         ·exact aj (.bool false) hd 11 98
         have y9:=(ay HN.out.2 HN.out.1 hR) 1 _ rfl;exact yq hd 11 98 (ah rfl (dq hd 15 102) (by go_simp)) rfl hR
        ·cases x0
         ·exact aj (.bool false) hd 11 98
         exact yq hd 11 98 rfl (hρ 5 (by kernel_rfl)) hR
        ·cases x0
         ·exact aj (.bool false) hd 11 98
         exact yq hd 11 98 rfl (hρ 6 (by kernel_rfl)) hR
        ·cases x0
         ·exact aj (.bool false) hd 11 98
         exact yq hd 11 98 (au rfl (dq hd 17 104) (dq hd 18 105) (by go_simp)) rfl hR
        ·cases x0
         ·exact aj (.bool false) hd 11 98
         exact yq hd 11 98 (ao rfl (dq hd 19 106) (by go_simp)) rfl hR
        ·cases x0
         ·exact aj (.bool false) hd 11 98
         have y9:=(ay HL.out.2 HL.out.1 hR) 1 _ rfl;exact yq hd 11 98 (ah rfl (dq hd 20 107) (by go_simp)) rfl hR
        ·cases x0
         ·exact aj (.bool false) hd 11 98
         cases x1
         ·have t1:(PE.pa == (aU (X.lf ii) k).pa)=false:=HT.out.2
          exact yq hd 11 98 (aG rfl (dq hd 16 103) (dq hd 21 108) (by go_simp)) rfl hR
         have t1:(PE.pa == (aU (X.lf ii) k).pa)=true:=HT.out.2;exact yq hd 11 98 (aG rfl (dq hd 16 103) (dq hd 21 108) (by go_simp)) rfl hR
        cases x0
        ·exact yr (aC rfl (dq hd 11 98)) (by simpa using hc _) hR
        exact yr (aC rfl (dq hd 11 98)) (by simpa using (dq hd 22 109)) hR
       have hi3:¬ (n:Int)<(P.length:Int):=by omega
       have HN3:Hid (fe (P.map (fun c=>(c.id,c.pa))) (gH ii (aU (X.lf ii) k)).1 (gH ii (aU (X.lf ii) k)).2.1=false):=wX (fun m hm=>HNO.out.1 m (by omega));have HY:Hid (Below wq.heap.size wq wr):=HNO.out.2;obtain ⟨wy,hwy⟩:∃ x,x=wr:=⟨_,rfl⟩
       rw [<- hwy] at HY;have HZ:Hid (ae wy G 41 (aq X f1 X.set.n m1 f2 X.op.m m2 (some ⟨bl,ol,none⟩) X.nl m3).toArray/\Rd w 0 (.list 13 X.op.m (fun i=>ac (dT (X.op.f i)))) (.slice f2 X.op.m m2)/\0<= (aU (X.lf ii) k).pa/\cV (aU (X.lf ii) k).q):=⟨HZ0.out.below HY.out,HE.out.2.2.2.1,HV.out.2.2.2.2.2,HV.out.2.2.1⟩
       have HL:Hid (gl<wy.heap.size/\wy.rangeAt gl (o1+k*9) (bh (aU (X.lf ii) k) e1 (aU (X.lf ii) k).q.ws.length k1 e2 (aU (X.lf ii) k).q.bs.length k2)/\(Rd w 0 (aw (aU (X.lf ii) k).q.ws) (.slice e1 (aU (X.lf ii) k).q.ws.length k1)/\Rd w 0 (ai (aU (X.lf ii) k).q.bs) (.slice e2 (aU (X.lf ii) k).q.bs.length k2))/\Below w.heap.size w wy):=⟨Nat.lt_of_lt_of_le HV.out.1 HY.out.size,ay HV.out.2.1 HV.out.1 HY.out,⟨HV.out.2.2.2.1,HV.out.2.2.2.2.1⟩,af HS.out.2.2.2 HY.out⟩
       obtain ⟨x,hx⟩:∃ x,fc (cW X.op X.op.m) (gH ii (aU (X.lf ii) k))=x:=⟨_,rfl⟩
       have HT:Hid (fc (cW X.op X.op.m) (gH ii (aU (X.lf ii) k))=x):=hx;clear HNO hx;go_upto_region 18 with fail
       rw [<- hwy];clear hwy;try go_simp
       refine wp_region_any (by kernel_rfl) ?_
       refine bw (fun u=>Below wy.heap.size wy u) (fun i v u=>match i with
        |0=>v=.agg (aq X f1 X.set.n m1 f2 X.op.m m2 (some ⟨bl,ol,none⟩) X.nl m3).toArray
        |1=>v=Vi (ii:Int)
        |2=>v=.slice (some ⟨gl,o1,none⟩) nc cv
        |3=>v=Vi (k:Int)
        |4=>v=Vp gl (o1+k*9)
        |5=>v=.agg (bh (aU (X.lf ii) k) e1 (aU (X.lf ii) k).q.ws.length k1 e2 (aU (X.lf ii) k).q.bs.length k2).toArray
        |6=>v=.bool x
        |7=>v=.bool (!x)
        |_=>v=undef) (by kernel_rfl) (by kernel_rfl) (fun _ _ _ _ h _=>h) (by first|exact Br|exact Br.drew) ?_ ?_ _ _ rfl (by decide) (fun i=>by simp [Array.getD];try (split <;> rfl))
       ·intro vs u hR hall
        simp only [bI];cases x
        ·have e7:vs 7=.bool true:=hall 7 (by simp)
         rw [e7];clear hall e7;have H9:Hid (cw X=false/\Below w.heap.size w u):=⟨by rw [jt HO.out.1,HS.out.1.2.1,jr (by have:=HNC.out.1;omega),wW (c:=gH ii (aU (X.lf ii) k)) HT.out,Bool.false_and],af HL.out.2.2.2 hR⟩
         clear HT HL hR;try go_simp
         go_wp2;go_ret;exact ⟨by rw [<- HYC.out.2.2,H9.out.1];simp,H9.out.2⟩
        have e7:vs 7=.bool false:=hall 7 (by simp);rw [e7];clear hall e7;have RB:Hid (Below wy.heap.size wy u):=hR;clear hR;try go_simp
        obtain ⟨W',hW'⟩:∃ z9,z9=u.alloc (.cells (bh (aU (X.lf ii) k) e1 (aU (X.lf ii) k).q.ws.length k1 e2 (aU (X.lf ii) k).q.bs.length k2).toArray 88):=⟨_,rfl⟩
        obtain ⟨H',hH'⟩:∃ z9,z9=u.heap.size:=⟨_,rfl⟩
        have bW':Below u.heap.size u W':=by rw [hW'];exact aa _ _
        have kc:ae W' H' 88 (bh (aU (X.lf ii) k) e1 (aU (X.lf ii) k).q.ws.length k1 e2 (aU (X.lf ii) k).q.bs.length k2).toArray:=by rw [hW',hH'];exact ae.new _ _ _
        have hwu:Below wq.heap.size wq u:=af HY.out RB.out;have hbu:Below w.heap.size w u:=af HS.out.2.2.2 hwu;have hin:((prog.info? 88).map (fun i=>(i.zero,i.size,i.bytes)))=some (some (.agg #[Vi 0,Vi 0,Vi 0,Vi 0,Vi 0,Vi 0,Zs,Zs,Vi 0]),9,104):=by kernel_rfl
        obtain ⟨v1,w1,hrun1,mm1,mm2,mm3,mm4⟩:=(((HS.out.1.below hwu).1.below bW').congr (f':=fun i9=>aJ ((P++[(aU (X.lf ii) k)]).getD i9 default)) (fun j hj=>by rw [rK hj])).app1 85 85 104 (.agg #[Vi 0,Vi 0,Vi 0,Vi 0,Vi 0,Vi 0,Zs,Zs,Vi 0]) underlying85 hin rfl (by decide) (by decide) H' 1 (bh (aU (X.lf ii) k) e1 (aU (X.lf ii) k).q.ws.length k1 e2 (aU (X.lf ii) k).q.bs.length k2) rfl (fun j u hu=>kc.cell j (by simpa using hu)) (by rw [oT];exact HC9.out) (af hbu bW') (jp HC9.out rfl) (by omega);have HA1:pH W' (.slice av P.length ca) (.slice (some ⟨H',0,none⟩) 1 1) v1 w1:=hrun1
        have HF:Hid (FS X w w1 v1 (P++[(aU (X.lf ii) k)]) (eC X ii (k+1))/\ae w1 G 41 (aq X f1 X.set.n m1 f2 X.op.m m2 (some ⟨bl,ol,none⟩) X.nl m3).toArray/\ir w LO HI w1 9 (.slice (some ⟨gl,o1,none⟩) nc cv) nc (fun i9=>aJ (aU (X.lf ii) i9))/\Below w.heap.size w w1/\(∀ j,v1.ownBlock=some j->w.heap.size<= j/\j≠G/\(j<LO\/HI<= j))/\(P++[(aU (X.lf ii) k)]).length<= 41*ii+(k+1)):=by
         refine ⟨⟨by rw [List.length_append];exact mm1,?_,?_⟩,?_,?_,mm2,fun j hj=>?_,?_⟩
         ·rw [HS.out.1.2.1,jr (by have:=HNC.out.1;omega),xx (c:=gH ii (aU (X.lf ii) k)) HN3.out HT.out,tv]
          rfl
         ·have:=HS.out.1.2.2
          rw [jr (by have:=HNC.out.1;omega),List.length_cons] at this;rw [List.length_append,List.length_singleton];omega
         ·exact (((HZ0.out.below hwu).below bW').grown mm3 (fun e=>(HOW.out.1 G e).2.1 rfl))
         ·exact ((HS.out.2.2.1.below hwu).below bW').kept mm3 (fun j hj=>⟨(HOW.out.1 j hj).1,(HOW.out.1 j hj).2.2⟩)
         ·rcases mm4 with mm4|mm4 <;> rw [mm4] at hj
          ·exact HOW.out.1 j hj
          obtain rfl:=Option.some.inj hj;have q1:=(af hbu bW').size;have q2:=HS.out.2.2.1.1;have q3:=(af hwu bW').size;have q4:=HZ0.out.lt;exact ⟨q1,by have:=hwu.size;omega,.inr (by omega)⟩
         rw [List.length_append,List.length_singleton];have:=HOW.out.2;omega
        have hru:u.rangeAt gl (o1+k*9) (bh (aU (X.lf ii) k) e1 (aU (X.lf ii) k).q.ws.length k1 e2 (aU (X.lf ii) k).q.bs.length k2):=ay HL.out.2.1 HL.out.1 RB.out;have i0:u.cell? ⟨gl,o1+k*9,none⟩=_:=hru 0 _ rfl;have i1:=hru 1 _ rfl;have i2:=hru 2 _ rfl;have i3:=hru 3 _ rfl;have i4:=hru 4 _ rfl;have i5:=hru 5 _ rfl;have i6:=hru 6 _ rfl;have i7:=hru 7 _ rfl;have i8:=hru 8 _ rfl;clear hru mm1 mm2 mm3 mm4 hrun1 kc hin hbu hwu bW' HT HL RB;go_upto_region 12 with (first|(rw [<- hW',<- hH'];at_builtin;refine gv rfl _ _ rfl rfl _ _ _ rfl rfl HA1 ?_))
        clear hW' hH' i0 i1 i2 i3 i4 i5 i6 i7 i8;try go_simp
        go_wp2;go_roundw
        case rel=>exact ⟨k+1,P++[(aU (X.lf ii) k)],by omega,by go_num,HF.out⟩
        case measure=>simp [intOf];omega
       intro u i o ρ hR ho hρ hc hf hd
       have hi:i<8:=by
        have:=(Array.getElem?_eq_some_iff.1 ho).1;simpa using this
       obtain rfl|rfl|rfl|rfl|rfl|rfl|rfl|rfl:i=0\/i=1\/i=2\/i=3\/i=4\/i=5\/i=6\/i=7:=by omega
       all_goals (simp only [List.getElem?_toArray,List.getElem?_cons_zero,List.getElem?_cons_succ,Option.some.injEq] at ho;subst ho)
       ·have s1:ρ (.tmp 1)=Vp G 0:=(hρ 1 (by kernel_rfl)).trans rfl
        have hr:(Instr.loadAt 41 (Vp G 0)).run prog u=.ok (.agg (aq X f1 X.set.n m1 f2 X.op.m m2 (some ⟨bl,ol,none⟩) X.nl m3).toArray) u:=run_loadAt_mid u G (0) 41 (aq X f1 X.set.n m1 f2 X.op.m m2 (some ⟨bl,ol,none⟩) X.nl m3) _ (HZ.out.1.below hR).rng underlying41 rfl (by kernel_rfl);exact yr (ah rfl s1 hr) rfl hR
       ·exact yr rfl (hρ 4 (by kernel_rfl)) hR
       ·exact yr rfl (hρ 5 (by kernel_rfl)) hR
       ·exact yr rfl (hρ 6 (by kernel_rfl)) hR
       ·exact yr (au rfl (dq hd 2 113) (dq hd 3 114) (by go_simp)) rfl hR
       ·have h4:_=_:=dq hd 4 115
        have hr:(Instr.loadAt 88 (Vp gl (o1+k*9))).run prog u=.ok (.agg (bh (aU (X.lf ii) k) e1 (aU (X.lf ii) k).q.ws.length k1 e2 (aU (X.lf ii) k).q.bs.length k2).toArray) u:=run_loadAt_mid u gl (o1+k*9) 88 (bh (aU (X.lf ii) k) e1 (aU (X.lf ii) k).q.ws.length k1 e2 (aU (X.lf ii) k).q.bs.length k2) _ (ay HL.out.2.1 HL.out.1 hR) underlying88 rfl (by kernel_rfl);exact yr (ah rfl h4 hr) rfl hR
       ·have h0:_=_:=dq hd 0 111
        have h1:_=_:=dq hd 1 112;have h5:_=_:=dq hd 5 116;refine .inl ⟨rfl,.inr ⟨_,_,bv rfl (hf _) (args:=#[.agg (aq X f1 X.set.n m1 f2 X.op.m m2 (some ⟨bl,ol,none⟩) X.nl m3).toArray,Vi (ii:Int),.agg (bh (aU (X.lf ii) k) e1 (aU (X.lf ii) k).q.ws.length k1 e2 (aU (X.lf ii) k).q.bs.length k2).toArray]) (by simp [h0,h1,h5]) (by kernel_rfl),?_⟩⟩;refine (oR X (aU (X.lf ii) k) ii f1 m1 f2 m2 (some ⟨bl,ol,none⟩) m3 e1 k1 e2 k2 _ (HZ.out.2.1.below (af HL.out.2.2.2 hR)) (HL.out.2.2.1.1.below (af HL.out.2.2.2 hR)) (HL.out.2.2.1.2.below (af HL.out.2.2.2 hR)) HO.out.1 HO.out.2.1 HZ.out.2.2.1 HO.out.2.2 HZ.out.2.2.2).mono ?_;rintro e u' ⟨he,b'⟩;exact ⟨_,he.trans (by rw [HT.out] <;> rfl),rfl,af hR b',b'⟩
       exact yr (bT rfl (dq hd 6 117) (by go_simp)) rfl hR
     have hi2:¬ (k:Int)<(nc:Int):=by omega
     have e9:k=(dp (X.lf ii)).length:=by have:=HNC.out.1;omega
     have HK:Hid (FS X w wr (.slice av P.length ca) P (gT X.lf (ii+1) (X.nl-(ii+1)))/\ae wr G 41 (aq X f1 X.set.n m1 f2 X.op.m m2 (some ⟨bl,ol,none⟩) X.nl m3).toArray/\Below w.heap.size w wr/\(∀ j,(Value.slice av P.length ca).ownBlock=some j->w.heap.size<= j/\j≠G)/\aO (fun i=>cO (X.lf i)) (ii+1)=true/\P.length<= 41*(ii+1)):=⟨by have:=HH.1;rw [e9,nL] at this;exact this,HH.2.1,HH.2.2.2.1,fun j hj=>⟨(HH.2.2.2.2.1 j hj).1,(HH.2.2.2.2.1 j hj).2.1⟩,HAL.out,by have:=HH.2.2.2.2.2;omega⟩
     clear HH e9;go_wp2;go_roundw
     case rel=>exact ⟨ii+1,P,by omega,by go_num,HK.out⟩
     case measure=>simp [intOf];omega
   have hi:¬ (ii:Int)<(X.nl:Int):=by omega
   have e9:X.nl-ii=0:=by omega
   have e8:ii=X.nl:=by omega
   have HK:Hid (aO (fun i=>cO (X.lf i)) X.nl=true/\cw X=decide (P.length=im X.op X.op.m)/\Below w.heap.size w wr/\eB X.op=true):=by
    refine ⟨by rw [<- e8];exact HH.2.2.2.2.1,?_,HH.2.2.1,HX.out.2.2.1⟩
    have q1:=HH.1.2.1;have q2:=HH.1.2.2;rw [e9] at q1 q2;rw [jt HO.out.1,q1,<- q2,pC];show (true && decide (P.length+0=_))=_;rw [Bool.true_and,Nat.add_zero]
   have HT:Hid (iq wr X.op f2 m2):=⟨HE.out.2.2.2.1.below HH.2.2.1,HO.out.2.2⟩
   clear HH e9 e8;go_wp2_with fail
   refine (kS X.op f2 m2 _ HT.out).mono ?_;rintro e w4 ⟨rfl,b4⟩;rw [HK.out.2.2.2];have B4:Hid (Below w.heap.size w w4):=af HK.out.2.2.1 b4;clear b4 g4 g5 g6 HT;have HF9:Hid (yl=true/\yc=decide (P.length=im X.op X.op.m)):=⟨by rw [<- HYC.out.2.1];exact HK.out.1,by rw [<- HYC.out.2.2];exact HK.out.2.1⟩
   by_cases ew:P.length=im X.op X.op.m
   ·have hw9:((P.length:Int) == (im X.op X.op.m:Int))=true:=by simp [ew]
    have H8:Hid (yc=true):=by show yc=true;rw [HF9.out.2,decide_eq_true ew]
    clear ew;go_wp2;go_ret;exact ⟨by rw [HF9.out.1,H8.out];rfl,B4.out⟩
   have hw9:((P.length:Int) == (im X.op X.op.m:Int))=false:=by simp;omega
   have H8:Hid (yc=false):=by show yc=false;rw [HF9.out.2,decide_eq_false ew]
   clear ew;go_wp2;go_ret;exact ⟨by rw [HF9.out.1,H8.out];rfl,B4.out⟩
 |false=>
  have e6:¬ X.nl=6:=of_decide_eq_false HYC.out.1;have h6:((X.nl:Int) != 6)=true:=by simp;omega
  clear e6;go_wp2;go_ret;exact ⟨rfl,B2.out⟩
theorem oU(n:Nat)(f:Nat->VA)(a:OA)(n' c s:Nat)(x:Int)(w:World)(hx:x=((s:Nat):Int))(h:Rd w 0 (.list 6 n (fun i=>ac (aT (dA (s+ag i (fun i=>bS (f i))) (f i))))) (.slice a n' c))(hB:s+ag n (fun i=>bS (f i))<= 1125899906842624):
 Calls prog 117 #[.slice a n' c,Vi x] w fun e w'=>e=.returned (Vi ((s+ag n (fun i=>bS (f i)):Nat):Int))/\w'=w:=by
 subst hx;obtain ⟨a9,c9,h9,-,hm⟩:=h.shape;simp only [Value.slice.injEq] at h9;obtain ⟨-,rfl,-⟩:=h9;clear a9 c9;unfold maxLen at hm;have HH:Hid (Rd w 0 (.list 6 n' (fun i=>ac (aT (dA (s+ag i (fun i=>bS (f i))) (f i))))) (.slice a n' c)/\s+ag n' (fun i=>bS (f i))<= 1125899906842624):=⟨h,hB⟩
 clear h hB;go_enter func117,ntmps117
 go_wp2;go_loopw [1,5] (fun kv i wr=>∃ z:Nat,z<= n'/\i=Vi z/\kv=Vi ((s+ag z (fun i=>bS (f i)):Nat):Int)/\wr=w) (fun _ i _=>n'-(intOf i).toNat)
 case atStart=>exact ⟨0,Nat.zero_le _,rfl,rfl,rfl⟩
 case round=>
  obtain ⟨z,hz,rfl,rfl,hw⟩:=hrel;subst hw;by_cases hlt:z<n'
  ·have hi:(z:Int)<(n':Int):=by omega
   obtain ⟨kk,hkk⟩:∃ kk,kk=s+ag z (fun i=>bS (f i)):=⟨_,rfl⟩
   rw [<- hkk];have HC:Hid (bS (f z)=1+1+1+1+(f z).ws.length+(f z).bs.length/\True):=⟨rfl,trivial⟩
   have HK0:Hid (kk=s+ag z (fun i=>bS (f i))/\kk+bS (f z)<= 1125899906842624/\s+ag (z+1) (fun i=>bS (f i))=kk+bS (f z)):=⟨hkk,by have h7:=dD (g:=(fun i=>bS (f i))) hlt;have h8:=HH.out.2;omega,by rw [hkk];simp only [ag];omega⟩
   obtain ⟨b,off,vs,rfl,_,hb0,hlen,hr,hrd⟩:=HH.out.1.at hlt;rw [<- hkk] at hrd;obtain ⟨a1,c1,a2,c2,rfl,r1,r2⟩:=VA.cells hrd hlen;have HR:Hid (wr.rangeAt b (off+z*6) (aL (dA kk (f z)) a1 ((dA kk (f z)).ws.length) c1 a2 ((dA kk (f z)).bs.length) c2)/\Rd wr 0 (aw (dA kk (f z)).ws) (.slice a1 ((dA kk (f z)).ws.length) c1)/\Rd wr 0 (ai (dA kk (f z)).bs) (.slice a2 ((dA kk (f z)).bs.length) c2)):=⟨hr,r1,r2⟩
   clear hlen hrd hr hb0 hkk r1 r2;have d0:=hdI0 HR.out.1 (kk) (((kk:Int)));have v0:=wrI0 kk (by have:=HC.out;have:=HK0.out;omega)
   have d1:=hdI HR.out.1 1 (kk+1) (((kk:Int)+1));have v1:=wrI kk 1 2 (by have:=HC.out;have:=HK0.out;omega)
   have d2:=hdI HR.out.1 2 (kk+1+1) (((kk:Int)+2));have v2:=wrI kk 2 3 (by have:=HC.out;have:=HK0.out;omega)
   have d3:=hdI HR.out.1 3 (kk+1+1+1) (((kk:Int)+3));have v3:=wrI kk 3 4 (by have:=HC.out;have:=HK0.out;omega)
   have d4:wr.cell? ⟨b,off+z*6+4,none⟩=some (.slice a1 ((dA kk (f z)).ws.length) c1):=HR.out.1 4 _ rfl;go_wp2_with fail
   refine (fK (f z).ws.length a1 _ c1 (kk+1+1+1+1) _ _ (by have:=HC.out;have:=HK0.out;omega) HR.out.2.1 (by have:=HC.out;have:=HK0.out;omega)).mono ?_;rintro e w9 ⟨rfl,hw⟩;have hw:=hw.symm;subst hw;obtain ⟨k1,hk1⟩:∃ k1:Nat,k1=kk+1+1+1+1+(f z).ws.length:=⟨_,rfl⟩
   rw [<- hk1];have HK1:Hid (k1=kk+1+1+1+1+(f z).ws.length):=hk1;have nn1:¬ ((k1:Int)<0):=by omega
   clear hk1;have d5:wr.cell? ⟨b,off+z*6+5,none⟩=some (.slice a2 ((dA kk (f z)).bs.length) c2):=HR.out.1 5 _ rfl;go_wp2_with fail
   refine (ez (f z).bs.length a2 _ c2 (kk+1+1+1+1+(f z).ws.length) _ _ (by have:=HC.out;have:=HK0.out;have:=HK1.out;omega) HR.out.2.2 (by have:=HC.out;have:=HK0.out;have:=HK1.out;omega)).mono ?_;rintro e w9 ⟨rfl,hw⟩;have hw:=hw.symm;subst hw;obtain ⟨k2,hk2⟩:∃ k2:Nat,k2=kk+1+1+1+1+(f z).ws.length+(f z).bs.length:=⟨_,rfl⟩
   rw [<- hk2];have HK2:Hid (k2=kk+1+1+1+1+(f z).ws.length+(f z).bs.length):=hk2;have nn2:¬ ((k2:Int)<0):=by omega
   clear hk2;have HZ:Hid ((k2:Int)=((s+ag (z+1) (fun i=>bS (f i)):Nat):Int)):=by show _=_;have:=HC.out;have:=HK0.out;have:=HK1.out;have:=HK2.out;omega
   go_wp2;go_roundw
   case rel=>exact ⟨z+1,by omega,by go_num,congrArg (Value.int .i64) HZ.out,trivial⟩
   case measure=>simp [intOf];omega
  have hi:¬ (z:Int)<(n':Int):=by omega
  have e9:z=n':=by omega
  subst e9;go_wp2;go_ret;exact ⟨rfl,rfl⟩
theorem oV(n:Nat)(f:Nat->VP)(a:OA)(n' c s:Nat)(x:Int)(w:World)(hx:x=((s:Nat):Int))(h:Rd w 0 (.list 8 n (fun i=>ac (pT (dB (s+ag i (fun i=>bJ (f i))) (f i))))) (.slice a n' c))(hB:s+ag n (fun i=>bJ (f i))<= 1125899906842624):
 Calls prog 116 #[.slice a n' c,Vi x] w fun e w'=>e=.returned (Vi ((s+ag n (fun i=>bJ (f i)):Nat):Int))/\w'=w:=by
 subst hx;obtain ⟨a9,c9,h9,-,hm⟩:=h.shape;simp only [Value.slice.injEq] at h9;obtain ⟨-,rfl,-⟩:=h9;clear a9 c9;unfold maxLen at hm;have HH:Hid (Rd w 0 (.list 8 n' (fun i=>ac (pT (dB (s+ag i (fun i=>bJ (f i))) (f i))))) (.slice a n' c)/\s+ag n' (fun i=>bJ (f i))<= 1125899906842624):=⟨h,hB⟩
 clear h hB;go_enter func116,ntmps116
 go_wp2;go_loopw [1,5] (fun kv i wr=>∃ z:Nat,z<= n'/\i=Vi z/\kv=Vi ((s+ag z (fun i=>bJ (f i)):Nat):Int)/\wr=w) (fun _ i _=>n'-(intOf i).toNat)
 case atStart=>exact ⟨0,Nat.zero_le _,rfl,rfl,rfl⟩
 case round=>
  obtain ⟨z,hz,rfl,rfl,hw⟩:=hrel;subst hw;by_cases hlt:z<n'
  ·have hi:(z:Int)<(n':Int):=by omega
   obtain ⟨kk,hkk⟩:∃ kk,kk=s+ag z (fun i=>bJ (f i)):=⟨_,rfl⟩
   rw [<- hkk];have HC:Hid (bJ (f z)=1+1+bZ (f z).q/\bZ (f z).q=1+1+1+(f z).q.ws.length+(f z).q.bs.length+1/\True):=⟨rfl,rfl,trivial⟩
   have HK0:Hid (kk=s+ag z (fun i=>bJ (f i))/\kk+bJ (f z)<= 1125899906842624/\s+ag (z+1) (fun i=>bJ (f i))=kk+bJ (f z)):=⟨hkk,by have h7:=dD (g:=(fun i=>bJ (f i))) hlt;have h8:=HH.out.2;omega,by rw [hkk];simp only [ag];omega⟩
   obtain ⟨b,off,vs,rfl,_,hb0,hlen,hr,hrd⟩:=HH.out.1.at hlt;rw [<- hkk] at hrd;obtain ⟨a1,c1,a2,c2,rfl,r1,r2⟩:=VP.cells hrd hlen;have HR:Hid (wr.rangeAt b (off+z*8) (pL (dB kk (f z)) a1 ((dB kk (f z)).q.ws.length) c1 a2 ((dB kk (f z)).q.bs.length) c2)/\Rd wr 0 (aw (dB kk (f z)).q.ws) (.slice a1 ((dB kk (f z)).q.ws.length) c1)/\Rd wr 0 (ai (dB kk (f z)).q.bs) (.slice a2 ((dB kk (f z)).q.bs.length) c2)):=⟨hr,r1,r2⟩
   clear hlen hrd hr hb0 hkk r1 r2;have d0:=hdI0 HR.out.1 (kk) (((kk:Int)));have v0:=wrI0 kk (by have:=HC.out;have:=HK0.out;omega)
   have d1:=hdI HR.out.1 1 (kk+1) (((kk:Int)+1));have v1:=wrI kk 1 2 (by have:=HC.out;have:=HK0.out;omega)
   have d2:=hdI HR.out.1 2 ((kk+1+1)) (((kk:Int)+2));have v2:=wrI kk 2 3 (by have:=HC.out;have:=HK0.out;omega)
   have d3:=hdI HR.out.1 3 ((kk+1+1)+1) (((kk:Int)+3));have v3:=wrI kk 3 4 (by have:=HC.out;have:=HK0.out;omega)
   have d4:=hdI HR.out.1 4 ((kk+1+1)+1+1) (((kk:Int)+4));have v4:=wrI kk 4 5 (by have:=HC.out;have:=HK0.out;omega)
   have d5:wr.cell? ⟨b,off+z*8+5,none⟩=some (.slice a1 ((dB kk (f z)).q.ws.length) c1):=HR.out.1 5 _ rfl;go_wp2_with fail
   refine (fK (f z).q.ws.length a1 _ c1 ((kk+1+1)+1+1+1) _ _ (by have:=HC.out;have:=HK0.out;omega) HR.out.2.1 (by have:=HC.out;have:=HK0.out;omega)).mono ?_;rintro e w9 ⟨rfl,hw⟩;have hw:=hw.symm;subst hw;obtain ⟨k1,hk1⟩:∃ k1:Nat,k1=(kk+1+1)+1+1+1+(f z).q.ws.length:=⟨_,rfl⟩
   rw [<- hk1];have HK1:Hid (k1=(kk+1+1)+1+1+1+(f z).q.ws.length):=hk1;have nn1:¬ ((k1:Int)<0):=by omega
   clear hk1;have d6:wr.cell? ⟨b,off+z*8+6,none⟩=some (.slice a2 ((dB kk (f z)).q.bs.length) c2):=HR.out.1 6 _ rfl;go_wp2_with fail
   refine (ez (f z).q.bs.length a2 _ c2 ((kk+1+1)+1+1+1+(f z).q.ws.length) _ _ (by have:=HC.out;have:=HK0.out;have:=HK1.out;omega) HR.out.2.2 (by have:=HC.out;have:=HK0.out;have:=HK1.out;omega)).mono ?_;rintro e w9 ⟨rfl,hw⟩;have hw:=hw.symm;subst hw;obtain ⟨k2,hk2⟩:∃ k2:Nat,k2=(kk+1+1)+1+1+1+(f z).q.ws.length+(f z).q.bs.length:=⟨_,rfl⟩
   rw [<- hk2];have HK2:Hid (k2=(kk+1+1)+1+1+1+(f z).q.ws.length+(f z).q.bs.length):=hk2;have nn2:¬ ((k2:Int)<0):=by omega
   clear hk2;have d7:=hdI HR.out.1 7 ((kk+1+1)+1+1+1+(f z).q.ws.length+(f z).q.bs.length) (((k2:Int))) rfl (by have:=HC.out;have:=HK0.out;have:=HK1.out;have:=HK2.out;omega);have v7:=wrI0 k2 (by have:=HC.out;have:=HK0.out;have:=HK1.out;have:=HK2.out;omega)
   have HZ:Hid ((k2:Int)+1=((s+ag (z+1) (fun i=>bJ (f i)):Nat):Int)):=by show _=_;have:=HC.out;have:=HK0.out;have:=HK1.out;have:=HK2.out;omega
   go_wp2;go_roundw
   case rel=>exact ⟨z+1,by omega,by go_num,congrArg (Value.int .i64) HZ.out,trivial⟩
   case measure=>simp [intOf];omega
  have hi:¬ (z:Int)<(n':Int):=by omega
  have e9:z=n':=by omega
  subst e9;go_wp2;go_ret;exact ⟨rfl,rfl⟩
theorem oW(n:Nat)(f:Nat->VD)(a:OA)(n' c s:Nat)(x:Int)(w:World)(hx:x=((s:Nat):Int))(h:Rd w 0 (.list 13 n (fun i=>ac (dT (bV (s+ag i (fun i=>bK (f i))) (f i))))) (.slice a n' c))(hB:s+ag n (fun i=>bK (f i))<= 1125899906842624):
 Calls prog 73 #[.slice a n' c,Vi x] w fun e w'=>e=.returned (Vi ((s+ag n (fun i=>bK (f i)):Nat):Int))/\w'=w:=by
 subst hx;obtain ⟨a9,c9,h9,-,hm⟩:=h.shape;simp only [Value.slice.injEq] at h9;obtain ⟨-,rfl,-⟩:=h9;clear a9 c9;unfold maxLen at hm;have HH:Hid (Rd w 0 (.list 13 n' (fun i=>ac (dT (bV (s+ag i (fun i=>bK (f i))) (f i))))) (.slice a n' c)/\s+ag n' (fun i=>bK (f i))<= 1125899906842624):=⟨h,hB⟩
 clear h hB;go_enter func73,ntmps73
 go_wp2;go_loopw [1,5] (fun kv i wr=>∃ z:Nat,z<= n'/\i=Vi z/\kv=Vi ((s+ag z (fun i=>bK (f i)):Nat):Int)/\wr=w) (fun _ i _=>n'-(intOf i).toNat)
 case atStart=>exact ⟨0,Nat.zero_le _,rfl,rfl,rfl⟩
 case round=>
  obtain ⟨z,hz,rfl,rfl,hw⟩:=hrel;subst hw;by_cases hlt:z<n'
  ·have hi:(z:Int)<(n':Int):=by omega
   obtain ⟨kk,hkk⟩:∃ kk,kk=s+ag z (fun i=>bK (f i)):=⟨_,rfl⟩
   rw [<- hkk];have HC:Hid (bK (f z)=1+1+1+1+bZ (f z).q+ag (f z).np (fun i=>bJ ((f z).pt i))+(f z).hs.length+ag (f z).nt (fun i=>bS ((f z).tl i))/\bZ (f z).q=1+1+1+(f z).q.ws.length+(f z).q.bs.length+1/\True):=⟨rfl,rfl,trivial⟩
   have HK0:Hid (kk=s+ag z (fun i=>bK (f i))/\kk+bK (f z)<= 1125899906842624/\s+ag (z+1) (fun i=>bK (f i))=kk+bK (f z)):=⟨hkk,by have h7:=dD (g:=(fun i=>bK (f i))) hlt;have h8:=HH.out.2;omega,by rw [hkk];simp only [ag];omega⟩
   obtain ⟨b,off,vs,rfl,_,hb0,hlen,hr,hrd⟩:=HH.out.1.at hlt;rw [<- hkk] at hrd;obtain ⟨a1,c1,a2,c2,a3,c3,a4,c4,a5,c5,rfl,r1,r2,r3,r4,r5⟩:=VD.cells hrd hlen;have HR:Hid (wr.rangeAt b (off+z*13) (dL (bV kk (f z)) a1 ((bV kk (f z)).q.ws.length) c1 a2 ((bV kk (f z)).q.bs.length) c2 a3 ((bV kk (f z)).np) c3 a4 ((bV kk (f z)).hs.length) c4 a5 ((bV kk (f z)).nt) c5)/\Rd wr 0 (aw (bV kk (f z)).q.ws) (.slice a1 ((bV kk (f z)).q.ws.length) c1)/\Rd wr 0 (ai (bV kk (f z)).q.bs) (.slice a2 ((bV kk (f z)).q.bs.length) c2)/\Rd wr 0 (.list 8 (bV kk (f z)).np (fun i=>ac (pT ((bV kk (f z)).pt i)))) (.slice a3 ((bV kk (f z)).np) c3)/\Rd wr 0 (ai (bV kk (f z)).hs) (.slice a4 ((bV kk (f z)).hs.length) c4)/\Rd wr 0 (.list 6 (bV kk (f z)).nt (fun i=>ac (aT ((bV kk (f z)).tl i)))) (.slice a5 ((bV kk (f z)).nt) c5)):=⟨hr,r1,r2,r3,r4,r5⟩
   clear hlen hrd hr hb0 hkk r1 r2 r3 r4 r5;have d0:=hdI0 HR.out.1 (kk) (((kk:Int)));have v0:=wrI0 kk (by have:=HC.out;have:=HK0.out;omega)
   have d1:=hdI HR.out.1 1 (kk+1) (((kk:Int)+1));have v1:=wrI kk 1 2 (by have:=HC.out;have:=HK0.out;omega)
   have d2:=hdI HR.out.1 2 (kk+1+1) (((kk:Int)+2));have v2:=wrI kk 2 3 (by have:=HC.out;have:=HK0.out;omega)
   have d3:=hdI HR.out.1 3 (kk+1+1+1) (((kk:Int)+3));have v3:=wrI kk 3 4 (by have:=HC.out;have:=HK0.out;omega)
   have d4:=hdI HR.out.1 4 ((kk+1+1+1+1)) (((kk:Int)+4));have v4:=wrI kk 4 5 (by have:=HC.out;have:=HK0.out;omega)
   have d5:=hdI HR.out.1 5 ((kk+1+1+1+1)+1) (((kk:Int)+5));have v5:=wrI kk 5 6 (by have:=HC.out;have:=HK0.out;omega)
   have d6:=hdI HR.out.1 6 ((kk+1+1+1+1)+1+1) (((kk:Int)+6));have v6:=wrI kk 6 7 (by have:=HC.out;have:=HK0.out;omega)
   have d7:wr.cell? ⟨b,off+z*13+7,none⟩=some (.slice a1 ((bV kk (f z)).q.ws.length) c1):=HR.out.1 7 _ rfl;go_wp2_with fail
   refine (fK (f z).q.ws.length a1 _ c1 ((kk+1+1+1+1)+1+1+1) _ _ (by have:=HC.out;have:=HK0.out;omega) HR.out.2.1 (by have:=HC.out;have:=HK0.out;omega)).mono ?_;rintro e w9 ⟨rfl,hw⟩;have hw:=hw.symm;subst hw;obtain ⟨k1,hk1⟩:∃ k1:Nat,k1=(kk+1+1+1+1)+1+1+1+(f z).q.ws.length:=⟨_,rfl⟩
   rw [<- hk1];have HK1:Hid (k1=(kk+1+1+1+1)+1+1+1+(f z).q.ws.length):=hk1;have nn1:¬ ((k1:Int)<0):=by omega
   clear hk1;have d8:wr.cell? ⟨b,off+z*13+8,none⟩=some (.slice a2 ((bV kk (f z)).q.bs.length) c2):=HR.out.1 8 _ rfl;go_wp2_with fail
   refine (ez (f z).q.bs.length a2 _ c2 ((kk+1+1+1+1)+1+1+1+(f z).q.ws.length) _ _ (by have:=HC.out;have:=HK0.out;have:=HK1.out;omega) HR.out.2.2.1 (by have:=HC.out;have:=HK0.out;have:=HK1.out;omega)).mono ?_;rintro e w9 ⟨rfl,hw⟩;have hw:=hw.symm;subst hw;obtain ⟨k2,hk2⟩:∃ k2:Nat,k2=(kk+1+1+1+1)+1+1+1+(f z).q.ws.length+(f z).q.bs.length:=⟨_,rfl⟩
   rw [<- hk2];have HK2:Hid (k2=(kk+1+1+1+1)+1+1+1+(f z).q.ws.length+(f z).q.bs.length):=hk2;have nn2:¬ ((k2:Int)<0):=by omega
   clear hk2;have d9:=hdI HR.out.1 9 ((kk+1+1+1+1)+1+1+1+(f z).q.ws.length+(f z).q.bs.length) (((k2:Int))) rfl (by have:=HC.out;have:=HK0.out;have:=HK1.out;have:=HK2.out;omega);have v9:=wrI0 k2 (by have:=HC.out;have:=HK0.out;have:=HK1.out;have:=HK2.out;omega)
   have d10:wr.cell? ⟨b,off+z*13+10,none⟩=some (.slice a3 ((bV kk (f z)).np) c3):=HR.out.1 10 _ rfl;go_wp2_with fail
   refine (oV (f z).np (f z).pt a3 _ c3 (kk+1+1+1+1+bZ (f z).q) _ _ (by have:=HC.out;have:=HK0.out;have:=HK1.out;have:=HK2.out;omega) HR.out.2.2.2.1 (by have:=HC.out;have:=HK0.out;have:=HK1.out;have:=HK2.out;omega)).mono ?_;rintro e w9 ⟨rfl,hw⟩;have hw:=hw.symm;subst hw;obtain ⟨k3,hk3⟩:∃ k3:Nat,k3=kk+1+1+1+1+bZ (f z).q+ag (f z).np (fun i=>bJ ((f z).pt i)):=⟨_,rfl⟩
   rw [<- hk3];have HK3:Hid (k3=kk+1+1+1+1+bZ (f z).q+ag (f z).np (fun i=>bJ ((f z).pt i))):=hk3;have nn3:¬ ((k3:Int)<0):=by omega
   clear hk3;have d11:wr.cell? ⟨b,off+z*13+11,none⟩=some (.slice a4 ((bV kk (f z)).hs.length) c4):=HR.out.1 11 _ rfl;go_wp2_with fail
   refine (ez (f z).hs.length a4 _ c4 (kk+1+1+1+1+bZ (f z).q+ag (f z).np (fun i=>bJ ((f z).pt i))) _ _ (by have:=HC.out;have:=HK0.out;have:=HK1.out;have:=HK2.out;have:=HK3.out;omega) HR.out.2.2.2.2.1 (by have:=HC.out;have:=HK0.out;have:=HK1.out;have:=HK2.out;have:=HK3.out;omega)).mono ?_;rintro e w9 ⟨rfl,hw⟩;have hw:=hw.symm;subst hw;obtain ⟨k4,hk4⟩:∃ k4:Nat,k4=kk+1+1+1+1+bZ (f z).q+ag (f z).np (fun i=>bJ ((f z).pt i))+(f z).hs.length:=⟨_,rfl⟩
   rw [<- hk4];have HK4:Hid (k4=kk+1+1+1+1+bZ (f z).q+ag (f z).np (fun i=>bJ ((f z).pt i))+(f z).hs.length):=hk4;have nn4:¬ ((k4:Int)<0):=by omega
   clear hk4;have d12:wr.cell? ⟨b,off+z*13+12,none⟩=some (.slice a5 ((bV kk (f z)).nt) c5):=HR.out.1 12 _ rfl;go_wp2_with fail
   refine (oU (f z).nt (f z).tl a5 _ c5 (kk+1+1+1+1+bZ (f z).q+ag (f z).np (fun i=>bJ ((f z).pt i))+(f z).hs.length) _ _ (by have:=HC.out;have:=HK0.out;have:=HK1.out;have:=HK2.out;have:=HK3.out;have:=HK4.out;omega) HR.out.2.2.2.2.2 (by have:=HC.out;have:=HK0.out;have:=HK1.out;have:=HK2.out;have:=HK3.out;have:=HK4.out;omega)).mono ?_;rintro e w9 ⟨rfl,hw⟩;have hw:=hw.symm;subst hw;obtain ⟨k5,hk5⟩:∃ k5:Nat,k5=kk+1+1+1+1+bZ (f z).q+ag (f z).np (fun i=>bJ ((f z).pt i))+(f z).hs.length+ag (f z).nt (fun i=>bS ((f z).tl i)):=⟨_,rfl⟩
   rw [<- hk5];have HK5:Hid (k5=kk+1+1+1+1+bZ (f z).q+ag (f z).np (fun i=>bJ ((f z).pt i))+(f z).hs.length+ag (f z).nt (fun i=>bS ((f z).tl i))):=hk5;have nn5:¬ ((k5:Int)<0):=by omega
   clear hk5;have HZ:Hid ((k5:Int)=((s+ag (z+1) (fun i=>bK (f i)):Nat):Int)):=by show _=_;have:=HC.out;have:=HK0.out;have:=HK1.out;have:=HK2.out;have:=HK3.out;have:=HK4.out;have:=HK5.out;omega
   go_wp2;go_roundw
   case rel=>exact ⟨z+1,by omega,by go_num,congrArg (Value.int .i64) HZ.out,trivial⟩
   case measure=>simp [intOf];omega
  have hi:¬ (z:Int)<(n':Int):=by omega
  have e9:z=n':=by omega
  subst e9;go_wp2;go_ret;exact ⟨rfl,rfl⟩
def MZ(w0:World)(g off s n:Nat)(K:Nat->Nat->Sk)(v:Value)(z:Nat)(T0:Nat->Nat->Tr)(w:World)(L:List Tr):Prop:=
 aQ w (.list s n (gW z L T0)) (.row g off s n K) v/\Cg w0 w (Sk.row g off s n K).bl/\(Sk.row g off s n K).ok/\z<n
section
variable {w0 w:World} {g off s n z:Nat} {K:Nat->Nat->Sk} {v:Value} {T0:Nat->Nat->Tr} {L:List Tr}
theorem MZ.st{ops:Array Oper}{rest:List Oper}{op:Oper}{a:Act}{Q:Exit->Act->World->Prop}(G:Hid (MZ w0 g off s n K v z T0 w L))(hgd:op.guard=none)(x y:Operand)(ho:op.op=.store 3 x y)(j:Nat)(i i':Int)(u0:Value)(hx:a.eval x=Vp g (off+z*s+j))(hy:a.eval y=Vi i)(hi:i=i')(hj:j<s)(hl:j<L.length)(h0:ac L j=.leaf u0)
 (h:∀ w',Hid (MZ w0 g off s n K v z T0 w' (L.set j (.leaf (Vi i'))))->wpList prog ops Q rest (a.put op.dst undef) w'):wpList prog ops Q (op:: rest) a w:=by
 obtain ⟨F,C,ok,hz⟩:=G.out;obtain ⟨u,e0,-⟩:=F.cellZ hz j hj;have f0:=F.fro (off+z*s+j);have hr:(Instr.storeAt 3 (Vp g (off+z*s+j)) (Vi i)).run prog w=.ok () (w.setCell ⟨g,off+z*s+j,none⟩ (Vi i)):=by go_simp
 refine wpList_plain hgd fun K9 hK=>?_
 unfold Oper.wp;rw [bY ho hx hy hr];exact hK _ _ (h _ ⟨F.setZ ok hz j hj hl u0 _ _ h0 (by rw [hi]) rfl,C.set (.inl rfl) _,ok,hz⟩)
theorem MZ.sb{ops:Array Oper}{rest:List Oper}{op:Oper}{a:Act}{Q:Exit->Act->World->Prop}(G:Hid (MZ w0 g off s n K v z T0 w L))(hgd:op.guard=none)(x y:Operand)(ho:op.op=.store 4 x y)(j:Nat)(i i':Bool)(u0:Value)(hx:a.eval x=Vp g (off+z*s+j))(hy:a.eval y=.bool i)(hi:i=i')(hj:j<s)(hl:j<L.length)(h0:ac L j=.leaf u0)
 (h:∀ w',Hid (MZ w0 g off s n K v z T0 w' (L.set j (.leaf (.bool i'))))->wpList prog ops Q rest (a.put op.dst undef) w'):wpList prog ops Q (op:: rest) a w:=by
 obtain ⟨F,C,ok,hz⟩:=G.out;obtain ⟨u,e0,-⟩:=F.cellZ hz j hj;have f0:=F.fro (off+z*s+j);have hr:(Instr.storeAt 4 (Vp g (off+z*s+j)) (.bool i)).run prog w=.ok () (w.setCell ⟨g,off+z*s+j,none⟩ (.bool i)):=by go_simp
 refine wpList_plain hgd fun K9 hK=>?_
 unfold Oper.wp;rw [bY ho hx hy hr];exact hK _ _ (h _ ⟨F.setZ ok hz j hj hl u0 _ _ h0 (by rw [hi]) rfl,C.set (.inl rfl) _,ok,hz⟩)
theorem MZ.row(G:Hid (MZ w0 g off s n K v z T0 w L))(j:Nat)(hj:j<s){s' m:Nat}{f':Nat->Nat->Tr}(h:ac L j=.list s' m f'):∃ a c,w.cell? ⟨g,off+z*s+j,none⟩=some (.slice a m c)/\aQ w (.list s' m f') (K z j) (.slice a m c)/\(K z j).ok:=by
 obtain ⟨F,C,ok,hz⟩:=G.out;obtain ⟨u,e0,t⟩:=F.cellZ hz j hj;rw [h] at t;obtain ⟨a,c,rfl⟩:=t.shape;exact ⟨a,c,e0,t,(ok.1 z j hz hj).1⟩
theorem MZ.sub{w':World}{u:Value}{t':Tr}(G:Hid (MZ w0 g off s n K v z T0 w L))(j:Nat)(hj:j<s)(hl:j<L.length)(hu:w.cell? ⟨g,off+z*s+j,none⟩=some u)(hc:Cg w w' (K z j).bl)(hf:aQ w' t' (K z j) u):Hid (MZ w0 g off s n K v z T0 w' (L.set j t')):=by
 obtain ⟨F,C,ok,hz⟩:=G.out;exact ⟨F.subZ ok hz j hj hl u hu _ hc hf rfl,C.trans (hc.mono (fun b hb=>Sk.bl_in hz hj hb)),ok,hz⟩
end
end Go.Proofs.YtohikbpolofklaaGreat
