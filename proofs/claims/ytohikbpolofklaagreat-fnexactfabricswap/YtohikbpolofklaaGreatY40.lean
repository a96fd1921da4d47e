/- Texts that the proof needs, joined: Fo8 Lk4 S2. -/
import Derived.Test.YtohikbpolofklaaGreatY35
import Derived.Test.YtohikbpolofklaaGreatY36
import Derived.Test.YtohikbpolofklaaGreatY30
set_option linter.unusedVariables false
set_option linter.unusedSimpArgs false
set_option maxHeartbeats 8000000
set_option maxRecDepth 20000
namespace Go.Proofs.YtohikbpolofklaaGreat
open Go.RowKit Go.Joins Go.Proofs.Tryz
abbrev qo:Array Value:=#[Vi 0,Vi 0,Vi 0,Vi 0,Vi 0,Vi 0,Zs,Zs,Vi 0]
abbrev tu:Array Value:=#[Vi 0,Vi 0,Vi 0,Vi 0,Vi 0,Zs,Zs,Vi 0]
theorem oQ{P:Program}{ρ:Operand->Value}{o:Oper}{w:World}(ty:TypeId)(ho:o.op=.alloc ty)(cs:Array Value)(n b:Nat)(hi:(P.info? ty).map (fun i=>(i.zero,i.size,i.bytes))=some (some (.agg cs),n,b)):(execOp ρ o).run P w=.ok (.value (Vp w.heap.size 0)) (w.alloc (.cells cs ty)):=by
 have hz:(zeroValue ty).run P w=.ok (.agg cs) w:=by
  cases hq:P.info? ty with
  |none=>simp [hq] at hi
  |some i=>simp [hq] at hi;simp [zeroValue,typeInfo,hq,hi.1]
 unfold execOp;simp only [ho];rw [Sem.run_bind]
 have h9:(Instr.alloc ty true (.tuple #[])).run P w=.ok (Vp w.heap.size 0) (w.alloc (.cells cs ty)):=by
  unfold Instr.alloc;rw [Sem.run_bind,hz];rfl
 rw [h9];rfl
theorem ae.wr8{u:World}{g o:Nat}{t:TypeId}{cs cs':Array Value}{vs:List Value}(h:ae u g t cs)(he:bO cs o vs=cs'):ae (aF u g o vs) g t cs':=by
 rw [<- he];exact ae.stL _ _ h
def pH(w:World)(v x v':Value)(w':World):Prop:=(Builtin.append_ #[85,85] 85 #[v,x]).run prog w=.ok v' w'
theorem gv{ops:Array Oper}{rest:List Oper}{o:Oper}{a:Act}{w w':World}{Q:Exit->Act->World->Prop}(hgd:o.guard=none)(s x:Operand)(hop:o.op=.call { callee:=.builtin .append,args:=#[s,x],argTypes:=#[85,85] })(hty:o.type=85)(v1 v2 v:Value)(hs:a.eval s=v1)(hx:a.eval x=v2)(hr:pH w v1 v2 v w')(h:wpList prog ops Q rest (a.put o.dst v) w'):wpList prog ops Q (o:: rest) a w:=by
 refine wpList_plain hgd fun K hK=>?_
 unfold pH at hr;unfold Oper.wp execOp;simp only [hop,resolve,invoke,builtin,Sem.run_bind,Sem.run_pure,Result.andThen_ok,List.map_toArray,List.map_cons,List.map_nil,hs,hx,hty,hr];exact hK _ _ h
theorem wU{N:VN}(h:N.bz=true):aJ N.c=aJ (aU N 0):=by
 unfold aU;rw [List.getD_eq_getElem?_getD,gp h];rfl
theorem nR(N:VN)(a1:OA)(c1:Nat)(e1:OA)(k1:Nat)(e2:OA)(k2:Nat)(w0 w:World)(hb:Below w0.heap.size w0 w)(h:aV w0 0 (ac (aN N)) (bj N a1 N.nq c1 e1 N.c.q.ws.length k1 e2 N.c.q.bs.length k2))(hn:N.nq<= 2000000):
 Calls prog 48 #[.agg (bj N a1 N.nq c1 e1 N.c.q.ws.length k1 e2 N.c.q.bs.length k2).toArray] w fun e w'=>∃ v,e=.returned v/\ed w0 w.heap.size w' 9 v (dp N).length (fun i=>aJ (aU N i))/\Below w.heap.size w w':=by
 obtain ⟨_,_,_,_,_,_,e9,q1,q2,q3⟩:=VN.cells h rfl;simp only [List.cons.injEq,Value.slice.injEq,and_true,true_and] at e9;obtain ⟨⟨rfl,rfl⟩,⟨rfl,rfl⟩,⟨rfl,rfl⟩⟩:=e9;have hc:=VL.back9 q2 q3;obtain ⟨B,hB⟩:∃ B,B=w.heap.size:=⟨_,rfl⟩
 obtain ⟨W0,hW0⟩:∃ W,W=w.alloc (.cells (bj N a1 N.nq c1 e1 N.c.q.ws.length k1 e2 N.c.q.bs.length k2).toArray 90):=⟨_,rfl⟩
 obtain ⟨H,hH⟩:∃ H,H=W0.heap.size:=⟨_,rfl⟩
 obtain ⟨W,hW⟩:∃ X,X=W0.alloc (.cells #[] 88):=⟨_,rfl⟩
 have bW0:Below w.heap.size w W0:=by rw [hW0];exact aa _ _
 have bW:Below W0.heap.size W0 W:=by rw [hW];exact aa _ _
 have k0:ae W0 B 90 (bj N a1 N.nq c1 e1 N.c.q.ws.length k1 e2 N.c.q.bs.length k2).toArray:=by rw [hW0,hB];exact ae.new _ _ _
 have hBH:B<H:=by have:=k0.lt;omega
 have hHB:H=B+1:=by rw [hH,hB,hW0];simp
 have L0:cI w0 W 88 9 (.slice (some ⟨H,0,none⟩) 0 0) 0 (fun i=>aJ (aU N i)):=by rw [hW,hH];exact cI.new w0 W0 _ _ _ (Nat.le_trans hb.size bW0.size)
 have hwH:w.heap.size<= H:=by rw [hH];exact bW0.size
 have bwW:=af bW0 bW;have b0W:=af hb bwW;have kW:=k0.below bW;obtain ⟨bz,hbz⟩:∃ b,N.bz=b:=⟨_,rfl⟩
 have HB:Hid (N.bz=bz):=hbz;have hin:((prog.info? 88).map (fun i=>(i.zero,i.size,i.bytes)))=some (some (.agg qo),9,104):=by kernel_rfl
 cases bz
 case false=>
  obtain ⟨v',w',hrun,l1,l2,l3,l4⟩:=L0.app 85 85 104 (.agg qo) underlying85 hin rfl (by decide) (by decide) _ N.nq _ (fun i=>aJ (N.qf i)) q1 b0W (fun k hk vs h1 h2=>jp (w:=w0) h1 h2) (by decide) hn;have HA:pH W (.slice (some ⟨H,0,none⟩) 0 0) (.slice _ N.nq _) v' w':=hrun
  have HF:Hid (ed w0 w.heap.size w' 9 v' (dp N).length (fun i=>aJ (aU N i))/\Below w.heap.size w w'):=by
   refine ⟨?_,bwW.grown l3 bwW.size (fun j hj=>by obtain rfl:=Option.some.inj hj;exact hwH)⟩
   rw [eV,hbz];refine ed.own (l1.congr (fun i hi=>?_)) (fun j hj=>?_)
   ·simp only [Nat.not_lt_zero,if_false,Nat.sub_zero]
    exact nI hbz (by omega)
   rcases l4 with l4|l4 <;> rw [l4] at hj <;> obtain rfl:=Option.some.inj hj
   ·exact hwH
   exact bwW.size
  have y0:W.cell? ⟨B,0,none⟩=some (.slice _ N.nq _):=kW.cell 0 rfl;have y1:W.cell? ⟨B,1,none⟩=some (.bool N.bz):=kW.cell 1 rfl;rw [hbz] at y1;clear L0 l1 l2 l3 l4 hrun q1 q2 q3 hc h hb k0 kW hin bwW b0W bW0 bW hbz hwH hBH;go_enter func48,ntmps48
  go_upto_region 2 with fail
  rw [<- hW0,<- hB];rw [<- hW,<- hHB];clear hW0 hW hH hB hHB;try go_simp
  go_wp2_with (first|(at_builtin;refine gv rfl _ _ rfl rfl _ _ _ rfl rfl HA ?_))
  go_ret;exact ⟨_,rfl,HF.out⟩
 obtain ⟨W',hW'⟩:∃ X,X=W.alloc (.cells (bh N.c e1 N.c.q.ws.length k1 e2 N.c.q.bs.length k2).toArray 88):=⟨_,rfl⟩
 obtain ⟨H',hH'⟩:∃ X,X=W.heap.size:=⟨_,rfl⟩
 have bW':Below W.heap.size W W':=by rw [hW'];exact aa _ _
 have kc:ae W' H' 88 (bh N.c e1 N.c.q.ws.length k1 e2 N.c.q.bs.length k2).toArray:=by rw [hW',hH'];exact ae.new _ _ _
 obtain ⟨v1,w1,hrun1,m1,m2,m3,m4⟩:=(L0.below bW').app1 85 85 104 (.agg qo) underlying85 hin rfl (by decide) (by decide) H' 1 (bh N.c e1 N.c.q.ws.length k1 e2 N.c.q.bs.length k2) rfl (fun j u hu=>kc.cell j (by simpa using hu)) (by rw [<- wU hbz];exact hc) (af b0W bW') (jp hc rfl) (by decide);have HA1:pH W' (.slice (some ⟨H,0,none⟩) 0 0) (.slice (some ⟨H',0,none⟩) 1 1) v1 w1:=hrun1;have kW1:ae w1 B 90 (bj N a1 N.nq c1 e1 N.c.q.ws.length k1 e2 N.c.q.bs.length k2).toArray:=(kW.below bW').grown m3 (fun e=>by have e':H=B:=Option.some.inj e;omega);have bw1:Below w.heap.size w w1:=(af bwW bW').grown m3 (af bwW bW').size (fun j hj=>by obtain rfl:=Option.some.inj hj;exact hwH)
 have h1o:∀ j,v1.ownBlock=some j->w.heap.size<= j:=fun j hj=>by
  rcases m4 with m4|m4 <;> rw [m4] at hj <;> obtain rfl:=Option.some.inj hj
  ·exact hwH
  exact (af bwW bW').size
 obtain ⟨v',w',hrun,l1,l2,l3,l4⟩:=m1.app 85 85 104 (.agg qo) underlying85 hin rfl (by decide) (by decide) _ N.nq _ (fun i=>aJ (N.qf i)) q1 m2 (fun k hk vs h1 h2=>jp (w:=w0) h1 h2) (by decide) hn;have HA:pH w1 v1 (.slice _ N.nq _) v' w':=hrun
 have HF:Hid (ed w0 w.heap.size w' 9 v' (dp N).length (fun i=>aJ (aU N i))/\Below w.heap.size w w'):=by
  refine ⟨?_,bw1.grown l3 bw1.size h1o⟩
  rw [eV,hbz];refine ed.own (l1.congr (fun i hi=>?_)) (fun j hj=>?_)
  ·by_cases e:i<0+1
   ·rw [if_pos e]
   rw [if_neg e];have:=nH hbz (i:=i) hi;rw [if_neg (by omega)] at this;exact this
  rcases l4 with l4|l4 <;> rw [l4] at hj
  ·exact h1o j hj
  obtain rfl:=Option.some.inj hj;exact bw1.size
 have y1:W.cell? ⟨B,1,none⟩=some (.bool N.bz):=kW.cell 1 rfl;rw [hbz] at y1;have y2:W.cell? ⟨B,2,none⟩=some (Vi N.c.id):=kW.cell 2 rfl;have y3:W.cell? ⟨B,3,none⟩=some (Vi N.c.pa):=kW.cell 3 rfl;have y4:W.cell? ⟨B,4,none⟩=some (Vi N.c.un):=kW.cell 4 rfl;have y5:W.cell? ⟨B,5,none⟩=some (Vi N.c.q.kd):=kW.cell 5 rfl;have y6:W.cell? ⟨B,6,none⟩=some (Vi N.c.q.pl):=kW.cell 6 rfl;have y7:W.cell? ⟨B,7,none⟩=some (Vi N.c.q.n):=kW.cell 7 rfl;have y8:W.cell? ⟨B,8,none⟩=some (.slice _ N.c.q.ws.length _):=kW.cell 8 rfl;have y9:W.cell? ⟨B,9,none⟩=some (.slice _ N.c.q.bs.length _):=kW.cell 9 rfl;have y10:W.cell? ⟨B,10,none⟩=some (Vi N.c.q.wa):=kW.cell 10 rfl;have z0:w1.cell? ⟨B,0,none⟩=some (.slice _ N.nq _):=kW1.cell 0 rfl;clear L0 l1 l2 l3 l4 m1 m2 m3 m4 hrun hrun1 q1 q2 q3 hc h hb k0 kW kW1 kc hin bwW b0W bW0 bW bW' bw1 h1o hbz hwH hBH;go_enter func48,ntmps48
 go_upto_region 2 with fail
 rw [<- hW0,<- hB];rw [<- hW,<- hHB];clear hW0 hW hH hB hHB;try go_simp
 go_upto_region 4 with (first|(rw [<- hW',<- hH'];at_builtin;refine gv rfl _ _ rfl rfl _ _ _ rfl rfl HA1 ?_))
 clear hW' hH';try go_simp
 go_wp2_with (first|(at_builtin;refine gv rfl _ _ rfl rfl _ _ _ rfl rfl HA ?_))
 go_ret;exact ⟨_,rfl,HF.out⟩
theorem oR(X:VF)(C:VL)(port:Nat)(f1:OA)(m1:Nat)(f2:OA)(m2:Nat)(f3:OA)(m3:Nat)(e1:OA)(k1:Nat)(e2:OA)(k2:Nat)(w:World)(hf:Rd w 0 (.list 13 X.op.m (fun i=>ac (dT (X.op.f i)))) (.slice f2 X.op.m m2))(hc1:Rd w 0 (aw C.q.ws) (.slice e1 C.q.ws.length k1))(hc2:Rd w 0 (ai C.q.bs) (.slice e2 C.q.bs.length k2))(hrow:aO (bQ X.op) X.op.m=true)(hm:X.op.m<= 16)(hpa:0<= C.pa)(hb1:kK X.op)(hb2:cV C.q):
 Calls prog 49 #[.agg (aq X f1 X.set.n m1 f2 X.op.m m2 f3 X.nl m3).toArray,Vi (port:Int),.agg (bh C e1 C.q.ws.length k1 e2 C.q.bs.length k2).toArray] w fun e w'=>e=.returned (.bool (fc (cW X.op X.op.m) (gH port C)))/\Below w.heap.size w w':=by
 obtain ⟨j,hj⟩:∃ j:Nat,C.pa=(j:Int):=⟨C.pa.toNat,by omega⟩
 obtain ⟨G1,hG1⟩:∃ B,B=w.heap.size:=⟨_,rfl⟩
 obtain ⟨G2,hG2⟩:∃ B,B=w.heap.size+1:=⟨_,rfl⟩
 obtain ⟨W0,hW0⟩:∃ W,W=(w.alloc (.cells (aq X f1 X.set.n m1 f2 X.op.m m2 f3 X.nl m3).toArray 41)).alloc (.cells (bh C e1 C.q.ws.length k1 e2 C.q.bs.length k2).toArray 88):=⟨_,rfl⟩
 have bW:Below w.heap.size w W0:=by rw [hW0];exact af (aa _ _) (aa _ _)
 have A1:ae W0 G1 41 (aq X f1 X.set.n m1 f2 X.op.m m2 f3 X.nl m3).toArray:=by rw [hW0,hG1];exact (ae.new _ _ _).below (aa _ _)
 have A2:ae W0 G2 88 (bh C e1 C.q.ws.length k1 e2 C.q.bs.length k2).toArray:=by rw [hW0,hG2];have:=ae.new (w.alloc (.cells (aq X f1 X.set.n m1 f2 X.op.m m2 f3 X.nl m3).toArray 41)) (bh C e1 C.q.ws.length k1 e2 C.q.bs.length k2).toArray 88;simpa using this
 have HE:Hid (ae W0 G1 41 (aq X f1 X.set.n m1 f2 X.op.m m2 f3 X.nl m3).toArray/\ae W0 G2 88 (bh C e1 C.q.ws.length k1 e2 C.q.bs.length k2).toArray/\Below w.heap.size w W0/\Rd w 0 (.list 13 X.op.m (fun i=>ac (dT (X.op.f i)))) (.slice f2 X.op.m m2)/\Rd w 0 (aw C.q.ws) (.slice e1 C.q.ws.length k1)/\Rd w 0 (ai C.q.bs) (.slice e2 C.q.bs.length k2)):=⟨A1,A2,bW,hf,hc1,hc2⟩
 have HO:Hid (aO (bQ X.op) X.op.m=true/\kK X.op/\cV C.q/\C.pa=(j:Int)):=⟨hrow,hb1,hb2,hj⟩
 have y4:W0.cell? ⟨G1,4,none⟩=some (Vi X.op.nx):=A1.cell 4 rfl;have y5:W0.cell? ⟨G1,5,none⟩=some (.slice f2 X.op.m m2):=A1.cell 5 rfl;have x0:W0.cell? ⟨G2,0,none⟩=some (Vi C.id):=A2.cell 0 rfl;clear A1 A2 bW hf hc1 hc2 hrow hb1 hb2 hj hpa;go_enter func49,ntmps49
 go_upto_region 1 with fail
 rw [<- hW0,<- hG2,<- hG1];clear hW0 hG1 hG2;try go_simp
 go_wp2_with fail
 refine (oM X.op f2 m2 C.id _ (HE.out.2.2.2.1.below HE.out.2.2.1) HO.out.2.1.1).mono ?_;rintro e W ⟨r,rfl,hF,b1⟩;have HB:Hid (Below w.heap.size w W):=af HE.out.2.2.1 b1;have HA:Hid (ae W G1 41 (aq X f1 X.set.n m1 f2 X.op.m m2 f3 X.nl m3).toArray/\G2<W.heap.size/\W.rangeAt G2 0 ([Vi C.id,Vi (j:Int),Vi C.un,Vi C.q.kd,Vi C.q.pl,Vi C.q.n,.slice e1 C.q.ws.length k1,.slice e2 C.q.bs.length k2,Vi C.q.wa])/\Rd W 0 (aw C.q.ws) (.slice e1 C.q.ws.length k1)/\Rd W 0 (ai C.q.bs) (.slice e2 C.q.bs.length k2)):=⟨HE.out.1.below b1,(HE.out.2.1.below b1).lt,by have:=(HE.out.2.1.below b1).rng;rw [<- HO.out.2.2.2];exact this,HE.out.2.2.2.2.1.below HB.out,HE.out.2.2.2.2.2.below HB.out⟩
 clear y4 y5 x0 b1;rcases hF with ⟨rfl,hno⟩|⟨k,rfl,hk,hid,hfirst⟩
 ·have HF:Hid (fc (cW X.op X.op.m) (gH port C)=false):=uU hno
  clear hno;go_upto_region 2 with fail
  try go_simp
  refine wp_region_any (by kernel_rfl) ?_
  refine bw (fun u=>Below W.heap.size W u) (fun i v u=>match i with
   |0=>v=Vi (-1)
   |1=>v=.bool true
   |2=>v=.bool true
   |3=>v=undef
   |4=>v=undef
   |5=>v=undef
   |6=>v=undef
   |7=>v=undef
   |8=>v=undef
   |9=>v=undef
   |10=>v=undef
   |11=>v=undef
   |12=>v=undef
   |13=>v=undef
   |14=>v=.bool true
   |15=>v=.bool true
   |16=>v=undef
   |17=>v=undef
   |18=>v=undef
   |19=>v=undef
   |20=>v=undef
   |21=>v=undef
   |22=>v=undef
   |23=>v=undef
   |24=>v=undef
   |25=>v=undef
   |26=>v=undef
   |27=>v=.bool true
   |_=>True) (by kernel_rfl) (by kernel_rfl) (fun _ _ _ _ h _=>h) (by first|exact Br|exact Br.drew) ?_ ?_ _ _ rfl (by decide) (fun i=>by simp [Array.getD];try (split <;> rfl))
  ·intro vs u hR hall
   have e27:vs 27=.bool true:=hall 27 (by simp);simp only [bI];rw [e27];clear hall e27;have B9:=af HB.out hR;clear hR;try go_simp
   go_wp2;go_ret;exact ⟨by rw [HF.out];rfl,B9⟩
  intro u i o ρ hR ho hρ hc hf hd
  have hi:i<28:=by
   have:=(Array.getElem?_eq_some_iff.1 ho).1;simpa using this
  obtain rfl|rfl|rfl|rfl|rfl|rfl|rfl|rfl|rfl|rfl|rfl|rfl|rfl|rfl|rfl|rfl|rfl|rfl|rfl|rfl|rfl|rfl|rfl|rfl|rfl|rfl|rfl|rfl:i=0\/i=1\/i=2\/i=3\/i=4\/i=5\/i=6\/i=7\/i=8\/i=9\/i=10\/i=11\/i=12\/i=13\/i=14\/i=15\/i=16\/i=17\/i=18\/i=19\/i=20\/i=21\/i=22\/i=23\/i=24\/i=25\/i=26\/i=27:=by omega
  all_goals (simp only [List.getElem?_toArray,List.getElem?_cons_zero,List.getElem?_cons_succ,Option.some.injEq] at ho;subst ho)
  ·exact yr rfl (hρ 7 (by kernel_rfl)) hR
  ·have h0:ρ (.tmp 14)=Vi (-1):=dq hd 0 14
   exact yr (aG rfl h0 (hc _) (by go_simp)) rfl hR
  ·have h1:ρ (.tmp 15)=.bool true:=dq hd 1 15
   exact yr rfl h1 hR
  ·exact aj (.bool true) hd 2 16
  ·exact aj (.bool true) hd 2 16
  ·exact aj (.bool true) hd 2 16
  ·exact aj (.bool true) hd 2 16
  ·exact aj (.bool true) hd 2 16
  ·exact aj (.bool true) hd 2 16
  ·exact aj (.bool true) hd 2 16
  ·exact aj (.bool true) hd 2 16
  ·exact aj (.bool true) hd 2 16
  ·exact aj (.bool true) hd 2 16
  ·exact aj (.bool true) hd 2 16
  ·have h2:ρ (.tmp 16)=.bool true:=dq hd 2 16
   exact yr (aC rfl h2) (by simpa using hc _) hR
  ·have h14:ρ (.tmp 28)=.bool true:=dq hd 14 28
   exact yr rfl h14 hR
  ·exact aj (.bool true) hd 15 29
  ·exact aj (.bool true) hd 15 29
  ·exact aj (.bool true) hd 15 29
  ·exact aj (.bool true) hd 15 29
  ·exact aj (.bool true) hd 15 29
  ·exact aj (.bool true) hd 15 29
  ·exact aj (.bool true) hd 15 29
  ·exact aj (.bool true) hd 15 29
  ·exact aj (.bool true) hd 15 29
  ·exact aj (.bool true) hd 15 29
  ·exact aj (.bool true) hd 15 29
  have h15:ρ (.tmp 29)=.bool true:=dq hd 15 29;exact yr (aC rfl h15) (by simpa using hc _) hR
 have hF:=uV (g:=gG port C) HO.out.1 hk hid (show 0<= C.pa by have:=HO.out.2.2.2;omega);obtain ⟨b2,o2,vs,rfl,_,hb2,hl2,hr2,hd2⟩:=(HE.out.2.2.2.1.below HB.out).at hk;obtain ⟨t1,s1,t2,s2,t3,s3,t4,s4,t5,s5,rfl,z1,z2,z3,z4,z5⟩:=VD.cells hd2 hl2;have hnp:(X.op.f k).hs.length=(X.op.f k).np:=jo HO.out.1 hk;have hn8:(X.op.f k).hs.length<= 8:=rt HO.out.1 hk;have hk16:(k:Int)<(X.op.m:Int):=by omega
 by_cases hge:j<(X.op.f k).np
 ·have f13:¬ ((X.op.f k).np:Int)<= (j:Int):=by omega
  have f39:(j:Int)<((X.op.f k).hs.length:Int):=by omega
  have f51:(j:Int)<((X.op.f k).np:Int):=by omega
  obtain ⟨b4,o4,rfl,hb4,d0⟩:=z4.bit (n:=0) (k:=j) (by omega);obtain ⟨b3,o3,vs,rfl,_,hb3,hl3,hr3,hd3⟩:=z3.at (k:=j) hge;obtain ⟨p1,h1,p2,h2,rfl,rp1,rp2⟩:=VP.cells hd3 hl3;obtain ⟨x,hx⟩:∃ x,(X.op.f k).hs.getD j false=x:=⟨_,rfl⟩
  rw [hx] at d0;have HX:Hid ((X.op.f k).hs.getD j false=x):=hx
  have HF:Hid (fc (cW X.op X.op.m) (gH port C)=(!((X.op.f k).hs.getD j false) && gG port C ((X.op.f k).pt j))):=by
   show fc (cW X.op X.op.m) (C.id,C.pa,gG port C)=_;rw [hF,HO.out.2.2.2,Int.toNat_natCast,decide_eq_true f51,Bool.true_and]
  have HD:Hid (b2<W.heap.size/\W.rangeAt b2 (o2+k*13) (dL (X.op.f k) t1 (X.op.f k).q.ws.length s1 t2 (X.op.f k).q.bs.length s2 (some ⟨b3,o3,none⟩) (X.op.f k).np s3 (some ⟨b4,o4,none⟩) (X.op.f k).hs.length s4 t5 (X.op.f k).nt s5)):=⟨hb2,hr2⟩
  have HH:Hid (b4<W.heap.size/\W.rangeAt b4 (o4+j) [.bool x]):=⟨hb4,fun i v hv=>by
   match i,hv with
   |0,hv=>
    obtain rfl:=Option.some.inj hv;exact d0
   |i+1,hv=>simp at hv⟩
  have HP:Hid (b3<W.heap.size/\W.rangeAt b3 (o3+j*8) (pL ((X.op.f k).pt j) p1 ((X.op.f k).pt j).q.ws.length h1 p2 ((X.op.f k).pt j).q.bs.length h2)/\Rd W 0 (aw ((X.op.f k).pt j).q.ws) (.slice p1 ((X.op.f k).pt j).q.ws.length h1)/\Rd W 0 (ai ((X.op.f k).pt j).q.bs) (.slice p2 ((X.op.f k).pt j).q.bs.length h2)):=⟨hb3,hr3,rp1,rp2⟩
  obtain ⟨y0,hy0⟩:∃ y,(((X.op.f k).pt j).p == (port:Int))=y:=⟨_,rfl⟩
  obtain ⟨y1,hy1⟩:∃ y,(((X.op.f k).pt j).t == C.un)=y:=⟨_,rfl⟩
  obtain ⟨y2,hy2⟩:∃ y,jn ((X.op.f k).pt j).q C.q=y:=⟨_,rfl⟩
  have HY:Hid ((((X.op.f k).pt j).p == (port:Int))=y0/\(((X.op.f k).pt j).t == C.un)=y1/\jn ((X.op.f k).pt j).q C.q=y2/\cV ((X.op.f k).pt j).q/\cV C.q/\gG port C ((X.op.f k).pt j)=(y0 && (y1 && y2))):=⟨hy0,hy1,hy2,(HO.out.2.1.2 k hk).2.2.2.2.1 j hge,HO.out.2.2.1,by unfold gG;rw [hy0,hy1,hy2]⟩
  clear hF hb2 hl2 hr2 hd2 z1 z2 z3 z4 z5 d0 hb4 hb3 hl3 hr3 hd3 rp1 rp2 hx hy0 hy1 hy2 hfirst hid hnp;go_upto_region 2 with fail
  try go_simp
  refine wp_region_any (by kernel_rfl) ?_
  refine bw (fun u=>Below W.heap.size W u) (fun i v u=>match i with
   |0=>v=Vi (k:Int)
   |1=>v=.bool false
   |2=>v=.bool false
   |3=>v=Vp G2 1
   |4=>v=Vi (j:Int)
   |5=>v=Vp G1 4
   |6=>v=Vp G1 5
   |7=>v=.slice (some ⟨b2,o2,none⟩) X.op.m m2
   |8=>v=Vi (k:Int)
   |9=>v=Vp b2 (o2+k*13)
   |10=>v=Vp b2 (o2+k*13+10)
   |11=>v=.slice (some ⟨b3,o3,none⟩) ((X.op.f k).np) s3
   |12=>v=Vi ((X.op.f k).np:Int)
   |13=>v=.bool false
   |14=>v=.bool false
   |15=>v=.bool false
   |16=>v=Vp G1 4
   |17=>v=Vp G1 5
   |18=>v=.slice (some ⟨b2,o2,none⟩) X.op.m m2
   |19=>v=Vi (k:Int)
   |20=>v=Vp b2 (o2+k*13)
   |21=>v=Vp b2 (o2+k*13+11)
   |22=>v=.slice (some ⟨b4,o4,none⟩) ((X.op.f k).hs.length) s4
   |23=>v=Vp G2 1
   |24=>v=Vi (j:Int)
   |25=>v=Vp b4 (o4+j)
   |26=>v=.bool x
   |27=>v=.bool x
   |_=>v=undef) (by kernel_rfl) (by kernel_rfl) (fun _ _ _ _ h _=>h) (by first|exact Br|exact Br.drew) ?_ ?_ _ _ rfl (by decide) (fun i=>by simp [Array.getD];try (split <;> rfl))
  ·intro vs u hR hall
   simp only [bI];cases x
   ·have e27:vs 27=.bool false:=hall 27 (by simp)
    rw [e27];clear hall e27;have R9:Hid (Below W.heap.size W u):=hR;clear hR;try go_simp
    obtain ⟨uu,huu⟩:∃ x,x=u:=⟨_,rfl⟩
    rw [<- huu] at R9 ⊢;clear huu;go_upto_region 4 with fail
    try go_simp
    refine wp_region_any (by kernel_rfl) ?_
    refine fm 12 (fun u=>Below uu.heap.size uu u) (fun j9 σ v9=>∃ c,σ 8=Vp c 0/\ae v9 c 128 (pL ((X.op.f k).pt j) p1 ((X.op.f k).pt j).q.ws.length h1 p2 ((X.op.f k).pt j).q.bs.length h2).toArray/\Below uu.heap.size uu v9) (fun i v u=>match i with
     |0=>v=Vp G1 4
     |1=>v=Vp G1 5
     |2=>v=.slice (some ⟨b2,o2,none⟩) X.op.m m2
     |3=>v=Vi (k:Int)
     |4=>v=Vp b2 (o2+k*13)
     |5=>v=Vp b2 (o2+k*13+10)
     |6=>v=.slice (some ⟨b3,o3,none⟩) ((X.op.f k).np) s3
     |7=>v=Vp G2 1
     |8=>v=Vi (j:Int)
     |9=>v=Vp b3 (o3+j*8)
     |10=>v=.agg (pL ((X.op.f k).pt j) p1 ((X.op.f k).pt j).q.ws.length h1 p2 ((X.op.f k).pt j).q.bs.length h2).toArray
     |11=>∃ c,v=Vp c 0/\ae u c 128 tu/\uu.heap.size<= c
     |_=>True) (by kernel_rfl) (by kernel_rfl) (by decide) (by kernel_rfl) (fun u u' h hb=>af h hb) ?_ (by first|exact Br|exact Br.drew) ?_ ?_ ?_ ?_ _ _ rfl (by decide) (fun i=>by simp [Array.getD];try (split <;> rfl))
    ·intro i v u u' h hb
     match i,h with
     |0,h=>exact h
     |1,h=>exact h
     |2,h=>exact h
     |3,h=>exact h
     |4,h=>exact h
     |5,h=>exact h
     |6,h=>exact h
     |7,h=>exact h
     |8,h=>exact h
     |9,h=>exact h
     |10,h=>exact h
     |11,⟨c,e,h1,h2⟩=>exact ⟨c,e,h1.below hb,h2⟩
     |_+12,_=>trivial
    rotate_left
    ·intro u i o ρ hi hR ho hρ hc hf hd
     obtain rfl|rfl|rfl|rfl|rfl|rfl|rfl|rfl|rfl|rfl|rfl|rfl:i=0\/i=1\/i=2\/i=3\/i=4\/i=5\/i=6\/i=7\/i=8\/i=9\/i=10\/i=11:=by omega
     all_goals (simp only [List.getElem?_toArray,List.getElem?_cons_zero,List.getElem?_cons_succ,Option.some.injEq] at ho;subst ho)
     ·have s3:ρ (.tmp 3)=Vp G1 0:=(hρ 3 (by kernel_rfl)).trans rfl
      exact .inl ⟨rfl,.inl ⟨Vp G1 4,u,ao rfl s3 (by go_simp),rfl,Br⟩⟩
     ·have h0:ρ (.tmp 42)=Vp G1 4:=dq hd 0 42
      exact .inl ⟨rfl,.inl ⟨Vp G1 5,u,ao rfl h0 (by go_simp),rfl,Br⟩⟩
     ·have h1:ρ (.tmp 43)=Vp G1 5:=dq hd 1 43
      have y9:u.cell? ⟨G1,5,none⟩=some (.slice (some ⟨b2,o2,none⟩) X.op.m m2):=((HA.out.1.below R9.out).below hR).rng 5 _ rfl;have hr:(Instr.loadAt 36 (Vp G1 5)).run prog u=.ok (.slice (some ⟨b2,o2,none⟩) X.op.m m2) u:=by go_simp
      exact .inl ⟨rfl,.inl ⟨.slice (some ⟨b2,o2,none⟩) X.op.m m2,u,ah rfl h1 hr,rfl,Br⟩⟩
     ·have s7:ρ (.tmp 7)=Vi (k:Int):=(hρ 7 (by kernel_rfl)).trans rfl
      exact .inl ⟨rfl,.inl ⟨_,u,rfl,s7,Br⟩⟩
     ·have h2:ρ (.tmp 44)=.slice (some ⟨b2,o2,none⟩) X.op.m m2:=dq hd 2 44
      have h3:ρ (.tmp 45)=Vi (k:Int):=dq hd 3 45;exact .inl ⟨rfl,.inl ⟨Vp b2 (o2+k*13),u,au rfl h2 h3 (by go_simp),rfl,Br⟩⟩
     ·have h4:ρ (.tmp 46)=Vp b2 (o2+k*13):=dq hd 4 46
      exact .inl ⟨rfl,.inl ⟨Vp b2 (o2+k*13+10),u,ao rfl h4 (by go_simp),rfl,Br⟩⟩
     ·have h5:ρ (.tmp 47)=Vp b2 (o2+k*13+10):=dq hd 5 47
      have y9:u.cell? ⟨b2,o2+k*13+10,none⟩=some (.slice (some ⟨b3,o3,none⟩) ((X.op.f k).np) s3):=(ay (ay HD.out.2 HD.out.1 R9.out) (Nat.lt_of_lt_of_le HD.out.1 R9.out.size) hR) 10 _ rfl;have hr:(Instr.loadAt 119 (Vp b2 (o2+k*13+10))).run prog u=.ok (.slice (some ⟨b3,o3,none⟩) ((X.op.f k).np) s3) u:=by go_simp
      exact .inl ⟨rfl,.inl ⟨.slice (some ⟨b3,o3,none⟩) ((X.op.f k).np) s3,u,ah rfl h5 hr,rfl,Br⟩⟩
     ·have s5:ρ (.tmp 5)=Vp G2 0:=(hρ 5 (by kernel_rfl)).trans rfl
      exact .inl ⟨rfl,.inl ⟨Vp G2 1,u,ao rfl s5 (by go_simp),rfl,Br⟩⟩
     ·have h7:ρ (.tmp 49)=Vp G2 1:=dq hd 7 49
      have y9:u.cell? ⟨G2,1,none⟩=some (Vi (j:Int)):=(ay (ay HA.out.2.2.1 HA.out.2.1 R9.out) (Nat.lt_of_lt_of_le HA.out.2.1 R9.out.size) hR) 1 _ rfl;have hr:(Instr.loadAt 3 (Vp G2 1)).run prog u=.ok (Vi (j:Int)) u:=by go_simp
      exact .inl ⟨rfl,.inl ⟨Vi (j:Int),u,ah rfl h7 hr,rfl,Br⟩⟩
     ·have h6:ρ (.tmp 48)=.slice (some ⟨b3,o3,none⟩) ((X.op.f k).np) s3:=dq hd 6 48
      have h8:ρ (.tmp 50)=Vi (j:Int):=dq hd 8 50;exact .inl ⟨rfl,.inl ⟨Vp b3 (o3+j*8),u,au rfl h6 h8 (by go_simp),rfl,Br⟩⟩
     ·have h9:ρ (.tmp 51)=Vp b3 (o3+j*8):=dq hd 9 51
      have hr:(Instr.loadAt 128 (Vp b3 (o3+j*8))).run prog u=.ok (.agg (pL ((X.op.f k).pt j) p1 ((X.op.f k).pt j).q.ws.length h1 p2 ((X.op.f k).pt j).q.bs.length h2).toArray) u:=run_loadAt_mid u b3 (o3+j*8) 128 (pL ((X.op.f k).pt j) p1 ((X.op.f k).pt j).q.ws.length h1 p2 ((X.op.f k).pt j).q.bs.length h2) _ (ay (ay HP.out.2.1 HP.out.1 R9.out) (Nat.lt_of_lt_of_le HP.out.1 R9.out.size) hR) underlying128 rfl (by kernel_rfl);exact .inl ⟨rfl,.inl ⟨.agg (pL ((X.op.f k).pt j) p1 ((X.op.f k).pt j).q.ws.length h1 p2 ((X.op.f k).pt j).q.bs.length h2).toArray,u,ah rfl h9 hr,rfl,Br⟩⟩
     exact .inl ⟨rfl,.inl ⟨_,_,oQ 128 rfl tu 8 96 (by kernel_rfl),⟨_,rfl,ae.new _ _ _,hR.size⟩,aa _ _⟩⟩
    ·intro u o ρ hR ho hρ hc hf hv
     simp only [List.getElem?_toArray,List.getElem?_cons_zero,List.getElem?_cons_succ,Option.some.injEq] at ho;subst ho;obtain ⟨c,e1,k1,k2⟩:∃ c,ρ (.tmp 8)=Vp c 0/\ae u c 128 tu/\uu.heap.size<= c:=hv 11 8 (by decide) rfl;have h10:ρ (.tmp 52)=.agg (pL ((X.op.f k).pt j) p1 ((X.op.f k).pt j).q.ws.length h1 p2 ((X.op.f k).pt j).q.bs.length h2).toArray:=hv 10 52 (by decide) rfl;exact ⟨rfl,.inr (.inr ⟨rfl,aF u c 0 (pL ((X.op.f k).pt j) p1 ((X.op.f k).pt j).q.ws.length h1 p2 ((X.op.f k).pt j).q.bs.length h2),bY rfl e1 h10 ((run_storeAt_mid u c 0 128 (pL ((X.op.f k).pt j) p1 ((X.op.f k).pt j).q.ws.length h1 p2 ((X.op.f k).pt j).q.bs.length h2).toArray (k1.there 0 8 (by simp)) (by kernel_rfl) (by simp [Value.oneCell'])).trans (by rw [bm])),c,e1,ae.wr8 k1 (by simp [bO]),aD k2 _ _ _ hR⟩)⟩
    ·intro u i o ρ hi ho hE hρ hc hf
     have hi2:i+1<13:=by
      have:=(Array.getElem?_eq_some_iff.1 ho).1;simpa using this
     omega
    intro vs σ u hE hvs;obtain ⟨c,eq1,kc,b9⟩:=hE;have e9:vs 11=Vp c 0:=(hvs 11 8 rfl).trans eq1;simp only [bI];rw [e9];have bu:Below W.heap.size W u:=af R9.out b9;have H5:Hid (Below w.heap.size w u/\Rd u 0 (aw ((X.op.f k).pt j).q.ws) (.slice p1 ((X.op.f k).pt j).q.ws.length h1)/\Rd u 0 (ai ((X.op.f k).pt j).q.bs) (.slice p2 ((X.op.f k).pt j).q.bs.length h2)/\Rd u 0 (aw C.q.ws) (.slice e1 C.q.ws.length k1)/\Rd u 0 (ai C.q.bs) (.slice e2 C.q.bs.length k2)/\ae u c 128 (pL ((X.op.f k).pt j) p1 ((X.op.f k).pt j).q.ws.length h1 p2 ((X.op.f k).pt j).q.bs.length h2).toArray/\u.rangeAt G2 0 ([Vi C.id,Vi (j:Int),Vi C.un,Vi C.q.kd,Vi C.q.pl,Vi C.q.n,.slice e1 C.q.ws.length k1,.slice e2 C.q.bs.length k2,Vi C.q.wa])):=⟨af HB.out bu,HP.out.2.2.1.below bu,HP.out.2.2.2.below bu,HA.out.2.2.2.1.below bu,HA.out.2.2.2.2.below bu,kc,ay HA.out.2.2.1 HA.out.2.1 bu⟩
    have g0:u.cell? ⟨c,0,none⟩=_:=kc.cell 0 rfl;have g1:u.cell? ⟨c,1,none⟩=_:=kc.cell 1 rfl;have g2:u.cell? ⟨c,2,none⟩=_:=kc.cell 2 rfl;have g3:u.cell? ⟨c,3,none⟩=_:=kc.cell 3 rfl;have g4:u.cell? ⟨c,4,none⟩=_:=kc.cell 4 rfl;have g5:u.cell? ⟨c,5,none⟩=_:=kc.cell 5 rfl;have g6:u.cell? ⟨c,6,none⟩=_:=kc.cell 6 rfl;have g7:u.cell? ⟨c,7,none⟩=_:=kc.cell 7 rfl;have i2:u.cell? ⟨G2,2,none⟩=_:=H5.out.2.2.2.2.2.2 2 _ rfl;have i3:u.cell? ⟨G2,3,none⟩=_:=H5.out.2.2.2.2.2.2 3 _ rfl;have i4:u.cell? ⟨G2,4,none⟩=_:=H5.out.2.2.2.2.2.2 4 _ rfl;have i5:u.cell? ⟨G2,5,none⟩=_:=H5.out.2.2.2.2.2.2 5 _ rfl;have i6:u.cell? ⟨G2,6,none⟩=_:=H5.out.2.2.2.2.2.2 6 _ rfl;have i7:u.cell? ⟨G2,7,none⟩=_:=H5.out.2.2.2.2.2.2 7 _ rfl;have i8:u.cell? ⟨G2,8,none⟩=_:=H5.out.2.2.2.2.2.2 8 _ rfl;clear hvs b9 bu eq1 e9 kc HB R9;try go_simp
    cases y0
    case false=>
     have t0:(((X.op.f k).pt j).p == (port:Int))=false:=HY.out.1;go_wp2;go_ret;exact ⟨by rw [HF.out,HX.out,HY.out.2.2.2.2.2];rfl,H5.out.1⟩
    have t0:(((X.op.f k).pt j).p == (port:Int))=true:=HY.out.1;cases y1
    case false=>
     have t1:(((X.op.f k).pt j).t == C.un)=false:=HY.out.2.1;go_wp2;go_ret;exact ⟨by rw [HF.out,HX.out,HY.out.2.2.2.2.2];rfl,H5.out.1⟩
    have t1:(((X.op.f k).pt j).t == C.un)=true:=HY.out.2.1;go_wp2_with fail
    refine (lA ((X.op.f k).pt j).q C.q p1 h1 p2 h2 e1 k1 e2 k2 _ H5.out.2.1 H5.out.2.2.1 H5.out.2.2.2.1 H5.out.2.2.2.2.1 HY.out.2.2.2.1.1 HY.out.2.2.2.1.2 HY.out.2.2.2.2.1.1 HY.out.2.2.2.2.1.2).mono ?_;rintro e w9 ⟨rfl,b9⟩;rw [HY.out.2.2.1];have B9:=af H5.out.1 b9;clear b9 g0 g1 g2 g3 g4 g5 g6 g7 i2 i3 i4 i5 i6 i7 i8;cases y2 <;> (go_wp2;go_ret;exact ⟨by rw [HF.out,HX.out,HY.out.2.2.2.2.2];rfl,B9⟩)
   have e27:vs 27=.bool true:=hall 27 (by simp);rw [e27];clear hall e27;have B9:=af HB.out hR;clear hR;try go_simp
   go_wp2;go_ret;exact ⟨by rw [HF.out,HX.out];simp,B9⟩
  intro u i o ρ hR ho hρ hc hf hd
  have hi:i<28:=by
   have:=(Array.getElem?_eq_some_iff.1 ho).1;simpa using this
  obtain rfl|rfl|rfl|rfl|rfl|rfl|rfl|rfl|rfl|rfl|rfl|rfl|rfl|rfl|rfl|rfl|rfl|rfl|rfl|rfl|rfl|rfl|rfl|rfl|rfl|rfl|rfl|rfl:i=0\/i=1\/i=2\/i=3\/i=4\/i=5\/i=6\/i=7\/i=8\/i=9\/i=10\/i=11\/i=12\/i=13\/i=14\/i=15\/i=16\/i=17\/i=18\/i=19\/i=20\/i=21\/i=22\/i=23\/i=24\/i=25\/i=26\/i=27:=by omega
  all_goals (simp only [List.getElem?_toArray,List.getElem?_cons_zero,List.getElem?_cons_succ,Option.some.injEq] at ho;subst ho)
  ·exact yr rfl (hρ 7 (by kernel_rfl)) hR
  ·exact yr (aG rfl (dq hd 0 14) (hc _) (by go_simp)) rfl hR
  ·exact yr rfl (dq hd 1 15) hR
  ·exact yq hd 2 16 (ao rfl (hρ 5 (by kernel_rfl)) (by go_simp)) rfl hR
  ·have y9:=(ay HA.out.2.2.1 HA.out.2.1 hR) 1 _ rfl
   exact yq hd 2 16 (ah rfl (dq hd 3 17) (by go_simp)) rfl hR
  ·exact yq hd 2 16 (ao rfl (hρ 3 (by kernel_rfl)) (by go_simp)) rfl hR
  ·exact yq hd 2 16 (ao rfl (dq hd 5 19) (by go_simp)) rfl hR
  ·have y9:=(HA.out.1.below hR).rng 5 _ rfl
   exact yq hd 2 16 (ah rfl (dq hd 6 20) (by go_simp)) rfl hR
  ·exact yq hd 2 16 rfl (hρ 7 (by kernel_rfl)) hR
  ·exact yq hd 2 16 (au rfl (dq hd 7 21) (dq hd 8 22) (by go_simp)) rfl hR
  ·exact yq hd 2 16 (ao rfl (dq hd 9 23) (by go_simp)) rfl hR
  ·have y9:=(ay HD.out.2 HD.out.1 hR) 10 _ rfl
   exact yq hd 2 16 (ah rfl (dq hd 10 24) (by go_simp)) rfl hR
  ·exact yq hd 2 16 (nd underlying119 rfl (dq hd 11 25)) rfl hR
  ·exact yq hd 2 16 (aG rfl (dq hd 4 18) (dq hd 12 26) (by go_simp)) rfl hR
  ·exact yr (aC rfl (dq hd 2 16)) (by simpa using (dq hd 13 27)) hR
  ·exact yr rfl (dq hd 14 28) hR
  ·exact yq hd 15 29 (ao rfl (hρ 3 (by kernel_rfl)) (by go_simp)) rfl hR
  ·exact yq hd 15 29 (ao rfl (dq hd 16 30) (by go_simp)) rfl hR
  ·have y9:=(HA.out.1.below hR).rng 5 _ rfl
   exact yq hd 15 29 (ah rfl (dq hd 17 31) (by go_simp)) rfl hR
  ·exact yq hd 15 29 rfl (hρ 7 (by kernel_rfl)) hR
  ·exact yq hd 15 29 (au rfl (dq hd 18 32) (dq hd 19 33) (by go_simp)) rfl hR
  ·exact yq hd 15 29 (ao rfl (dq hd 20 34) (by go_simp)) rfl hR
  ·have y9:=(ay HD.out.2 HD.out.1 hR) 11 _ rfl
   exact yq hd 15 29 (ah rfl (dq hd 21 35) (by go_simp)) rfl hR
  ·exact yq hd 15 29 (ao rfl (hρ 5 (by kernel_rfl)) (by go_simp)) rfl hR
  ·have y9:=(ay HA.out.2.2.1 HA.out.2.1 hR) 1 _ rfl
   exact yq hd 15 29 (ah rfl (dq hd 23 37) (by go_simp)) rfl hR
  ·exact yq hd 15 29 (au rfl (dq hd 22 36) (dq hd 24 38) (by go_simp)) rfl hR
  ·cases x
   ·have y9:u.cell? ⟨b4,o4+j,none⟩=some (.bool false):=(ay HH.out.2 HH.out.1 hR) 0 _ rfl
    exact yq hd 15 29 (ah rfl (dq hd 25 39) (by go_simp)) rfl hR
   have y9:u.cell? ⟨b4,o4+j,none⟩=some (.bool true):=(ay HH.out.2 HH.out.1 hR) 0 _ rfl;exact yq hd 15 29 (ah rfl (dq hd 25 39) (by go_simp)) rfl hR
  exact yr (aC rfl (dq hd 15 29)) (by simpa using (dq hd 26 40)) hR
 have f13:((X.op.f k).np:Int)<= (j:Int):=by omega
 have HF:Hid (fc (cW X.op X.op.m) (gH port C)=false):=by
  show fc (cW X.op X.op.m) (C.id,C.pa,gG port C)=_;rw [hF,decide_eq_false (by have:=HO.out.2.2.2;omega),Bool.false_and]
 have HD:Hid (b2<W.heap.size/\W.rangeAt b2 (o2+k*13) (dL (X.op.f k) t1 (X.op.f k).q.ws.length s1 t2 (X.op.f k).q.bs.length s2 t3 (X.op.f k).np s3 t4 (X.op.f k).hs.length s4 t5 (X.op.f k).nt s5)):=⟨hb2,hr2⟩
 clear hF hb2 hl2 hr2 hd2 z1 z2 z3 z4 z5 hfirst hid hnp;go_upto_region 2 with fail
 try go_simp
 refine wp_region_any (by kernel_rfl) ?_
 refine bw (fun u=>Below W.heap.size W u) (fun i v u=>match i with
  |0=>v=Vi (k:Int)
  |1=>v=.bool false
  |2=>v=.bool false
  |3=>v=Vp G2 1
  |4=>v=Vi (j:Int)
  |5=>v=Vp G1 4
  |6=>v=Vp G1 5
  |7=>v=.slice (some ⟨b2,o2,none⟩) X.op.m m2
  |8=>v=Vi (k:Int)
  |9=>v=Vp b2 (o2+k*13)
  |10=>v=Vp b2 (o2+k*13+10)
  |11=>v=.slice t3 ((X.op.f k).np) s3
  |12=>v=Vi ((X.op.f k).np:Int)
  |13=>v=.bool true
  |14=>v=.bool true
  |15=>v=.bool true
  |16=>v=undef
  |17=>v=undef
  |18=>v=undef
  |19=>v=undef
  |20=>v=undef
  |21=>v=undef
  |22=>v=undef
  |23=>v=undef
  |24=>v=undef
  |25=>v=undef
  |26=>v=undef
  |27=>v=.bool true
  |_=>True) (by kernel_rfl) (by kernel_rfl) (fun _ _ _ _ h _=>h) (by first|exact Br|exact Br.drew) ?_ ?_ _ _ rfl (by decide) (fun i=>by simp [Array.getD];try (split <;> rfl))
 ·intro vs u hR hall
  have e27:vs 27=.bool true:=hall 27 (by simp);simp only [bI];rw [e27];clear hall e27;have B9:=af HB.out hR;clear hR;try go_simp
  go_wp2;go_ret;exact ⟨by rw [HF.out];rfl,B9⟩
 intro u i o ρ hR ho hρ hc hf hd
 have hi:i<28:=by
  have:=(Array.getElem?_eq_some_iff.1 ho).1;simpa using this
 obtain rfl|rfl|rfl|rfl|rfl|rfl|rfl|rfl|rfl|rfl|rfl|rfl|rfl|rfl|rfl|rfl|rfl|rfl|rfl|rfl|rfl|rfl|rfl|rfl|rfl|rfl|rfl|rfl:i=0\/i=1\/i=2\/i=3\/i=4\/i=5\/i=6\/i=7\/i=8\/i=9\/i=10\/i=11\/i=12\/i=13\/i=14\/i=15\/i=16\/i=17\/i=18\/i=19\/i=20\/i=21\/i=22\/i=23\/i=24\/i=25\/i=26\/i=27:=by omega
 all_goals (simp only [List.getElem?_toArray,List.getElem?_cons_zero,List.getElem?_cons_succ,Option.some.injEq] at ho;subst ho)
 ·exact yr rfl (hρ 7 (by kernel_rfl)) hR
 ·have h0:ρ (.tmp 14)=Vi (k:Int):=dq hd 0 14
  exact yr (aG rfl h0 (hc _) (by go_simp)) rfl hR
 ·have h1:ρ (.tmp 15)=.bool false:=dq hd 1 15
  exact yr rfl h1 hR
 ·exact yq hd 2 16 (ao rfl (hρ 5 (by kernel_rfl)) (by go_simp)) rfl hR
 ·have h3:ρ (.tmp 17)=Vp G2 1:=dq hd 3 17
  have y9:=(ay HA.out.2.2.1 HA.out.2.1 hR) 1 _ rfl;exact yq hd 2 16 (ah rfl h3 (by go_simp)) rfl hR
 ·exact yq hd 2 16 (ao rfl (hρ 3 (by kernel_rfl)) (by go_simp)) rfl hR
 ·have h5:ρ (.tmp 19)=Vp G1 4:=dq hd 5 19
  exact yq hd 2 16 (ao rfl h5 (by go_simp)) rfl hR
 ·have h6:ρ (.tmp 20)=Vp G1 5:=dq hd 6 20
  have y9:=(HA.out.1.below hR).rng 5 _ rfl;exact yq hd 2 16 (ah rfl h6 (by go_simp)) rfl hR
 ·exact yq hd 2 16 rfl (hρ 7 (by kernel_rfl)) hR
 ·have h7:ρ (.tmp 21)=.slice (some ⟨b2,o2,none⟩) X.op.m m2:=dq hd 7 21
  have h8:ρ (.tmp 22)=Vi (k:Int):=dq hd 8 22;exact yq hd 2 16 (au rfl h7 h8 (by go_simp)) rfl hR
 ·have h9:ρ (.tmp 23)=Vp b2 (o2+k*13):=dq hd 9 23
  exact yq hd 2 16 (ao rfl h9 (by go_simp)) rfl hR
 ·have h10:ρ (.tmp 24)=Vp b2 (o2+k*13+10):=dq hd 10 24
  have y9:=(ay HD.out.2 HD.out.1 hR) 10 _ rfl;exact yq hd 2 16 (ah rfl h10 (by go_simp)) rfl hR
 ·have h11:ρ (.tmp 25)=.slice t3 ((X.op.f k).np) s3:=dq hd 11 25
  exact yq hd 2 16 (nd underlying119 rfl h11) rfl hR
 ·have h4:ρ (.tmp 18)=Vi (j:Int):=dq hd 4 18
  have h12:ρ (.tmp 26)=Vi ((X.op.f k).np:Int):=dq hd 12 26;exact yq hd 2 16 (aG rfl h4 h12 (by go_simp)) rfl hR
 ·have h2:ρ (.tmp 16)=.bool false:=dq hd 2 16
  have h13:ρ (.tmp 27)=.bool true:=dq hd 13 27;exact yr (aC rfl h2) (by simpa using h13) hR
 ·have h14:ρ (.tmp 28)=.bool true:=dq hd 14 28
  exact yr rfl h14 hR
 ·exact aj (.bool true) hd 15 29
 ·exact aj (.bool true) hd 15 29
 ·exact aj (.bool true) hd 15 29
 ·exact aj (.bool true) hd 15 29
 ·exact aj (.bool true) hd 15 29
 ·exact aj (.bool true) hd 15 29
 ·exact aj (.bool true) hd 15 29
 ·exact aj (.bool true) hd 15 29
 ·exact aj (.bool true) hd 15 29
 ·exact aj (.bool true) hd 15 29
 ·exact aj (.bool true) hd 15 29
 have h15:ρ (.tmp 29)=.bool true:=dq hd 15 29;exact yr (aC rfl h15) (by simpa using hc _) hR
theorem pI(L:La)(l1 l2:Nat):fE L l1 l2=if L.bz=true then dw L.c && (aB L.nu 0 65535 && (aB L.du 0 4294967295 && aB L.le 0 L.tr)) else dj L.c l1 l2 && ((L.nu == 0) && ((L.du == 0) && (L.le == 0))):=by
 unfold fE aB;cases L.bz <;> simp
theorem lH(L:La)(n cp:Nat)(a a1 a2:OA)(l1 l2 c1 c2:Nat)(f:Nat->Ca)(w:World)(hs:kG w n f L a a1 a2 l1 l2)(hb:pm n f)(hl1:l1<= 2000000)(hl2:l2<= 2000000):
 Calls prog 47 #[.agg (qS L a n cp a1 a2 l1 l2 c1 c2)] w fun e w'=>e=.returned (.bool (iE n f L l1 l2))/\Below w.heap.size w w':=by
 obtain ⟨g,hg⟩:∃ g,g=w.heap.size:=⟨_,rfl⟩
 obtain ⟨W,hW⟩:∃ W,W=w.alloc (.cells (qS L a n cp a1 a2 l1 l2 c1 c2) 90):=⟨_,rfl⟩
 have bW:Below w.heap.size w W:=by rw [hW];exact aa _ _
 have A0:ae W g 90 (qS L a n cp a1 a2 l1 l2 c1 c2):=by rw [hW,hg];exact ae.new _ _ _
 obtain ⟨x0,hx0⟩:∃ x,aB L.wt 1 100=x:=⟨_,rfl⟩
 obtain ⟨x1,hx1⟩:∃ x,aB L.tr 0 5=x:=⟨_,rfl⟩
 obtain ⟨x2,hx2⟩:∃ x,aB L.nx 0 65535=x:=⟨_,rfl⟩
 obtain ⟨x4,hx4⟩:∃ x,decide (n<= 40)=x:=⟨_,rfl⟩
 have he:iE n f L l1 l2=(x0 && (x1 && (x4 && (x2 && (dx f n && fE L l1 l2))))):=by unfold iE;rw [hx0,hx1,hx2,hx4]
 have H4:Hid (decide (n<= 40)=x4):=hx4;have HX:Hid (aB L.wt 1 100=x0/\aB L.tr 0 5=x1/\aB L.nx 0 65535=x2/\ae W g 90 (qS L a n cp a1 a2 l1 l2 c1 c2)/\kG W n f L a a1 a2 l1 l2/\pm n f/\Below w.heap.size w W):=⟨hx0,hx1,hx2,A0,hs.below bW,hb,bW⟩
 rw [he];obtain ⟨⟨y0,y1,y2,y3,y4,y5,y6,y7,y8,y9,y10,y11,y12,y13,y14,y15,y16⟩,_⟩:=A0.svn;have hn2:=hb.1;clear hx0 hx1 hx2 hx4 hs hb he A0 bW;go_enter func47,ntmps47
 go_upto_region 1 with fail
 rw [<- hW,<- hg];clear hW hg;go_wp2_with fail
 refine (aI _ _ _ _ _ HX.out.1).mono ?_;rintro e w1 ⟨rfl,hw⟩;have hw:=hw.symm;subst hw;cases x0
 case false=>
  go_wp2;go_ret;exact ⟨rfl,HX.out.2.2.2.2.2.2⟩
 go_wp2_with fail
 refine (aI _ _ _ _ _ HX.out.2.1).mono ?_;rintro e w1 ⟨rfl,hw⟩;have hw:=hw.symm;subst hw;cases x1
 case false=>
  go_wp2;go_ret;exact ⟨rfl,HX.out.2.2.2.2.2.2⟩
 cases x4 with
 |true=>
  have hg4:¬ (40<(n:Int)):=by have:=of_decide_eq_true H4.out;omega
  have h40:n<= 40:=by omega
  go_wp2_with fail
  refine (aI _ _ _ _ _ HX.out.2.2.1).mono ?_;rintro e w1 ⟨rfl,hw⟩;have hw:=hw.symm;subst hw;cases x2
  case false=>
   go_wp2;go_ret;exact ⟨rfl,HX.out.2.2.2.2.2.2⟩
  go_wp2;clear y0 y1 y2 y3 y4 y5 y6 y7 y8 y9 y10 y11 y12 y13 y14 y15 y16;go_loopw [3] (fun i wr=>∃ k:Nat,k<= n/\i=Vi k/\dx f k=true/\Below W.heap.size W wr) (fun i _=>n-(intOf i).toNat)
  case atStart=>exact ⟨0,Nat.zero_le _,rfl,rfl,Br⟩
  case round=>
   obtain ⟨k,hk,rfl,hall,hbl⟩:=hrel;obtain ⟨⟨y0,y1,y2,y3,y4,y5,y6,y7,y8,y9,y10,y11,y12,y13,y14,y15,y16⟩,_⟩:=(HX.out.2.2.2.1.below hbl).svn;by_cases hlt:k<n
   ·have hi:(k:Int)<(n:Int):=by omega
    obtain ⟨b,off,b1,b2,m1,m2,k1,k2,rfl,hb0,hm1,hm2,⟨d0,d1,d2,d3,d4,d5,d6,d7,d8⟩,s1,s2⟩:=mK.nine (HX.out.2.2.2.2.1.2.2.1.below hbl) hlt;obtain ⟨C,hC⟩:∃ C,C=f k:=⟨_,rfl⟩
    rw [<- hC] at d0 d1 d2 d3 d4 d5 d8 hm1 hm2 s1 s2;obtain ⟨x,hx⟩:∃ x,dw C=x:=⟨_,rfl⟩
    have hbd:=HX.out.2.2.2.2.2.1.2 k hlt;have HS:Hid (aZ wr b1 C.ws/\be wr b2 C.bs/\m1=C.ws.length/\m2=C.bs.length/\m1<= 2000000/\m2<= 2000000/\C=f k/\dw C=x/\dx f k=true/\Below W.heap.size W wr):=⟨s1,s2,hm1,hm2,by rw [hm1,hC];exact hbd.1,by rw [hm2,hC];exact hbd.2,hC,hx,hall,hbl⟩
    clear s1 s2 hm1 hm2 hC hx hbd hb0 hall hbl;go_wp2_with fail
    refine (jD C b1 b2 m1 m2 k1 k2 _ HS.out.2.2.1 HS.out.2.2.2.1 HS.out.1 HS.out.2.1 HS.out.2.2.2.2.1 HS.out.2.2.2.2.2.1).mono ?_;rintro e w1 ⟨rfl,b9⟩;rw [HS.out.2.2.2.2.2.2.2.1];have HW:Hid (Below W.heap.size W w1):=af HS.out.2.2.2.2.2.2.2.2.2 b9;clear b9 d0 d1 d2 d3 d4 d5 d6 d7 d8 y0 y1 y2 y3 y4 y5 y6 y7 y8 y9 y10 y11 y12 y13 y14 y15 y16;cases x
    case false=>
     have HF:Hid (dx f n=false):=py hlt (by rw [<- HS.out.2.2.2.2.2.2.1];exact HS.out.2.2.2.2.2.2.2.1);go_wp2;go_ret;exact ⟨(by rw [HF.out];rfl),af HX.out.2.2.2.2.2.2 HW.out⟩
    have HF:Hid (dx f (k+1)=true):=by show (dx f k && dw (f k))=true;rw [HS.out.2.2.2.2.2.2.2.2.1,<- HS.out.2.2.2.2.2.2.1,HS.out.2.2.2.2.2.2.2.1];rfl
    go_wp2;go_roundw
    case rel=>exact ⟨k+1,by omega,by go_num,HF.out,HW.out⟩
    case measure=>simp [intOf];omega
   have hi:¬ (k:Int)<(n:Int):=by omega
   have e9:k=n:=by omega
   subst e9;obtain ⟨ab,hab⟩:∃ ab,fE L l1 l2=ab:=⟨_,rfl⟩
   have HF:Hid (dx f k=true/\fE L l1 l2=ab/\ae wr g 90 (qS L a k cp a1 a2 l1 l2 c1 c2)/\kG wr k f L a a1 a2 l1 l2/\Below w.heap.size w wr):=⟨hall,hab,HX.out.2.2.2.1.below hbl,HX.out.2.2.2.2.1.below hbl,af HX.out.2.2.2.2.2.2 hbl⟩
   clear hall hab hbl HX;obtain ⟨bz,hbz⟩:∃ bz,L.bz=bz:=⟨_,rfl⟩
   rw [hbz] at y1;cases bz
   case false=>
    obtain ⟨z0,hz0⟩:∃ z,dj L.c l1 l2=z:=⟨_,rfl⟩
    have HZ:Hid (dj L.c l1 l2=z0/\ab=(z0 && ((L.nu == 0) && ((L.du == 0) && (L.le == 0))))):=⟨hz0,by rw [<- HF.out.2.1,pI,hbz,<- hz0];rfl⟩
    clear hbz hz0;cases z0
    case false=>
     go_wp2_with fail
     refine (eb L.c a1 a2 l1 l2 c1 c2 _).mono ?_;rintro e w1 ⟨rfl,b1⟩;rw [HZ.out.1];have HB:Hid (Below w.heap.size w w1):=af HF.out.2.2.2.2 b1;clear b1 y0 y1 y2 y3 y4 y5 y6 y7 y8 y9 y10 y11 y12 y13 y14 y15 y16;go_wp2;go_ret;exact ⟨(by rw [HF.out.1,HF.out.2.1,HZ.out.2];rfl),HB.out⟩
    obtain ⟨t0,q0⟩:∃ t,(L.nu == 0)=t:=⟨_,rfl⟩
    have HZ0:=HZ;clear HZ;have HZ:=dM (show _ from by have h9:=HZ0.out;rw [q0] at h9;exact h9);cases t0
    case false=>
     go_wp2_with fail
     refine (eb L.c a1 a2 l1 l2 c1 c2 _).mono ?_;rintro e w1 ⟨rfl,b1⟩;rw [HZ.out.1];have HB:Hid (Below w.heap.size w w1):=af HF.out.2.2.2.2 b1;clear y0 y1 y2 y3 y4 y5 y6 y7 y8 y9 y10 y11 y12 y13 y14 y15 y16;obtain ⟨⟨y0,y1,y2,y3,y4,y5,y6,y7,y8,y9,y10,y11,y12,y13,y14,y15,y16⟩,_⟩:=(HF.out.2.2.1.below b1).svn;clear b1;go_wp2;go_ret;exact ⟨(by rw [HF.out.1,HF.out.2.1,HZ.out.2];rfl),HB.out⟩
    obtain ⟨t1,q1⟩:∃ t,(L.du == 0)=t:=⟨_,rfl⟩
    have HZ1:=HZ;clear HZ;have HZ:=dM (show _ from by have h9:=HZ1.out;rw [q1] at h9;exact h9);cases t1
    case false=>
     go_wp2_with fail
     refine (eb L.c a1 a2 l1 l2 c1 c2 _).mono ?_;rintro e w1 ⟨rfl,b1⟩;rw [HZ.out.1];have HB:Hid (Below w.heap.size w w1):=af HF.out.2.2.2.2 b1;clear y0 y1 y2 y3 y4 y5 y6 y7 y8 y9 y10 y11 y12 y13 y14 y15 y16;obtain ⟨⟨y0,y1,y2,y3,y4,y5,y6,y7,y8,y9,y10,y11,y12,y13,y14,y15,y16⟩,_⟩:=(HF.out.2.2.1.below b1).svn;clear b1;go_wp2;go_ret;exact ⟨(by rw [HF.out.1,HF.out.2.1,HZ.out.2];rfl),HB.out⟩
    obtain ⟨t2,q2⟩:∃ t,(L.le == 0)=t:=⟨_,rfl⟩
    have HZ2:=HZ;clear HZ;have HZ:=dM (show _ from by have h9:=HZ2.out;rw [q2] at h9;exact h9);cases t2
    case false=>
     go_wp2_with fail
     refine (eb L.c a1 a2 l1 l2 c1 c2 _).mono ?_;rintro e w1 ⟨rfl,b1⟩;rw [HZ.out.1];have HB:Hid (Below w.heap.size w w1):=af HF.out.2.2.2.2 b1;clear y0 y1 y2 y3 y4 y5 y6 y7 y8 y9 y10 y11 y12 y13 y14 y15 y16;obtain ⟨⟨y0,y1,y2,y3,y4,y5,y6,y7,y8,y9,y10,y11,y12,y13,y14,y15,y16⟩,_⟩:=(HF.out.2.2.1.below b1).svn;clear b1;go_wp2;go_ret;exact ⟨(by rw [HF.out.1,HF.out.2.1,HZ.out.2];rfl),HB.out⟩
    go_wp2_with fail
    refine (eb L.c a1 a2 l1 l2 c1 c2 _).mono ?_;rintro e w1 ⟨rfl,b1⟩;rw [HZ.out.1];have HB:Hid (Below w.heap.size w w1):=af HF.out.2.2.2.2 b1;clear y0 y1 y2 y3 y4 y5 y6 y7 y8 y9 y10 y11 y12 y13 y14 y15 y16;obtain ⟨⟨y0,y1,y2,y3,y4,y5,y6,y7,y8,y9,y10,y11,y12,y13,y14,y15,y16⟩,_⟩:=(HF.out.2.2.1.below b1).svn;clear b1;go_wp2;go_ret;exact ⟨(by rw [HF.out.1,HF.out.2.1,HZ.out.2];rfl),HB.out⟩
   obtain ⟨z0,hz0⟩:∃ z,dw L.c=z:=⟨_,rfl⟩
   obtain ⟨z1,hz1⟩:∃ z,aB L.nu 0 65535=z:=⟨_,rfl⟩
   obtain ⟨z2,hz2⟩:∃ z,aB L.du 0 4294967295=z:=⟨_,rfl⟩
   obtain ⟨z3,hz3⟩:∃ z,aB L.le 0 L.tr=z:=⟨_,rfl⟩
   have HZ:Hid (dw L.c=z0/\aB L.nu 0 65535=z1/\aB L.du 0 4294967295=z2/\aB L.le 0 L.tr=z3/\ab=(z0 && (z1 && (z2 && z3)))):=⟨hz0,hz1,hz2,hz3,by rw [<- HF.out.2.1,pI,hbz,hz0,hz1,hz2,hz3];rfl⟩
   clear hbz hz0 hz1 hz2 hz3;go_wp2_with fail
   refine (jD L.c a1 a2 l1 l2 c1 c2 _ HF.out.2.2.2.1.1 HF.out.2.2.2.1.2.1 HF.out.2.2.2.1.2.2.2.1 HF.out.2.2.2.1.2.2.2.2 hl1 hl2).mono ?_;rintro e w1 ⟨rfl,b1⟩;rw [HZ.out.1];have HB:Hid (Below w.heap.size w w1):=af HF.out.2.2.2.2 b1;clear y0 y1 y2 y3 y4 y5 y6 y7 y8 y9 y10 y11 y12 y13 y14 y15 y16;obtain ⟨⟨y0,y1,y2,y3,y4,y5,y6,y7,y8,y9,y10,y11,y12,y13,y14,y15,y16⟩,_⟩:=(HF.out.2.2.1.below b1).svn;clear b1;cases z0
   case false=>
    go_wp2;go_ret;exact ⟨(by rw [HF.out.1,HF.out.2.1,HZ.out.2.2.2.2];rfl),HB.out⟩
   go_wp2_with fail
   refine (aI _ _ _ _ _ HZ.out.2.1).mono ?_;rintro e w2 ⟨rfl,rfl⟩;cases z1
   case false=>
    go_wp2;go_ret;exact ⟨(by rw [HF.out.1,HF.out.2.1,HZ.out.2.2.2.2];rfl),HB.out⟩
   go_wp2_with fail
   refine (px _ _ _ HZ.out.2.2.1).mono ?_;rintro e w2 ⟨rfl,rfl⟩;cases z2
   case false=>
    go_wp2;go_ret;exact ⟨(by rw [HF.out.1,HF.out.2.1,HZ.out.2.2.2.2];rfl),HB.out⟩
   go_wp2_with fail
   refine (aI _ _ _ _ _ HZ.out.2.2.2.1).mono ?_;rintro e w2 ⟨rfl,rfl⟩;go_wp2;go_ret;exact ⟨(by rw [HF.out.1,HF.out.2.1,HZ.out.2.2.2.2];rfl),HB.out⟩
 |false=>
  have hg4:40<(n:Int):=by have:=of_decide_eq_false H4.out;omega
  go_wp2;go_ret;exact ⟨rfl,HX.out.2.2.2.2.2.2⟩
end Go.Proofs.YtohikbpolofklaaGreat
namespace Go.Proofs.YtohikbpolofklaaGreat
open Go.RowKit Go.Proofs.Tryz
theorem oS(kd kd' fl:Int)(pl nn wa:Int)(q1 q2:OA)(m1 m2 k1 k2:Nat)(qs:List Int)(qb:List Bool)(ap an:Int)(a1 a2:OA)(l1 l2 c1 c2:Nat)(ws:List Int)(bs:List Bool)(w:World)(g1:m1=qs.length)(g2:m2=qb.length)(t1:aZ w q1 qs)(t2:be w q2 qb)(hm1:qs.length<= 2000000)(hm2:qb.length<= 2000000)(h1:l1=ws.length)(h2:l2=bs.length)(s1:aZ w a1 ws)(s2:be w a2 bs)(hl1:ws.length<= 2000000)(hl2:bs.length<= 2000000):
 Calls prog 127 #[rq kd pl nn wa q1 q2 m1 m2 k1 k2,rp kd' fl ap an a1 a2 l1 l2 c1 c2] w fun e w'=>e=.returned (.bool (gQ kd pl nn wa m1 m2 qs qb kd' fl ap an l1 l2 ws bs))/\Below w.heap.size w w':=by
 obtain ⟨W0,hW0⟩:∃ W0,W0=(w.alloc (.cells #[Vi kd,Vi pl,Vi nn,.slice q1 m1 k1,.slice q2 m2 k2,Vi wa] 86)).alloc (.cells #[Vi kd',Vi fl,Vi ap,Vi an,.slice a1 l1 c1,.slice a2 l2 c2] 162):=⟨_,rfl⟩
 have HW:Hid (W0=_):=hW0;have B0:Below w.heap.size w W0:=by rw [hW0];exact ak (aa w _) (aa _ _)
 have X0:ae W0 w.heap.size 86 #[Vi kd,Vi pl,Vi nn,.slice q1 m1 k1,.slice q2 m2 k2,Vi wa]:=by rw [hW0];exact (ae.new w _ _).below (aa _ _)
 have Y0:ae W0 (w.heap.size+1) 162 #[Vi kd',Vi fl,Vi ap,Vi an,.slice a1 l1 c1,.slice a2 l2 c2]:=by
  rw [hW0];have:=ae.new (w.alloc (.cells #[Vi kd,Vi pl,Vi nn,.slice q1 m1 k1,.slice q2 m2 k2,Vi wa] 86)) #[Vi kd',Vi fl,Vi ap,Vi an,.slice a1 l1 c1,.slice a2 l2 c2] 162;simpa using this
 have HL:=gY g1 g2 h1 h2;have HS:=gY (t1.below B0) (t2.below B0) (s1.below B0) (s2.below B0);obtain ⟨x0,x1,x2,x3,x4,x5⟩:=X0.six;obtain ⟨y0,y1,y2,y3,y4,y5⟩:=Y0.six;clear hW0 g1 g2 h1 h2 t1 t2 s1 s2;go_enter func127,ntmps127
 go_upto_region 1 with fail
 rw [<- HW.out];go_wp2_with fail
 refine (bo (ib kd pl nn wa q1 q2 m1 m2 k1 k2 qs qb _ HL.out.1 HL.out.2.1 HS.out.1 HS.out.2.1 hm1 hm2)).mono ?_;rintro e w1 ⟨b',⟨hq,rfl⟩|⟨hq,rfl⟩⟩;rotate_left
 ·have B1:=ak B0 b'
  go_wp2;go_ret;exact ⟨by simp [gQ,hq],B1⟩
 have HQ:Hid (bN kd pl nn wa qs m1 m2=true):=hq;have B1:=ak B0 b';have X1:=X0.below b';have Y1:=Y0.below b';have HS1:=gY (HS.out.1.below b') (HS.out.2.1.below b') (HS.out.2.2.1.below b') (HS.out.2.2.2.below b');clear hq b' B0 X0 Y0 x0 x1 x2 x3 x4 x5 y0 y1 y2 y3 y4 y5;obtain ⟨x0,x1,x2,x3,x4,x5⟩:=X1.six;obtain ⟨y0,y1,y2,y3,y4,y5⟩:=Y1.six;go_wp2_with fail
 refine (bo (nB kd' fl ap an a1 a2 l1 l2 c1 c2 ws bs _ HL.out.2.2.1 HL.out.2.2.2 HS1.out.2.2.1 HS1.out.2.2.2 hl1 hl2)).mono ?_;rintro e w2 ⟨b',⟨ha,rfl⟩|⟨ha,rfl⟩⟩;rotate_left
 ·have B2:=ak B1 b'
  go_wp2;go_ret;exact ⟨by simp [gQ,ha],B2⟩
 have B2:=ak B1 b';have X2:=X1.below b';have Y2:=Y1.below b';have HS2:=gY (HS1.out.1.below b') (HS1.out.2.1.below b') (HS1.out.2.2.1.below b') (HS1.out.2.2.2.below b');have HA:Hid (dK kd' fl ap an ws l1 l2=true):=ha;clear b' B1 X1 Y1 x0 x1 x2 x3 x4 x5 y0 y1 y2 y3 y4 y5;obtain ⟨x0,x1,x2,x3,x4,x5⟩:=X2.six;obtain ⟨y0,y1,y2,y3,y4,y5⟩:=Y2.six;by_cases hk:kd=kd'
 rotate_left
 ·have hkb:(kd == kd')=false:=by simp [hk]
  clear ha;go_wp2;go_ret;exact ⟨by simp [gQ,hk],B2⟩
 subst hk;have hf:0<= fl:=by simp [dK,aB] at ha;omega
 clear ha;by_cases h0:fl=0
 rotate_left
 ·have hf0:0<fl:=by omega
  go_wp2;go_ret;exact ⟨by simp [gQ,HQ.out,HA.out,h0],B2⟩
 subst h0;have HE:Hid (gQ kd pl nn wa m1 m2 qs qb kd 0 ap an l1 l2 ws bs=fH kd pl nn m1 m2 qs qb ap an l1 l2 ws bs):=by show _=_;simp [gQ,HQ.out,HA.out]
 clear hf;obtain (rfl|rfl)|(rfl|rfl|rfl)|rfl|(rfl|rfl|rfl|rfl):(kd=1\/kd=2)\/(kd=3\/kd=4\/kd=23)\/kd=5\/(kd=6\/kd=22\/kd=15\/kd=16):=by have:=jW HQ.out;omega
 iterate 2
  focus
   have hN:1<= nn/\nn<= 2000:=by have:=HQ.out;simp [bN,dO,bR,aB,dr] at this;omega
   have hB:1<= l2/\l2<= 2000:=by have:=HA.out;simp [dK,ig,cR,aB,bF] at this;omega
   obtain ⟨N,rfl⟩:∃ N:Nat,nn=(N:Int):=⟨nn.toNat,by omega⟩
   go_wp2_with fail
   go_loopw [5] (fun i wr=>∃ k:Nat,N<= k/\i=Vi k/\(∀ j,N<= j->j<k->j<bs.length->bs.getD j false=false)/\wr=w2) (fun i _=>l2-(intOf i).toNat)
   case atStart=>exact ⟨N,Nl,rfl,fun j h1 h2 _=>by omega,rfl⟩
   case round=>
    obtain ⟨k,hk,rfl,hz,rfl⟩:=hrel;have HZ:Hid (∀ j,N<= j->j<k->j<bs.length->bs.getD j false=false):=hz;clear hz;by_cases hlt:k<l2
    ·have hi:(k:Int)<(l2:Int):=by omega
     obtain ⟨b,off,rfl,_,hc⟩:=b7 HS2.out.2.2.2 (show k<bs.length by have:=HL.out;omega);cases hx:bs.getD k false
     ·rw [hx] at hc
      have HN:Hid (∀ j,N<= j->j<k+1->j<bs.length->bs.getD j false=false):=by
       intro j h1 h2 h3;by_cases h:j<k
       ·exact HZ.out j h1 h h3
       rw [show j=k by omega];exact hx
      clear hx;go_wp2;go_roundw
      case rel=>exact ⟨k+1,by omega,by go_num,HN.out,trivial⟩
      case measure=>simp [intOf];omega
     rw [hx] at hc;have HX:Hid (fG bs N=false):=rh hk (by have:=HL.out;omega) hx;clear hx;go_wp2;go_ret;exact ⟨by rw [HE.out];simp [fH,HX.out],B2⟩
    have HX:Hid (fG bs N=true):=decide_eq_true (fun j hj h=>HZ.out j h (by have:=HL.out;omega) hj);go_wp2;go_ret;refine ⟨?_,B2⟩
    rw [HE.out];simp [fH,HX.out];try (rw [Bool.eq_iff_iff];simp)
    try omega
 iterate 3
  focus
   go_wp2;go_ret;refine ⟨?_,B2⟩
   rw [HE.out];simp [fH];first|done|rfl
 ·obtain rfl:m2=1:=by have:=HQ.out;simp [bN,dO,bR,aB,dr] at this;omega
  obtain rfl:l2=1:=by have:=HA.out;simp [dK,ig,cR,aB,bF] at this;omega
  obtain ⟨u,rfl⟩:∃ u,qb=[u]:=by match qb,HL.out.2.1 with| [u],_=>exact ⟨u,rfl⟩
  obtain ⟨v,rfl⟩:∃ v,bs=[v]:=by match bs,HL.out.2.2.2 with| [v],_=>exact ⟨v,rfl⟩
  obtain ⟨bq,oq,rfl,_,hcq⟩:=b7 (k:=0) HS2.out.2.1 (by simp);obtain ⟨ba,oa,rfl,_,hca⟩:=b7 (k:=0) HS2.out.2.2.2 (by simp);simp at hcq hca;by_cases hA:ap=pl
  ·subst hA
   go_wp2_with fail
   go_quiet (fail)
   go_wp2;go_ret;exact ⟨by rw [HE.out];simp [fH];cases u <;> cases v <;> rfl,dR B2 _⟩
  have hAb:(ap == pl)=false:=by simp [hA]
  go_wp2_with fail
  go_quiet (fail)
  go_wp2;go_ret;exact ⟨by rw [HE.out];simp [fH,hA],dR B2 _⟩
 all_goals
  by_cases hA:ap=pl
  rotate_left
  ·have hAb:(ap == pl)=false:=by simp [hA]
   go_wp2;go_ret;exact ⟨by rw [HE.out];simp [fH,hA],B2⟩
  subst hA
 iterate 2
  focus
   go_wp2_with fail
   refine (gP _ _ _ _ _ _ ws qs _ HL.out.2.2.1 HL.out.1 HS2.out.2.2.1 HS2.out.1 hl1 hm1 _ rfl).mono ?_;rintro e w3 ⟨rfl,b'⟩;have B3:=ak B2 b';clear b';go_wp2;go_ret;exact ⟨by rw [HE.out];simp [fH],B3⟩
 all_goals
  go_wp2;go_ret;refine ⟨?_,B2⟩
  rw [HE.out];simp [fH];first|done|rfl
end Go.Proofs.YtohikbpolofklaaGreat
