/- Texts that the proof needs, joined: CpS Sr8 Ru2 Sr9 SrR Sr10. -/
import Derived.Test.YtohikbpolofklaaGreatY1
import Derived.Laws.CopyOwn
import Derived.Test.YtohikbpolofklaaGreatY20
import Derived.Test.YtohikbpolofklaaGreatY2
import Derived.Test.YtohikbpolofklaaGreatY16
set_option linter.unusedVariables false
set_option linter.unusedSimpArgs false
set_option maxHeartbeats 4000000
set_option maxRecDepth 20000
namespace Go.Proofs.YtohikbpolofklaaGreat
open Go.RowKit Go.Proofs.Tryz
theorem kp{P:Program}{w w':World}{ops:Array Oper}{rest:List Oper}{o:Oper}{a:Act}{Q:Exit->Act->World->Prop}(hgd:o.guard=none)(d s:Operand)(dT sT:TypeId)
 (ho:o.op=.call { callee:=.builtin .copy,args:=#[d,s],argTypes:=#[dT,sT] })(vd vs:Value)(hd:a.eval d=vd)(hs:a.eval s=vs)(v:Value)
 (hrun:(Builtin.copy_ #[dT,sT] o.type #[vd,vs]).run P w=.ok v w')
 (h:wpList P ops Q rest (a.put o.dst v) w'):wpList P ops Q (o:: rest) a w:=by
 refine wpList_plain hgd fun K hK=>?_
 unfold Oper.wp;simp [execOp,ho,resolve,invoke,builtin,hd,hs,hrun,Result.andThen];exact hK _ _ h
theorem oy{P:Program}(w:World)(dT sT ty elem:TypeId)(g n dCap sCap s:Nat)(a:Addr)(cur:Array Value)(t:TypeId)(cs:List Value)
 (hu:P.underlying dT=some (.slice elem))(hs:(P.info? elem).map (·.size)=some s)
 (hg:w.heap[g]? = some (.cells cur t (0,0))) (hl0:cs.length=n*s)
 (hsrc:∀ j v,cs[j]? = some v->w.cell? (a.add j)=some v) (hfit:cs.length=cur.size) (h1:∀ v ∈ cs,v.oneCell'=true):
 (Builtin.copy_ #[dT,sT] ty #[.slice (some ⟨g,0,none⟩) n dCap,.slice (some a) n sCap]).run P w=.ok (goInt n) (w.setRow g cs.toArray):=by
 have hl:=run_loadCells_list (P:=P) w a cs hsrc;have hst:=run_storeCells_at P g 0 t cs 0 cur w hg (by omega) h1
 have e:(cur.toList.take (0+0)++cs++cur.toList.drop (0+0+cs.length))=cs:=by
  rw [List.drop_of_length_le (by simp;omega)];simp
 rw [e] at hst;cases hq:P.info? elem with
 |none=>simp [hq] at hs
 |some i=>
  have hi:i.size=s:=by simpa [hq] using hs
  rw [hl0] at hl;simp [Builtin.copy_,run_underlying hu,Builtin.lenOf,Builtin.firstCells,sizeOf,typeInfo,hq,hi,hl,hst]
theorem mX{P:Program}(w:World)(dT sT ty elem:TypeId)(d a:OA)(dCap sCap s:Nat)(hu:P.underlying dT=some (.slice elem))(hs:(P.info? elem).map (·.size)=some s):
 (Builtin.copy_ #[dT,sT] ty #[.slice d 0 dCap,.slice a 0 sCap]).run P w=.ok (goInt 0) w:=by
 cases hq:P.info? elem with
 |none=>simp [hq] at hs
 |some i=>
  have hl:∀ (x:Addr),(loadCells x 0).run P w=.ok #[] w:=fun x=>by simpa using run_loadCells_list (P:=P) w x [] (by simp)
  cases d <;> cases a <;> simp [Builtin.copy_,run_underlying hu,Builtin.lenOf,Builtin.firstCells,sizeOf,typeInfo,hq,storeCells,hl]
def fi(s n:Nat)(F:Nat->List Value):List Value:=(List.range (n*s)).map (fun i=>(F (i / s)).getD (i % s) undef)
theorem dt(s n:Nat)(F:Nat->List Value):(fi s n F).length=n*s:=by simp [fi]
theorem jP{s n:Nat}{F:Nat->List Value}{k j:Nat}(hk:k<n)(hj:j<s)(hF:(F k).length=s):(fi s n F)[k*s+j]? = (F k)[j]?:=by
 have hin:k*s+j<n*s:=by
  have:(k+1)*s<= n*s:=Nat.mul_le_mul_right _ hk;rw [Nat.add_mul,Nat.one_mul] at this;omega
 have e1:(k*s+j) / s=k:=by rw [Nat.mul_comm,Nat.mul_add_div (by omega),Nat.div_eq_of_lt hj,Nat.add_zero]
 have e2:(k*s+j) % s=j:=by rw [Nat.add_comm,Nat.add_mul_mod_self_right,Nat.mod_eq_of_lt hj]
 simp [fi,hin,e1,e2,hF,hj]
theorem aM.ofFlat{w:World}{g:Nat}{t:TypeId}{s n:Nat}{F:Nat->List Value}(h:w.heap[g]? = some (.cells (fi s n F).toArray t (0,0)))(hF:∀ k,k<n->(F k).length=s):aM w g t s n F:=
 ⟨_,h,by simp [dt],fun k hk j hj=>by rw [List.getElem?_toArray];exact jP hk hj (hF k hk)⟩
theorem lY{w:World}{b off s n:Nat}{F:Nat->List Value}(hs0:0<s)(hF:∀ k,k<n->(F k).length=s)(hc:∀ k,k<n->∀ j,j<s->w.cell? ⟨b,off+k*s+j,none⟩=(F k)[j]?):
 ∀ j v,(fi s n F)[j]? = some v->w.cell? ((⟨b,off,none⟩:Addr).add j)=some v:=by
 intro j v hv
 have hj:j<n*s:=by
  have:=(List.getElem?_eq_some_iff.1 hv).1;simpa [dt] using this
 have hk:j / s<n:=Nat.div_lt_of_lt_mul (by rw [Nat.mul_comm];exact hj);have hm:j % s<s:=Nat.mod_lt _ hs0;have e:j / s*s+j % s=j:=by rw [Nat.mul_comm];exact Nat.div_add_mod j s
 have e1:(⟨b,off,none⟩:Addr).add j=⟨b,off+j / s*s+j % s,none⟩:=by
  rw [Nat.add_assoc,e];unfold Addr.add;split
  ·rename_i h0;subst h0;rfl
  rfl
 rw [e1,hc _ hk _ hm,<- jP hk hm (hF _ hk),e];exact hv
theorem qN{s n:Nat}{F:Nat->List Value}{P:Value->Prop}(hs0:0<s)(hF:∀ k,k<n->(F k).length=s)(h:∀ k,k<n->∀ v ∈ F k,P v):∀ v ∈ fi s n F,P v:=by
 intro v hv;obtain ⟨i,hi,rfl⟩:=List.mem_map.1 hv;have hi':i<n*s:=List.mem_range.1 hi;have hk:i / s<n:=Nat.div_lt_of_lt_mul (by rw [Nat.mul_comm];exact hi');have hm:i % s<s:=Nat.mod_lt _ hs0;refine h _ hk _ ?_;have e:=hF _ hk;rw [List.getD_eq_getElem?_getD,List.getElem?_eq_getElem (by omega)];simp
theorem tF:(prog.info? 61).map (·.size)=some 7:=by kernel_rfl
theorem li(a:OA)(n cap:Nat)(f:Nat->Ru)(w:World)(hs:dU w a n f)(hl:n<= 2000000):
 Calls prog 28 #[.slice a n cap] w fun e w'=>e=.returned (.slice (some ⟨w.heap.size,0,none⟩) n n)/\aA w' w.heap.size n f/\Below w.heap.size w w':=by
 have hmk:=ct (P:=prog) 33 61 (.agg (bg ⟨0,0,0,0,0,0,0⟩)) 7 56 underlying33 Tryz.info61 .i64 .i64 n (by omega) (by omega);obtain ⟨W,hW⟩:∃ W,W=w.alloc (.cells (madeCells (Value.agg (bg ⟨0,0,0,0,0,0,0⟩)).cells (n*7)) 61):=⟨_,rfl⟩
 have b0:Below w.heap.size w W:=by rw [hW];exact (Below.refl _ w).alloc Nl _
 have hh:W.heap[w.heap.size]? = some (.cells (madeCells (Value.agg (bg ⟨0,0,0,0,0,0,0⟩)).cells (n*7)) 61 (0,0)):=by rw [hW];show (w.heap.push _)[w.heap.size]? = _;simp
 have hs1:=fd.below hs b0
 have HRUN:Hid (∃ w2,(Builtin.copy_ #[33,33] 3 #[.slice (some ⟨w.heap.size,0,none⟩) n n,.slice a n cap]).run prog W=.ok (goInt n) w2/\aA w2 w.heap.size n f/\Below w.heap.size w w2):=by
  rcases hs1 with h0|⟨b,off,rfl,hlt,hc⟩
  ·subst h0
   exact ⟨W,mX W _ _ _ 61 _ _ _ _ 7 underlying33 tF,⟨_,hh,by simp [madeCells],fun k hk=>by omega⟩,b0⟩
  have hF:∀ k,k<n->(cG (f k)).length=7:=fun _ _=>rfl
  refine ⟨_,oy W _ _ _ 61 w.heap.size n n cap 7 ⟨b,off,none⟩ _ 61 (fi 7 n (fun k=>cG (f k))) underlying33 tF hh (dt _ _ _) (lY (by decide) hF hc) (by rw [dt,size_madeCells]) (qN (by decide) hF (fun k _ v hv=>by simp at hv;rcases hv with rfl|rfl|rfl|rfl|rfl|rfl|rfl <;> rfl)),?_,below_setRow b0 Nl _⟩
  exact aM.ofFlat (by exact setRow_heap W w.heap.size _ _ 61 _ hh) hF
 clear hs hs1 hh;obtain ⟨w2,hr2,R2,B2⟩:=HRUN.out;have HR:Hid ((Builtin.copy_ #[33,33] 3 #[.slice (some ⟨w.heap.size,0,none⟩) n n,.slice a n cap]).run prog W=.ok (goInt n) w2):=hr2;have HX:Hid (aA w2 w.heap.size n f/\Below w.heap.size w w2):=⟨R2,B2⟩
 clear HRUN hr2 R2 B2 b0;rw [hW] at HR;go_enter func28,ntmps28
 go_wp2_with (refine kp rfl (.tmp 7) (.tmp 8) 33 33 rfl _ _ rfl rfl _ HR.out ?_)
 go_ret;exact ⟨rfl,HX.out⟩
theorem p5(g n c:Nat)(f:Nat->Ru)(w0 w:World)(hb:Below w0.heap.size w0 w)(hg:w0.heap.size<= g)(hr:aA w g n f)(hn:n<= 24):
 Calls prog 179 #[.slice (some ⟨g,0,none⟩) n c,Vi (n:Int),.func (.func 109) #[] #[]] w fun e w'=>e=.returned (.tuple #[])/\∃ f',aA w' g n f'/\aK 0 n f f'/\aE f' 0 n/\Below w0.heap.size w0 w':=by
 by_cases h20:20<= n
 ·have d1:(20:Int)<= (n:Int):=by omega
  have d2:¬ (40:Int)<= (n:Int):=by omega
  go_enter func179,ntmps179
  go_wp2;refine wp_loop_rounds 2 ?_;rw [rounds_succ];go_wp2_with fail
  refine (gb g n c 0 20 f w0 _ hb hg hr h20 (by omega) (by omega)).mono ?_;rintro e w1 ⟨rfl,f1,R1,P1,S1,B1⟩;clear hr hb;go_wp2;rw [rounds_succ];go_wp2_with fail
  refine (gb g n c 20 n f1 w0 _ B1 hg R1 Nl (by omega) h20).mono ?_;rintro e w2 ⟨rfl,f2,R2,P2,S2,B2⟩;have PP:aK 0 n f f2:=(P1.mono Nl h20).trans (P2.mono (by omega) Nl);have SL:aE f2 0 20:=fun i j h1 h2 h3=>by rw [P2.out (.inl (by omega)),P2.out (.inl h3)];exact S1 i j h1 h2 h3
  clear R1 B1 P1 P2 S1;by_cases h21:20<n
  ·have d3:(20:Int)<(n:Int):=by omega
   have d4:¬ (40:Int)<(n:Int):=by omega
   go_wp2;refine wp_loop_rounds 2 ?_;rw [rounds_succ];go_wp2;refine wp_loop_rounds 1 ?_;rw [rounds_succ];go_wp2_with fail
   refine (mW n g n c 0 20 n f2 w0 _ B2 hg R2 (by omega) h21 Nl (by omega) SL S2 (by omega)).mono ?_;rintro e w3 ⟨rfl,f3,R3,P3,S3,B3⟩;have HX:Hid (∃ f',aA w3 g n f'/\aK 0 n f f'/\aE f' 0 n/\Below w0.heap.size w0 w3):=⟨f3,R3,PP.trans P3,S3,B3⟩
   clear R2 B2 PP SL S2 R3 B3 P3 S3;go_wp2;rw [rounds_succ];go_wp2;refine bodyPost_end (v:=.tuple #[]) (by simp [results,results179,go_sem]) rfl ⟨rfl,HX.out⟩
  have d3:¬ (20:Int)<(n:Int):=by omega
  have HX:Hid (∃ f',aA w2 g n f'/\aK 0 n f f'/\aE f' 0 n/\Below w0.heap.size w0 w2):=⟨f2,R2,PP,(by rw [show n=20 by omega];exact SL),B2⟩
  clear R2 B2 PP SL S2;go_wp2;refine wp_loop_rounds 1 ?_;rw [rounds_succ];go_wp2;refine bodyPost_end (v:=.tuple #[]) (by simp [results,results179,go_sem]) rfl ⟨rfl,HX.out⟩
 have d1:¬ (20:Int)<= (n:Int):=by omega
 have d3:¬ (20:Int)<(n:Int):=by omega
 go_enter func179,ntmps179
 go_wp2;refine wp_loop_rounds 1 ?_;rw [rounds_succ];go_wp2_with fail
 refine (gb g n c 0 n f w0 _ hb hg hr Nl (by omega) (by omega)).mono ?_;rintro e w1 ⟨rfl,f1,R1,P1,S1,B1⟩;have HX:Hid (∃ f',aA w1 g n f'/\aK 0 n f f'/\aE f' 0 n/\Below w0.heap.size w0 w1):=⟨f1,R1,P1,S1,B1⟩
 clear R1 B1 P1 S1 hr hb;go_wp2;refine wp_loop_rounds 1 ?_;rw [rounds_succ];go_wp2;refine bodyPost_end (v:=.tuple #[]) (by simp [results,results179,go_sem]) rfl ⟨rfl,HX.out⟩
theorem lj(g n c:Nat)(f:Nat->Ru)(w0 w:World)(hb:Below w0.heap.size w0 w)(hg:w0.heap.size<= g)(hr:aA w g n f)(hn:n<= 24):
 Calls prog 150 #[.slice (some ⟨g,0,none⟩) n c,.func (.func 109) #[] #[]] w fun e w'=>e=.returned (.tuple #[])/\∃ f',aA w' g n f'/\aK 0 n f f'/\aE f' 0 n/\Below w0.heap.size w0 w':=by
 go_enter func150,ntmps150
 go_wp2_with fail
 refine (p5 g n c f w0 _ hb hg hr hn).mono ?_;rintro e w1 ⟨rfl,hx⟩;have HX:Hid _:=hx;clear hx hr hb;go_wp2;refine bodyPost_end (v:=.tuple #[]) (by simp [results,results150,go_sem]) rfl ⟨rfl,HX.out⟩
theorem mY(a:OA)(n cap:Nat)(f:Nat->Ru)(w:World)(hs:dU w a n f)(hn:n<= 24):
 Calls prog 108 #[.slice a n cap,.func (.func 109) #[] #[]] w fun e w'=>e=.returned (.slice (some ⟨w.heap.size,0,none⟩) n n)/\∃ f',aA w' w.heap.size n f'/\aK 0 n f f'/\aE f' 0 n/\Below w.heap.size w w':=by
 go_enter func108,ntmps108
 go_wp2_with fail
 refine (li a n cap f _ hs (by omega)).mono ?_;rintro e w1 ⟨rfl,R1,B1⟩;clear hs;go_wp2_with fail
 refine (lj w.heap.size n n f w _ B1 Nl R1 hn).mono ?_;rintro e w2 ⟨rfl,hx⟩;have HX:Hid _:=hx;clear hx R1 B1;go_wp2;go_ret;exact ⟨rfl,HX.out⟩
def gd(r:Ru)(un sp pl:Int):Bool:=decide (r.u=un) && decide (r.s=sp) && decide (r.lo<= pl) && decide (pl<= r.hi)
def qO(f:Nat->Ru)(un sp pl:Int)(n k:Nat):Int:=
 if h:k<n then (if gd (f k) un sp pl=true then (k:Int) else qO f un sp pl n (k+1)) else -1
termination_by n-k
abbrev atR(f:Nat->Ru)(n:Nat)(un sp pl:Int):Int:=qO f un sp pl n 0
theorem tW(r:Ru)(un sp pl:Int)(w:World):
 Calls prog 110 #[.agg (bg r),Vi un,Vi sp,Vi pl] w fun e w'=>e=.returned (.bool (gd r un sp pl))/\Below w.heap.size w w':=by
 unfold gd;by_cases h1:r.u=un
 ·by_cases h2:r.s=sp
  ·by_cases h3:r.lo<= pl
   ·by_cases h4:pl<= r.hi
    ·skip
     have e:(decide (r.u=un) && decide (r.s=sp) && decide (r.lo<= pl) && decide (pl<= r.hi))=true:=by simp [h1,h2,h3,h4]
     rw [e];clear e;go_enter func110,ntmps110
     go_wp2;go_ret;exact ⟨rfl,(Below.refl _ w).alloc Nl _⟩
    skip
    have e:(decide (r.u=un) && decide (r.s=sp) && decide (r.lo<= pl) && decide (pl<= r.hi))=false:=by simp [h1,h2,h3,h4]
    rw [e];clear e;go_enter func110,ntmps110
    go_wp2;go_ret;exact ⟨rfl,(Below.refl _ w).alloc Nl _⟩
   skip
   have e:(decide (r.u=un) && decide (r.s=sp) && decide (r.lo<= pl) && decide (pl<= r.hi))=false:=by simp [h1,h2,h3]
   rw [e];clear e;go_enter func110,ntmps110
   go_wp2;go_ret;exact ⟨rfl,(Below.refl _ w).alloc Nl _⟩
  skip
  have e:(decide (r.u=un) && decide (r.s=sp) && decide (r.lo<= pl) && decide (pl<= r.hi))=false:=by simp [h1,h2]
  rw [e];clear e;go_enter func110,ntmps110
  go_wp2;go_ret;exact ⟨rfl,(Below.refl _ w).alloc Nl _⟩
 skip
 have e:(decide (r.u=un) && decide (r.s=sp) && decide (r.lo<= pl) && decide (pl<= r.hi))=false:=by simp [h1]
 rw [e];clear e;go_enter func110,ntmps110
 go_wp2;go_ret;exact ⟨rfl,(Below.refl _ w).alloc Nl _⟩
def Tri(w:World)(g1 g2 g3:Nat)(un sp pl:Int):Prop:=
 vf w g1 3 (Vi un)/\vf w g2 3 (Vi sp)/\vf w g3 3 (Vi pl)
def bP(r:Ru):Prop:=(1<= r.u/\r.u<= 247)/\(0<= r.s/\r.s<= 3)/\(0<= r.lo/\r.lo<= r.hi/\r.hi<= 65535)/\(0<= r.p/\r.p<= 5)/\(1<= r.t/\r.t<= 247)/\0<= r.lo+r.sh/\r.hi+r.sh<= 65535
instance (r:Ru):Decidable (bP r):=by unfold bP;infer_instance
theorem vx(x most:Int)(w:World)(b:Bool)(hb:aB x 1 most=b):Calls prog 142 #[Vi x,Vi most] w fun e w'=>e=.returned (.bool b)/\w'=w:=by
 subst hb;unfold aB;by_cases h1:1<= x
 ·by_cases h2:x<= most
  ·rw [decide_eq_true (show (1<= x/\x<= most) from ⟨by omega,by omega⟩)]
   go_enter func142,ntmps142
   go_wp2;go_ret;exact ⟨rfl,rfl⟩
  rw [decide_eq_false (show ¬ (1<= x/\x<= most) from fun h=>by omega)];go_enter func142,ntmps142
  go_wp2;go_ret;exact ⟨rfl,rfl⟩
 rw [decide_eq_false (show ¬ (1<= x/\x<= most) from fun h=>by omega)];go_enter func142,ntmps142
 go_wp2;go_ret;exact ⟨rfl,rfl⟩
theorem dJ(x:Int)(w:World)(b:Bool)(hb:aB x 0 3=b):Calls prog 104 #[Vi x] w fun e w'=>e=.returned (.bool b)/\w'=w:=by
 subst hb;unfold aB;by_cases h1:0<= x
 ·by_cases h2:x<= 3
  ·rw [decide_eq_true (show (0<= x/\x<= 3) from ⟨by omega,by omega⟩)]
   go_enter func104,ntmps104
   go_wp2;go_ret;exact ⟨rfl,rfl⟩
  rw [decide_eq_false (show ¬ (0<= x/\x<= 3) from fun h=>by omega)];go_enter func104,ntmps104
  go_wp2;go_ret;exact ⟨rfl,rfl⟩
 rw [decide_eq_false (show ¬ (0<= x/\x<= 3) from fun h=>by omega)];go_enter func104,ntmps104
 go_wp2;go_ret;exact ⟨rfl,rfl⟩
theorem de(x:Int)(w:World)(b:Bool)(hb:aB x 0 5=b):Calls prog 105 #[Vi x] w fun e w'=>e=.returned (.bool b)/\w'=w:=by
 subst hb;unfold aB;by_cases h1:0<= x
 ·by_cases h2:x<6
  ·rw [decide_eq_true (show (0<= x/\x<= 5) from ⟨by omega,by omega⟩)]
   go_enter func105,ntmps105
   go_wp2;go_ret;exact ⟨rfl,rfl⟩
  rw [decide_eq_false (show ¬ (0<= x/\x<= 5) from fun h=>by omega)];go_enter func105,ntmps105
  go_wp2;go_ret;exact ⟨rfl,rfl⟩
 rw [decide_eq_false (show ¬ (0<= x/\x<= 5) from fun h=>by omega)];go_enter func105,ntmps105
 go_wp2;go_ret;exact ⟨rfl,rfl⟩
theorem cu(x:Int)(w:World)(b:Bool)(hb:aB x 1 247=b):Calls prog 103 #[Vi x] w fun e w'=>e=.returned (.bool b)/\w'=w:=by
 go_enter func103,ntmps103
 go_wp2_with fail
 refine (vx _ _ _ _ hb).mono ?_;rintro e wx ⟨rfl,rfl⟩;go_wp2;go_ret;exact ⟨rfl,rfl⟩
theorem aY{x lo hi:Int}(h:lo<= x/\x<= hi):aB x lo hi=true:=decide_eq_true h
theorem dF{x lo hi:Int}(h:¬ (lo<= x/\x<= hi)):aB x lo hi=false:=decide_eq_false h
theorem kq(r:Ru)(w:World)(hl:0<= r.lo/\r.lo<= r.hi/\r.hi<= 65535)(h64:-9223372036854775808<= r.sh/\r.sh<= 9223372036854775807):
 Calls prog 107 #[.agg (bg r)] w fun e w'=>e=.returned (.bool (decide (0<= r.lo+r.sh/\r.hi+r.sh<= 65535)))/\Below w.heap.size w w':=by
 obtain ⟨x1,hx1⟩:∃ x1,IntKind.i64.wrap (r.lo+r.sh)=x1:=⟨_,rfl⟩
 obtain ⟨x2,hx2⟩:∃ x2,IntKind.i64.wrap (r.hi+r.sh)=x2:=⟨_,rfl⟩
 have HX:Hid ((0<= x1/\x1<= 65535↔ 0<= r.lo+r.sh/\r.lo+r.sh<= 65535)/\(0<= x2/\x2<= 65535↔ 0<= r.hi+r.sh/\r.hi+r.sh<= 65535)/\r.lo<= r.hi):=by
  rw [IntKind.wrap_i64] at hx1 hx2;show _/\_;omega
 clear hl h64;by_cases h0:0<= x1/\x1<= 65535
 case neg=>
  rw [decide_eq_false (show ¬ (0<= r.lo+r.sh/\r.hi+r.sh<= 65535) from by have:=HX.out;omega)];go_enter func107,ntmps107
  go_wp2_with fail
  refine (bH (x1) _ false (dF h0)).mono ?_;rintro e wx ⟨rfl,rfl⟩;go_wp2;go_ret;exact ⟨rfl,((Below.refl _ w).alloc Nl _)⟩
 by_cases h1:0<= x2/\x2<= 65535
 case neg=>
  rw [decide_eq_false (show ¬ (0<= r.lo+r.sh/\r.hi+r.sh<= 65535) from by have:=HX.out;omega)];go_enter func107,ntmps107
  go_wp2_with fail
  refine (bH (x1) _ true (aY h0)).mono ?_;rintro e wx ⟨rfl,rfl⟩;go_wp2_with fail
  refine (bH (x2) _ false (dF h1)).mono ?_;rintro e wx ⟨rfl,rfl⟩;go_wp2;go_ret;exact ⟨rfl,((Below.refl _ w).alloc Nl _)⟩
 rw [decide_eq_true (show 0<= r.lo+r.sh/\r.hi+r.sh<= 65535 from by have:=HX.out;omega)];go_enter func107,ntmps107
 go_wp2_with fail
 refine (bH (x1) _ true (aY h0)).mono ?_;rintro e wx ⟨rfl,rfl⟩;go_wp2_with fail
 refine (bH (x2) _ true (aY h1)).mono ?_;rintro e wx ⟨rfl,rfl⟩;go_wp2;go_ret;exact ⟨rfl,((Below.refl _ w).alloc Nl _)⟩
theorem oz(r:Ru)(w:World)(h64:-9223372036854775808<= r.sh/\r.sh<= 9223372036854775807):
 Calls prog 64 #[.agg (bg r)] w fun e w'=>e=.returned (.bool (decide (bP r)))/\Below w.heap.size w w':=by
 by_cases h0:1<= r.u/\r.u<= 247
 case neg=>
  rw [decide_eq_false (show ¬ bP r from by unfold bP;omega)];go_enter func64,ntmps64
  go_wp2_with fail
  refine (cu (r.u) _ false (dF h0)).mono ?_;rintro e wx ⟨rfl,rfl⟩;go_wp2;go_ret;exact ⟨rfl,((Below.refl _ w).alloc Nl _)⟩
 by_cases h1:0<= r.s/\r.s<= 3
 case neg=>
  rw [decide_eq_false (show ¬ bP r from by unfold bP;omega)];go_enter func64,ntmps64
  go_wp2_with fail
  refine (cu (r.u) _ true (aY h0)).mono ?_;rintro e wx ⟨rfl,rfl⟩;go_wp2_with fail
  refine (dJ (r.s) _ false (dF h1)).mono ?_;rintro e wx ⟨rfl,rfl⟩;go_wp2;go_ret;exact ⟨rfl,((Below.refl _ w).alloc Nl _)⟩
 by_cases h2:0<= r.p/\r.p<= 5
 case neg=>
  rw [decide_eq_false (show ¬ bP r from by unfold bP;omega)];go_enter func64,ntmps64
  go_wp2_with fail
  refine (cu (r.u) _ true (aY h0)).mono ?_;rintro e wx ⟨rfl,rfl⟩;go_wp2_with fail
  refine (dJ (r.s) _ true (aY h1)).mono ?_;rintro e wx ⟨rfl,rfl⟩;go_wp2_with fail
  refine (de (r.p) _ false (dF h2)).mono ?_;rintro e wx ⟨rfl,rfl⟩;go_wp2;go_ret;exact ⟨rfl,((Below.refl _ w).alloc Nl _)⟩
 by_cases h3:1<= r.t/\r.t<= 247
 case neg=>
  rw [decide_eq_false (show ¬ bP r from by unfold bP;omega)];go_enter func64,ntmps64
  go_wp2_with fail
  refine (cu (r.u) _ true (aY h0)).mono ?_;rintro e wx ⟨rfl,rfl⟩;go_wp2_with fail
  refine (dJ (r.s) _ true (aY h1)).mono ?_;rintro e wx ⟨rfl,rfl⟩;go_wp2_with fail
  refine (de (r.p) _ true (aY h2)).mono ?_;rintro e wx ⟨rfl,rfl⟩;go_wp2_with fail
  refine (cu (r.t) _ false (dF h3)).mono ?_;rintro e wx ⟨rfl,rfl⟩;go_wp2;go_ret;exact ⟨rfl,((Below.refl _ w).alloc Nl _)⟩
 by_cases h4:0<= r.lo/\r.lo<= 65535
 case neg=>
  rw [decide_eq_false (show ¬ bP r from by unfold bP;omega)];go_enter func64,ntmps64
  go_wp2_with fail
  refine (cu (r.u) _ true (aY h0)).mono ?_;rintro e wx ⟨rfl,rfl⟩;go_wp2_with fail
  refine (dJ (r.s) _ true (aY h1)).mono ?_;rintro e wx ⟨rfl,rfl⟩;go_wp2_with fail
  refine (de (r.p) _ true (aY h2)).mono ?_;rintro e wx ⟨rfl,rfl⟩;go_wp2_with fail
  refine (cu (r.t) _ true (aY h3)).mono ?_;rintro e wx ⟨rfl,rfl⟩;go_wp2_with fail
  refine (bH (r.lo) _ false (dF h4)).mono ?_;rintro e wx ⟨rfl,rfl⟩;go_wp2;go_ret;exact ⟨rfl,((Below.refl _ w).alloc Nl _)⟩
 by_cases h5:0<= r.hi/\r.hi<= 65535
 case neg=>
  rw [decide_eq_false (show ¬ bP r from by unfold bP;omega)];go_enter func64,ntmps64
  go_wp2_with fail
  refine (cu (r.u) _ true (aY h0)).mono ?_;rintro e wx ⟨rfl,rfl⟩;go_wp2_with fail
  refine (dJ (r.s) _ true (aY h1)).mono ?_;rintro e wx ⟨rfl,rfl⟩;go_wp2_with fail
  refine (de (r.p) _ true (aY h2)).mono ?_;rintro e wx ⟨rfl,rfl⟩;go_wp2_with fail
  refine (cu (r.t) _ true (aY h3)).mono ?_;rintro e wx ⟨rfl,rfl⟩;go_wp2_with fail
  refine (bH (r.lo) _ true (aY h4)).mono ?_;rintro e wx ⟨rfl,rfl⟩;go_wp2_with fail
  refine (bH (r.hi) _ false (dF h5)).mono ?_;rintro e wx ⟨rfl,rfl⟩;go_wp2;go_ret;exact ⟨rfl,((Below.refl _ w).alloc Nl _)⟩
 by_cases h6:r.lo<= r.hi
 case neg=>
  rw [decide_eq_false (show ¬ bP r from by unfold bP;omega)];go_enter func64,ntmps64
  go_wp2_with fail
  refine (cu (r.u) _ true (aY h0)).mono ?_;rintro e wx ⟨rfl,rfl⟩;go_wp2_with fail
  refine (dJ (r.s) _ true (aY h1)).mono ?_;rintro e wx ⟨rfl,rfl⟩;go_wp2_with fail
  refine (de (r.p) _ true (aY h2)).mono ?_;rintro e wx ⟨rfl,rfl⟩;go_wp2_with fail
  refine (cu (r.t) _ true (aY h3)).mono ?_;rintro e wx ⟨rfl,rfl⟩;go_wp2_with fail
  refine (bH (r.lo) _ true (aY h4)).mono ?_;rintro e wx ⟨rfl,rfl⟩;go_wp2_with fail
  refine (bH (r.hi) _ true (aY h5)).mono ?_;rintro e wx ⟨rfl,rfl⟩;go_wp2;go_ret;exact ⟨rfl,((Below.refl _ w).alloc Nl _)⟩
 have e9:decide (bP r)=decide (0<= r.lo+r.sh/\r.hi+r.sh<= 65535):=by
  apply decide_eq_decide.2;unfold bP;omega
 obtain ⟨bb,hbb⟩:∃ bb:Bool,decide (0<= r.lo+r.sh/\r.hi+r.sh<= 65535)=bb:=⟨_,rfl⟩
 rw [e9,hbb];have HBB:Hid (decide (0<= r.lo+r.sh/\r.hi+r.sh<= 65535)=bb):=hbb;clear e9 hbb;have B0:Below w.heap.size w (w.alloc (.cells (bg r) 61)):=(Below.refl _ w).alloc Nl _;go_enter func64,ntmps64
 go_wp2_with fail
 refine (cu (r.u) _ true (aY h0)).mono ?_;rintro e wx ⟨rfl,rfl⟩;go_wp2_with fail
 refine (dJ (r.s) _ true (aY h1)).mono ?_;rintro e wx ⟨rfl,rfl⟩;go_wp2_with fail
 refine (de (r.p) _ true (aY h2)).mono ?_;rintro e wx ⟨rfl,rfl⟩;go_wp2_with fail
 refine (cu (r.t) _ true (aY h3)).mono ?_;rintro e wx ⟨rfl,rfl⟩;go_wp2_with fail
 refine (bH (r.lo) _ true (aY h4)).mono ?_;rintro e wx ⟨rfl,rfl⟩;go_wp2_with fail
 refine (bH (r.hi) _ true (aY h5)).mono ?_;rintro e wx ⟨rfl,rfl⟩;go_wp2_with fail
 refine (kq r _ ⟨by omega,by omega,by omega⟩ h64).mono ?_;rintro e w1 ⟨he,b1⟩;rw [HBB.out] at he;subst he;have B1:=ak B0 b1;clear B0 b1;go_wp2;go_ret;exact ⟨rfl,B1⟩
theorem oA(r:Ru)(w:World):
 Calls prog 51 #[.agg (bg r)] w fun e w'=>e=.returned (.bool (decide (bP r)))/\Below w.heap.size w w':=by
 by_cases h0:1<= r.u/\r.u<= 247
 case neg=>
  rw [decide_eq_false (show ¬ bP r from by unfold bP;omega)];go_enter func51,ntmps51
  go_wp2_with fail
  refine (aI (r.u) (1) (247) _ false (dF h0)).mono ?_;rintro e wx ⟨rfl,rfl⟩;go_wp2;go_ret;exact ⟨rfl,((Below.refl _ w).alloc Nl _)⟩
 by_cases h1:0<= r.s/\r.s<= 3
 case neg=>
  rw [decide_eq_false (show ¬ bP r from by unfold bP;omega)];go_enter func51,ntmps51
  go_wp2_with fail
  refine (aI (r.u) (1) (247) _ true (aY h0)).mono ?_;rintro e wx ⟨rfl,rfl⟩;go_wp2_with fail
  refine (aI (r.s) (0) (3) _ false (dF h1)).mono ?_;rintro e wx ⟨rfl,rfl⟩;go_wp2;go_ret;exact ⟨rfl,((Below.refl _ w).alloc Nl _)⟩
 by_cases h2:0<= r.lo/\r.lo<= 65535
 case neg=>
  rw [decide_eq_false (show ¬ bP r from by unfold bP;omega)];go_enter func51,ntmps51
  go_wp2_with fail
  refine (aI (r.u) (1) (247) _ true (aY h0)).mono ?_;rintro e wx ⟨rfl,rfl⟩;go_wp2_with fail
  refine (aI (r.s) (0) (3) _ true (aY h1)).mono ?_;rintro e wx ⟨rfl,rfl⟩;go_wp2_with fail
  refine (aI (r.lo) (0) (65535) _ false (dF h2)).mono ?_;rintro e wx ⟨rfl,rfl⟩;go_wp2;go_ret;exact ⟨rfl,((Below.refl _ w).alloc Nl _)⟩
 by_cases h3:r.lo<= r.hi/\r.hi<= 65535
 case neg=>
  rw [decide_eq_false (show ¬ bP r from by unfold bP;omega)];go_enter func51,ntmps51
  go_wp2_with fail
  refine (aI (r.u) (1) (247) _ true (aY h0)).mono ?_;rintro e wx ⟨rfl,rfl⟩;go_wp2_with fail
  refine (aI (r.s) (0) (3) _ true (aY h1)).mono ?_;rintro e wx ⟨rfl,rfl⟩;go_wp2_with fail
  refine (aI (r.lo) (0) (65535) _ true (aY h2)).mono ?_;rintro e wx ⟨rfl,rfl⟩;go_wp2_with fail
  refine (aI (r.hi) (r.lo) (65535) _ false (dF h3)).mono ?_;rintro e wx ⟨rfl,rfl⟩;go_wp2;go_ret;exact ⟨rfl,((Below.refl _ w).alloc Nl _)⟩
 by_cases h4:0<= r.p/\r.p<= 5
 case neg=>
  rw [decide_eq_false (show ¬ bP r from by unfold bP;omega)];go_enter func51,ntmps51
  go_wp2_with fail
  refine (aI (r.u) (1) (247) _ true (aY h0)).mono ?_;rintro e wx ⟨rfl,rfl⟩;go_wp2_with fail
  refine (aI (r.s) (0) (3) _ true (aY h1)).mono ?_;rintro e wx ⟨rfl,rfl⟩;go_wp2_with fail
  refine (aI (r.lo) (0) (65535) _ true (aY h2)).mono ?_;rintro e wx ⟨rfl,rfl⟩;go_wp2_with fail
  refine (aI (r.hi) (r.lo) (65535) _ true (aY h3)).mono ?_;rintro e wx ⟨rfl,rfl⟩;go_wp2_with fail
  refine (aI (r.p) (0) (5) _ false (dF h4)).mono ?_;rintro e wx ⟨rfl,rfl⟩;go_wp2;go_ret;exact ⟨rfl,((Below.refl _ w).alloc Nl _)⟩
 by_cases h5:1<= r.t/\r.t<= 247
 case neg=>
  rw [decide_eq_false (show ¬ bP r from by unfold bP;omega)];go_enter func51,ntmps51
  go_wp2_with fail
  refine (aI (r.u) (1) (247) _ true (aY h0)).mono ?_;rintro e wx ⟨rfl,rfl⟩;go_wp2_with fail
  refine (aI (r.s) (0) (3) _ true (aY h1)).mono ?_;rintro e wx ⟨rfl,rfl⟩;go_wp2_with fail
  refine (aI (r.lo) (0) (65535) _ true (aY h2)).mono ?_;rintro e wx ⟨rfl,rfl⟩;go_wp2_with fail
  refine (aI (r.hi) (r.lo) (65535) _ true (aY h3)).mono ?_;rintro e wx ⟨rfl,rfl⟩;go_wp2_with fail
  refine (aI (r.p) (0) (5) _ true (aY h4)).mono ?_;rintro e wx ⟨rfl,rfl⟩;go_wp2_with fail
  refine (aI (r.t) (1) (247) _ false (dF h5)).mono ?_;rintro e wx ⟨rfl,rfl⟩;go_wp2;go_ret;exact ⟨rfl,((Below.refl _ w).alloc Nl _)⟩
 by_cases h6:-65535<= r.sh/\r.sh<= 65535
 case neg=>
  rw [decide_eq_false (show ¬ bP r from by unfold bP;omega)];go_enter func51,ntmps51
  go_wp2_with fail
  refine (aI (r.u) (1) (247) _ true (aY h0)).mono ?_;rintro e wx ⟨rfl,rfl⟩;go_wp2_with fail
  refine (aI (r.s) (0) (3) _ true (aY h1)).mono ?_;rintro e wx ⟨rfl,rfl⟩;go_wp2_with fail
  refine (aI (r.lo) (0) (65535) _ true (aY h2)).mono ?_;rintro e wx ⟨rfl,rfl⟩;go_wp2_with fail
  refine (aI (r.hi) (r.lo) (65535) _ true (aY h3)).mono ?_;rintro e wx ⟨rfl,rfl⟩;go_wp2_with fail
  refine (aI (r.p) (0) (5) _ true (aY h4)).mono ?_;rintro e wx ⟨rfl,rfl⟩;go_wp2_with fail
  refine (aI (r.t) (1) (247) _ true (aY h5)).mono ?_;rintro e wx ⟨rfl,rfl⟩;go_wp2_with fail
  refine (aI (r.sh) (-65535) (65535) _ false (dF h6)).mono ?_;rintro e wx ⟨rfl,rfl⟩;go_wp2;go_ret;exact ⟨rfl,((Below.refl _ w).alloc Nl _)⟩
 have wr1:IntKind.i64.wrap (r.lo+r.sh)=r.lo+r.sh:=by rw [IntKind.wrap_i64];omega
 have wr2:IntKind.i64.wrap (r.hi+r.sh)=r.hi+r.sh:=by rw [IntKind.wrap_i64];omega
 by_cases h7:0<= r.lo+r.sh/\r.lo+r.sh<= 65535
 case neg=>
  rw [decide_eq_false (show ¬ bP r from by unfold bP;omega)];go_enter func51,ntmps51
  go_wp2_with fail
  refine (aI (r.u) (1) (247) _ true (aY h0)).mono ?_;rintro e wx ⟨rfl,rfl⟩;go_wp2_with fail
  refine (aI (r.s) (0) (3) _ true (aY h1)).mono ?_;rintro e wx ⟨rfl,rfl⟩;go_wp2_with fail
  refine (aI (r.lo) (0) (65535) _ true (aY h2)).mono ?_;rintro e wx ⟨rfl,rfl⟩;go_wp2_with fail
  refine (aI (r.hi) (r.lo) (65535) _ true (aY h3)).mono ?_;rintro e wx ⟨rfl,rfl⟩;go_wp2_with fail
  refine (aI (r.p) (0) (5) _ true (aY h4)).mono ?_;rintro e wx ⟨rfl,rfl⟩;go_wp2_with fail
  refine (aI (r.t) (1) (247) _ true (aY h5)).mono ?_;rintro e wx ⟨rfl,rfl⟩;go_wp2_with fail
  refine (aI (r.sh) (-65535) (65535) _ true (aY h6)).mono ?_;rintro e wx ⟨rfl,rfl⟩;go_wp2_with fail
  refine (aI (r.lo+r.sh) (0) (65535) _ false (dF h7)).mono ?_;rintro e wx ⟨rfl,rfl⟩;go_wp2;go_ret;exact ⟨rfl,((Below.refl _ w).alloc Nl _)⟩
 by_cases h8:0<= r.hi+r.sh/\r.hi+r.sh<= 65535
 case neg=>
  rw [decide_eq_false (show ¬ bP r from by unfold bP;omega)];go_enter func51,ntmps51
  go_wp2_with fail
  refine (aI (r.u) (1) (247) _ true (aY h0)).mono ?_;rintro e wx ⟨rfl,rfl⟩;go_wp2_with fail
  refine (aI (r.s) (0) (3) _ true (aY h1)).mono ?_;rintro e wx ⟨rfl,rfl⟩;go_wp2_with fail
  refine (aI (r.lo) (0) (65535) _ true (aY h2)).mono ?_;rintro e wx ⟨rfl,rfl⟩;go_wp2_with fail
  refine (aI (r.hi) (r.lo) (65535) _ true (aY h3)).mono ?_;rintro e wx ⟨rfl,rfl⟩;go_wp2_with fail
  refine (aI (r.p) (0) (5) _ true (aY h4)).mono ?_;rintro e wx ⟨rfl,rfl⟩;go_wp2_with fail
  refine (aI (r.t) (1) (247) _ true (aY h5)).mono ?_;rintro e wx ⟨rfl,rfl⟩;go_wp2_with fail
  refine (aI (r.sh) (-65535) (65535) _ true (aY h6)).mono ?_;rintro e wx ⟨rfl,rfl⟩;go_wp2_with fail
  refine (aI (r.lo+r.sh) (0) (65535) _ true (aY h7)).mono ?_;rintro e wx ⟨rfl,rfl⟩;go_wp2_with fail
  refine (aI (r.hi+r.sh) (0) (65535) _ false (dF h8)).mono ?_;rintro e wx ⟨rfl,rfl⟩;go_wp2;go_ret;exact ⟨rfl,((Below.refl _ w).alloc Nl _)⟩
 rw [decide_eq_true (show bP r from by unfold bP;omega)];go_enter func51,ntmps51
 go_wp2_with fail
 refine (aI (r.u) (1) (247) _ true (aY h0)).mono ?_;rintro e wx ⟨rfl,rfl⟩;go_wp2_with fail
 refine (aI (r.s) (0) (3) _ true (aY h1)).mono ?_;rintro e wx ⟨rfl,rfl⟩;go_wp2_with fail
 refine (aI (r.lo) (0) (65535) _ true (aY h2)).mono ?_;rintro e wx ⟨rfl,rfl⟩;go_wp2_with fail
 refine (aI (r.hi) (r.lo) (65535) _ true (aY h3)).mono ?_;rintro e wx ⟨rfl,rfl⟩;go_wp2_with fail
 refine (aI (r.p) (0) (5) _ true (aY h4)).mono ?_;rintro e wx ⟨rfl,rfl⟩;go_wp2_with fail
 refine (aI (r.t) (1) (247) _ true (aY h5)).mono ?_;rintro e wx ⟨rfl,rfl⟩;go_wp2_with fail
 refine (aI (r.sh) (-65535) (65535) _ true (aY h6)).mono ?_;rintro e wx ⟨rfl,rfl⟩;go_wp2_with fail
 refine (aI (r.lo+r.sh) (0) (65535) _ true (aY h7)).mono ?_;rintro e wx ⟨rfl,rfl⟩;go_wp2_with fail
 refine (aI (r.hi+r.sh) (0) (65535) _ true (aY h8)).mono ?_;rintro e wx ⟨rfl,rfl⟩;go_wp2;go_ret;exact ⟨rfl,((Below.refl _ w).alloc Nl _)⟩
end Go.Proofs.YtohikbpolofklaaGreat
namespace Go.Proofs.YtohikbpolofklaaGreat
open Go.Proofs.Tryz
def gJ(a b:Ru):Prop:=a.u=b.u/\a.s=b.s/\a.lo<= b.hi/\b.lo<= a.hi
instance (a b:Ru):Decidable (gJ a b):=by unfold gJ;infer_instance
def gK(f:Nat->Ru)(n:Nat):Prop:=∀ i,i<n->∀ k,k<i->¬ gJ (f k) (f i)
def p6(f:Nat->Ru)(n:Nat):Prop:=∀ i,i+1<n->gd (f i) (f (i+1)).u (f (i+1)).s (f (i+1)).lo=false
theorem mZ{a b:Ru}(h:gJ a b):gJ b a:=by unfold gJ at*;omega
theorem lZ{r:Ru}{u s p:Int}:gd r u s p=true↔ (r.u=u/\r.s=s/\r.lo<= p/\p<= r.hi):=by
 simp [gd,and_assoc]
theorem l0{f:Nat->Ru}{n:Nat}(h:p6 f n)(hs:aE f 0 n):∀ i j,i<j->j<n->¬ gJ (f i) (f j):=by
 intro i j hij hj ho;have h1:=h i (by omega);have h2:cK (f i) (f (i+1)):=hs i (i+1) (by omega) (by omega) (by omega);have h3:cK (f (i+1)) (f j):=hs.le (by omega) (by omega) hj
 have h4:gd (f i) (f (i+1)).u (f (i+1)).s (f (i+1)).lo=true:=by
  rw [lZ];unfold gJ at ho;unfold cK cy at h2 h3;omega
 rw [h1] at h4;cases h4
theorem qP{f f':Nat->Ru}{n:Nat}(hok:∀ k,k<n->(f k).lo<= (f k).hi)(p:aK 0 n f f')(hs:aE f' 0 n):p6 f' n↔ gK f n:=by
 obtain ⟨σ,τ,p1,p2,p3,p4⟩:=p;have pf:∀ k,f k=f' (τ k):=fun k=>by rw [p4,(p3 k).2]
 have τlt:∀ k,k<n->τ k<n:=fun k hk=>(p2 k (Nat.zero_le _) hk).2.2.2
 have σlt:∀ k,k<n->σ k<n:=fun k hk=>(p2 k (Nat.zero_le _) hk).2.1
 constructor
 ·intro h i hi k hk ho
  rw [pf k,pf i] at ho
  have hne:τ k≠τ i:=fun e=>by
   have e1:=(p3 k).2;rw [e,(p3 i).2] at e1;omega
  rcases Nat.lt_or_gt_of_ne hne with hl|hl
  ·exact l0 h hs _ _ hl (τlt i hi) ho
  exact l0 h hs _ _ hl (τlt k (by omega)) (mZ ho)
 intro h i hi;cases hx:gd (f' i) (f' (i+1)).u (f' (i+1)).s (f' (i+1)).lo
 ·rfl
 exfalso
 rw [lZ,p4 i,p4 (i+1)] at hx;have a1:=hok _ (σlt i (by omega));have a2:=hok _ (σlt (i+1) hi);have ho:gJ (f (σ i)) (f (σ (i+1))):=by unfold gJ;omega
 have hne:σ i≠σ (i+1):=fun e=>by
  have e1:=(p3 i).1;rw [e,(p3 (i+1)).1] at e1;omega
 rcases Nat.lt_or_gt_of_ne hne with hl|hl
 ·exact h _ (σlt _ hi) _ hl ho
 exact h _ (σlt _ (by omega)) _ hl (mZ ho)
def eK(f:Nat->Ru)(n:Nat):Prop:=n<= 24/\(∀ k,k<n->bP (f k))/\gK f n
end Go.Proofs.YtohikbpolofklaaGreat
namespace Go.Proofs.YtohikbpolofklaaGreat
open Go.RowKit Go.Proofs.Tryz
theorem m0(a:OA)(n cap:Nat)(f:Nat->Ru)(w:World)(hs:dU w a n f)(hn:n<= 24)(hok:∀ k,k<n->(f k).lo<= (f k).hi)(b:Bool)(hb:b=true↔ gK f n):
 Calls prog 65 #[.slice a n cap] w fun e w'=>e=.returned (.bool b)/\Below w.heap.size w w':=by
 have HB:Hid (b=true↔ gK f n):=hb;have HOK:Hid (∀ k,k<n->(f k).lo<= (f k).hi):=hok;clear hb hok;go_enter func65,ntmps65
 go_wp2_with fail
 refine (mY a n cap f _ hs hn).mono ?_;rintro e w1 ⟨rfl,h,R1,P1,S1,B1⟩;have HI:Hid (True/\(p6 h n↔ gK f n)):=⟨trivial,qP HOK.out P1 S1⟩
 clear P1 S1 HOK hs;go_wp2;go_loopw [4] (fun i wr=>∃ z:Nat,1<= z/\(z<= n\/z=1)/\i=Vi z/\aA wr w.heap.size n h/\(∀ j,j+1<z->j+1<n->gd (h j) (h (j+1)).u (h (j+1)).s (h (j+1)).lo=false)/\Below w.heap.size w wr) (fun i _=>n-(intOf i).toNat)
 case atStart=>exact ⟨1,Nl,.inr rfl,rfl,R1,fun j h1 h2=>by omega,B1⟩
 case round=>
  clear R1 B1;obtain ⟨z,hz,hzn,rfl,hrow,hadj,hbl⟩:=hrel;have HA:Hid (∀ j,j+1<z->j+1<n->gd (h j) (h (j+1)).u (h (j+1)).s (h (j+1)).lo=false):=hadj;clear hadj;by_cases hlt:z<n
  ·have hi:(z:Int)<(n:Int):=by omega
   obtain ⟨y,hy⟩:∃ y,z=y+1:=⟨z-1,by omega⟩
   have wy:IntKind.i64.wrap ((z:Int)-1)=(y:Int):=by rw [IntKind.wrap_i64];omega
   have hyn:(y:Int)<(n:Int):=by omega
   have hyn2:y<n:=by omega
   obtain ⟨c0,c1,c2,c3,c4,c5,c6⟩:=aA.seven hrow hlt;obtain ⟨hv,hhv⟩:∃ hv,gd (h y) (h z).u (h z).s (h z).lo=hv:=⟨_,rfl⟩
   have HV:Hid (gd (h y) (h z).u (h z).s (h z).lo=hv):=hhv;have HY:Hid (z=y+1):=hy;obtain ⟨gB,hgB⟩:∃ gB,gB=wr.heap.size:=⟨_,rfl⟩
   obtain ⟨W,hW⟩:∃ W,W=wr.alloc (.cells (bg (h z)) 61):=⟨_,rfl⟩
   have HW:Hid (aA W w.heap.size n h/\Below w.heap.size w W/\gB<W.heap.size/\∀ u,Below W.heap.size W u->u.cell? ⟨gB,0,none⟩=some (Vi (h z).u)/\u.cell? ⟨gB,1,none⟩=some (Vi (h z).s)/\u.cell? ⟨gB,2,none⟩=some (Vi (h z).lo)):=by
    have hl:gB<W.heap.size:=by rw [hW,hgB];simp
    refine ⟨by rw [hW];exact hrow.below (Br.alloc Nl _),by rw [hW];exact ak hbl (Br.alloc Nl _),hl,fun u hu=>⟨?_,?_,?_⟩⟩
    ·rw [hu.cell (p:=⟨gB,0,none⟩) hl,hW,hgB];simp [go_sem]
    ·rw [hu.cell (p:=⟨gB,1,none⟩) hl,hW,hgB];simp [go_sem]
    rw [hu.cell (p:=⟨gB,2,none⟩) hl,hW,hgB];simp [go_sem]
   clear hhv hy hrow hbl;go_wp2;rw [<- hW,<- hgB];clear hW hgB c0 c1 c2 c3 c4 c5 c6;refine wp_region_any (by kernel_rfl) ?_
   refine bw (fun u=>Below W.heap.size W u) (fun i v u=>match i with
    |0=>v=.slice (some ⟨w.heap.size,0,none⟩) n n
    |1=>v=Vi (z:Int)
    |2=>v=Vi (y:Int)
    |3=>v=Vp w.heap.size (y*7)
    |4=>v=.agg (bg (h y))
    |5=>v=Vp gB 0
    |6=>v=Vi (h z).u
    |7=>v=Vp gB 1
    |8=>v=Vi (h z).s
    |9=>v=Vp gB 2
    |10=>v=Vi (h z).lo
    |11=>v=.bool hv
    |_=>True) (by kernel_rfl) (by kernel_rfl) (fun _ _ _ _ h _=>h) Br.drew ?_ ?_ _ _ rfl (by decide) (fun i=>by simp [Array.getD];try (split <;> rfl))
   ·intro vs u hR hall
    have e16:vs 11=.bool hv:=hall 11 (by simp);simp only [bI];rw [e16];clear hall e16;have HX:Hid (aA u w.heap.size n h/\Below w.heap.size w u):=⟨HW.out.1.below hR,ak HW.out.2.1 hR⟩
    clear hR HW;cases hv
    case false=>
     go_simp;go_wp2;go_roundw
     case rel=>exact ⟨z+1,by omega,by omega,by go_num,HX.out.1,fun j h1 h2=>(by have:=HY.out;by_cases e:j=y;(subst e;rw [<- this];exact HV.out);(exact HA.out j (by omega) h2)),HX.out.2⟩
     case measure=>simp [intOf];omega
    have hno:b=false:=by cases b with|false=>rfl|true=>(have h9:=(HI.out.2.trans HB.out.symm).2 rfl y (by have:=HY.out;omega);rw [<- HY.out,HV.out] at h9;cases h9)
    subst hno;go_simp;go_wp2;go_ret;exact ⟨rfl,HX.out.2⟩
   intro u i o ρ hR ho hρ hc hf hd
   have hi:i<12:=by
    have:=(Array.getElem?_eq_some_iff.1 ho).1;simpa using this
   obtain rfl|rfl|rfl|rfl|rfl|rfl|rfl|rfl|rfl|rfl|rfl|rfl:i=0\/i=1\/i=2\/i=3\/i=4\/i=5\/i=6\/i=7\/i=8\/i=9\/i=10\/i=11:=by omega
   all_goals (simp only [List.getElem?_toArray,List.getElem?_cons_zero,List.getElem?_cons_succ,Option.some.injEq] at ho;subst ho)
   ·exact yr rfl (hρ 3 (by kernel_rfl)) hR
   ·exact yr rfl (hρ 4 (by kernel_rfl)) hR
   ·have h1:ρ (.tmp 19)=Vi (z:Int):=dq hd 1 19
    exact yr (aG rfl h1 (hc _) (by go_simp)) rfl hR
   ·have h0:ρ (.tmp 18)=.slice (some ⟨w.heap.size,0,none⟩) n n:=dq hd 0 18
    have h2:ρ (.tmp 20)=Vi (y:Int):=dq hd 2 20;exact yr (au rfl h0 h2 (by go_simp)) rfl hR
   ·have R0:aA u w.heap.size n h:=HW.out.1.below hR
    obtain ⟨d0,d1,d2,d3,d4,d5,d6⟩:=aA.seven R0 (show y<n from by omega);clear R0;have h3:ρ (.tmp 21)=Vp w.heap.size (y*7):=dq hd 3 21;exact yr (ah rfl h3 (by go_simp)) rfl hR
   ·exact yr (ao rfl (hρ 5 (by kernel_rfl)) (by go_simp)) rfl hR
   ·obtain ⟨q0,q1,q2⟩:=HW.out.2.2.2 u hR
    have h5:ρ (.tmp 23)=Vp gB 0:=dq hd 5 23;exact yr (ah rfl h5 (by go_simp)) rfl hR
   ·exact yr (ao rfl (hρ 5 (by kernel_rfl)) (by go_simp)) rfl hR
   ·obtain ⟨q0,q1,q2⟩:=HW.out.2.2.2 u hR
    have h7:ρ (.tmp 25)=Vp gB 1:=dq hd 7 25;exact yr (ah rfl h7 (by go_simp)) rfl hR
   ·exact yr (ao rfl (hρ 5 (by kernel_rfl)) (by go_simp)) rfl hR
   ·obtain ⟨q0,q1,q2⟩:=HW.out.2.2.2 u hR
    have h9:ρ (.tmp 27)=Vp gB 2:=dq hd 9 27;exact yr (ah rfl h9 (by go_simp)) rfl hR
   have h4:ρ (.tmp 22)=.agg (bg (h y)):=dq hd 4 22;have h6:ρ (.tmp 24)=Vi (h z).u:=dq hd 6 24;have h8:ρ (.tmp 26)=Vi (h z).s:=dq hd 8 26;have h10:ρ (.tmp 28)=Vi (h z).lo:=dq hd 10 28;refine .inl ⟨rfl,.inr ⟨_,_,bv rfl (hf _) (args:=#[.agg (bg (h y)),Vi (h z).u,Vi (h z).s,Vi (h z).lo]) (by simp [h4,h6,h8,h10]) (by kernel_rfl),?_⟩⟩;refine (tW (h y) (h z).u (h z).s (h z).lo _).mono ?_;rintro e u' ⟨he,b'⟩;rw [HV.out] at he;exact ⟨_,he,rfl,ak hR b',b'⟩
  have hi:¬ (z:Int)<(n:Int):=by omega
  have hyes:b=true:=HB.out.2 (HI.out.2.1 (fun j hj=>HA.out j (by omega) hj));subst hyes;clear hrow;go_wp2;go_ret;exact ⟨rfl,hbl⟩
theorem gL(a:OA)(n cap:Nat)(f:Nat->Ru)(w:World)(hs:dU w a n f)(hl:n<= 2000000)(h64:∀ k,k<n->-9223372036854775808<= (f k).sh/\(f k).sh<= 9223372036854775807)(b:Bool)(hb:b=true↔ eK f n):
 Calls prog 27 #[.slice a n cap] w fun e w'=>e=.returned (.bool b)/\Below w.heap.size w w':=by
 have HB:Hid (b=true↔ eK f n):=hb;clear hb;by_cases hn:24<n
 ·have d:(24:Int)<(n:Int):=by omega
  have hno:b=false:=by cases b with|false=>rfl|true=>(have:=(HB.out.1 rfl).1;omega)
  subst hno;clear hs;go_enter func27,ntmps27
  go_wp2;go_ret;exact ⟨rfl,Br⟩
 have d:¬ (24:Int)<(n:Int):=by omega
 go_enter func27,ntmps27
 go_wp2;go_loopw [10] (fun i wr=>∃ z:Nat,z<= n/\i=Vi z/\(∀ k,k<z->bP (f k))/\Below w.heap.size w wr) (fun i _=>n-(intOf i).toNat)
 case atStart=>exact ⟨0,Nat.zero_le _,rfl,fun k hk=>by omega,Br⟩
 case round=>
  obtain ⟨z,hz,rfl,hall,hbl⟩:=hrel;by_cases hlt:z<n
  ·have hi:(z:Int)<(n:Int):=by omega
   obtain ⟨bb,off,rfl,hb0,c0,c1,c2,c3,c4,c5,c6⟩:=dU.seven (fd.below hs hbl) hlt;have B1:Below w.heap.size w (wr.alloc (.cells (bg (f z)) 61)):=ak hbl (Br.alloc Nl _);have HA:Hid (∀ k,k<z->bP (f k)):=hall;clear hall;go_wp2_with fail
   refine (oz (f z) _ (h64 z hlt)).mono ?_;rintro e w2 ⟨rfl,b2⟩;have B2:=ak B1 b2;clear B1 b2 hbl c0 c1 c2 c3 c4 c5 c6;by_cases ho:bP (f z)
   ·rw [decide_eq_true ho]
    go_wp2;go_roundw
    case rel=>exact ⟨z+1,by omega,by go_num,fun k hk=>(by by_cases e:k=z;(subst e;exact ho);(exact HA.out k (by omega))),B2⟩
    case measure=>simp [intOf];omega
   rw [decide_eq_false ho];have hno:b=false:=by cases b with|false=>rfl|true=>exact absurd ((HB.out.1 rfl).2.1 z hlt) ho
   subst hno;go_wp2;go_ret;exact ⟨rfl,B2⟩
  have hi:¬ (z:Int)<(n:Int):=by omega
  have S2:=fd.below hs hbl;have HA:Hid (∀ k,k<n->bP (f k)):=fun k hk=>hall k (by omega)
  clear hall;go_wp2_with fail
  refine (m0 a n cap f _ S2 (by omega) (fun k hk=>(HA.out k hk).2.2.1.2.1) b ⟨fun h=>(HB.out.1 h).2.2,fun h=>HB.out.2 ⟨by omega,HA.out,h⟩⟩).mono ?_;rintro e w2 ⟨rfl,b2⟩;have B2:=ak hbl b2;clear b2 hbl S2;go_wp2;go_ret;exact ⟨rfl,B2⟩
end Go.Proofs.YtohikbpolofklaaGreat
