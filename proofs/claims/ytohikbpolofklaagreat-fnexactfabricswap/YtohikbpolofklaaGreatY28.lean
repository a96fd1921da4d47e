/- Texts that the proof needs, joined: Cz6 RgM Cz7 Cz8 Cz9. -/
import Derived.Test.YtohikbpolofklaaGreatY16
import Derived.Test.YtohikbpolofklaaGreatY26
set_option linter.unusedVariables false
set_option linter.unusedSimpArgs false
set_option maxHeartbeats 8000000
set_option maxRecDepth 20000
namespace Go.Proofs.YtohikbpolofklaaGreat
open Go.RowKit Go.Joins Go.Proofs.Tryz
theorem bE.new(u:World)(base:Nat)(e:TypeId)(s:Nat)(f:Nat->List Tr)(hb:base<= u.heap.size):bE (u.alloc (.cells #[] e)) base e s (.slice (some ⟨u.heap.size,0,none⟩) 0 0) 0 f:=
 ⟨fun _=>[],⟨by simp,.inr ⟨u.heap.size,0,#[],rfl,hb,ae.new u #[] e,by simp,by simp,by simp,by simp⟩⟩,fun k hk=>absurd hk (Nat.not_lt_zero _)⟩
theorem bE.lt{w:World}{base:Nat}{e:TypeId}{s n:Nat}{v:Value}{f:Nat->List Tr}(h:bE w base e s v n f):∀ k,v.ownBlock=some k->base<= k/\k<w.heap.size:=by
 obtain ⟨F,h1,_⟩:=h;exact fun k hk=>World.ownsRow.lt h1 k hk
theorem mz(n:Nat)(f:Nat->VA)(a:OA)(n' cap:Nat)(w:World)(hs:Rd w 0 (.list 6 n (fun k=>ac (aT (f k)))) (.slice a n' cap))(hz:(Tr.list 6 n (fun k=>ac (aT (f k)))).sz<= 1048576):
 Calls prog 124 #[.slice a n' cap] w fun e w'=>∃ v,e=.returned v/\bE w' w.heap.size 162 6 v n (fun k=>aT (f k))/\Below w.heap.size w w':=by
 obtain ⟨a9,c9,h9,-,hn⟩:=hs.shape;simp only [Value.slice.injEq] at h9;obtain ⟨-,rfl,-⟩:=h9;clear a9 c9;have hn1:n'<= 1048576:=by rw [Tr.sz_list] at hz;omega
 have HZ:Hid (∀ k,k<n'->ax 6 (ac (aT (f k)))<= 1048576):=by
  show ∀ k,k<n'->ax 6 (ac (aT (f k)))<= 1048576;intro k hk;rw [Tr.sz_list] at hz;have:=ci (fun k=>ax 6 (ac (aT (f k)))) hk;omega
 have HS:Hid (Rd w 0 (.list 6 n' (fun k=>ac (aT (f k)))) (.slice a n' cap)/\n'<= maxLen):=⟨hs,hn⟩
 clear hs hz hn;go_enter func124,ntmps124
 go_wp2;go_loopw [3,4] (fun s i wr=>∃ (k:Nat),k<= n'/\i=Vi k/\bE wr w.heap.size 162 6 s k (fun i=>aT (f i))/\Below w.heap.size w wr) (fun _ i _=>n'-(intOf i).toNat)
 case atStart=>exact ⟨0,Nat.zero_le _,rfl,bE.new _ _ _ _ _ Nl,Br.alloc Nl _⟩
 case round=>
  obtain ⟨k,hk,rfl,hl,hb⟩:=hrel;by_cases hlt:k<n'
  ·have hi:(k:Int)<(n':Int):=by omega
   obtain ⟨b,off,vs,rfl,_,hb0,hlen,hr,hrd⟩:=(HS.out.1.below hb).at hlt;obtain ⟨a1,c1,a2,c2,rfl,r1,r2⟩:=VA.cells hrd hlen;clear hlen hrd;have d09:wr.cell? ⟨b,off+k*6,none⟩=_:=hr 0 _ rfl;have d19:=hr 1 _ rfl;have d29:=hr 2 _ rfl;have d39:=hr 3 _ rfl;have d49:=hr 4 _ rfl;have d59:=hr 5 _ rfl;have HK:Hid (bE wr w.heap.size 162 6 u3 k (fun i=>aT (f i))/\Below w.heap.size w wr/\Rd wr 0 (aw (f k).ws) (.slice a1 ((f k).ws.length) c1)/\Rd wr 0 (ai (f k).bs) (.slice a2 ((f k).bs.length) c2)):=⟨hl,hb,r1,r2⟩
   clear hl hb hr hb0 r1 r2;go_wp2_with fail
   refine (mu (f k) a1 ((f k).ws.length) c1 a2 ((f k).bs.length) c2 _ HK.out.2.2.1 HK.out.2.2.2 (HZ.out k hlt)).mono ?_;rintro e w1 ⟨b1,d1,b2,d2,rfl,q1,hb1⟩;have H1:Hid (bE w1 w.heap.size 162 6 u3 k (fun i=>aT (f i))/\az w1 wr.heap.size w1.heap.size (aT (f k)) (aL (f k) b1 ((f k).ws.length) d1 b2 ((f k).bs.length) d2)/\Below w.heap.size w w1/\(∀ j,u3.ownBlock=some j->j<wr.heap.size)/\w.heap.size<= wr.heap.size/\w.heap.size<= w1.heap.size):=⟨HK.out.1.below hb1,q1,af HK.out.2.1 hb1,fun j hj=>(HK.out.1.lt j hj).2,HK.out.2.1.size,(af HK.out.2.1 hb1).size⟩
   clear HK q1 hb1 d09 d19 d29 d39 d49 d59;go_wp2_with (at_builtin;refine oo rfl (.tmp 12) (.tmp 18) 120 162 6 80 (.agg #[Vi 0,Vi 0,Vi 0,Vi 0,Zs,Zs]) rfl underlying120 (by kernel_rfl) rfl (by decide) (by decide) w.heap.size u3 k (fun i=>aT (f i)) rfl (H1.out.1.below (aa _ _)) w1.heap.size 1 (aL (f k) b1 ((f k).ws.length) d1 b2 ((f k).bs.length) d2) rfl rfl (fun j u hu=>(ae.new w1 (aL (f k) b1 ((f k).ws.length) d1 b2 ((f k).bs.length) d2).toArray 162).cell j (by simpa using hu)) (fun u hu=>by simp at hu;rcases hu with rfl|rfl|rfl|rfl|rfl|rfl <;> rfl) ((H1.out.2.1.below (aa _ _) Nl).elG H1.out.2.2.2.2.1 H1.out.2.2.2.1) (by omega) (by have:=H1.out.2.2.2.2.2;simp;omega) ?_;intro v' w' L' g' k';have H2:Hid (bE w' w.heap.size 162 6 v' (k+1) (fun i=>aT (f i))/\Below w.heap.size w w'):=⟨L',(af H1.out.2.2.1 (aa _ _)).grown g' (by have:=H1.out.2.2.2.2.2;simp;omega) k'⟩;clear L' g' k' H1)
   go_roundw
   case rel=>
    exact ⟨k+1,by omega,by go_num,H2.out.1,H2.out.2⟩
   case measure=>simp [intOf];omega
  have hi:¬ (k:Int)<(n':Int):=by omega
  have e9:k=n':=by omega
  subst e9;have HR:Hid (bE wr w.heap.size 162 6 u3 k (fun i=>aT (f i))/\Below w.heap.size w wr):=⟨hl,hb⟩
  clear hl hb;go_wp2;go_ret;exact ⟨_,rfl,HR.out.1,HR.out.2⟩
end Go.Proofs.YtohikbpolofklaaGreat
namespace Go.Proofs.YtohikbpolofklaaGreat
open Go.RowKit Go.Proofs.Tryz
def fD(md:Region.Mode)(ops:Array Oper):Nat->Nat->Nat->Bool
 |0,i,j=>i == j
 |k+1,i,j=>i == j||match ops[i]? with
  |some o=>o.after.toList.any (fun e=>Region.binds md e && fD md ops k e.on j)
  |none=>false
def tI(md:Region.Mode)(ops:Array Oper)(N:Nat):Bool:=
 (List.range N).all (fun i=>(aS ops i).isSome) && (List.range ops.size).all (fun i=>decide (i<N)||(List.range i).all (fun j=>fD md ops ops.size i j))
theorem iA{md:Region.Mode}{ops:Array Oper}{l:Nat->Bool}(hcl:∀ j oj,ops[j]? = some oj->l j=true->∀ e ∈ oj.after,Region.binds md e=true->l e.on=true):∀ k i j,fD md ops k i j=true->l i=true->l j=true
 |0,i,j,h,hi=>by
  have e:i=j:=by simpa [fD] using h
  rw [<- e];exact hi
 |k+1,i,j,h,hi=>by
  unfold fD at h;rw [Bool.or_eq_true] at h;rcases h with h|h
  ·have e:i=j:=by simpa using h
   rw [<- e];exact hi
  split at h
  ·rename_i o ho
   rw [List.any_eq_true] at h;obtain ⟨e,he,q⟩:=h;rw [Bool.and_eq_true] at q;exact iA hcl k e.on j q.2 (hcl i o ho hi e (Array.mem_toList_iff.1 he) q.1)
  cases h
theorem sQ{md:Region.Mode}{ops:Array Oper}{l:Nat->Bool}(hcl:∀ j oj,ops[j]? = some oj->l j=true->∀ e ∈ oj.after,Region.binds md e=true->l e.on=true){k i j:Nat}{o:Oper}(ho:ops[i]? = some o)(hdep:∀ e ∈ o.after,Region.binds md e=true->l e.on=true)(hne:i≠j)(h:fD md ops k i j=true):l j=true:=by
 cases k with
 |zero=>exact absurd (by simpa [fD] using h) hne
 |succ k=>
  unfold fD at h;rw [Bool.or_eq_true] at h;rcases h with h|h
  ·exact absurd (by simpa using h) hne
  rw [ho] at h;simp only [List.any_eq_true] at h;obtain ⟨e,he,q⟩:=h;rw [Bool.and_eq_true] at q;exact iA hcl k e.on j q.2 (hdep e (Array.mem_toList_iff.1 he) q.1)
def iB(ops:Array Oper)(N s:Nat):Bool:=(List.range N).all (fun j=>aS ops j != some s)
def sR(P:Program)(ops:Array Oper)(E:(Nat->Value)->World->Prop)(o:Oper)(ρ:Operand->Value)(u:World):Prop:=
 cP ops o ρ=true/\((∃ v u',(execOp ρ o).run P u=.ok (.value v) u'/\E (gf (fun s=>ρ (.tmp s)) o.dst v) u')\/(∃ f args,(execOp ρ o).run P u=.ok (.enter f args) u/\Calls P f args u fun e u'=>∃ v,e=.returned v/\E (gf (fun s=>ρ (.tmp s)) o.dst v) u')\/(o.dst=none/\∃ u',(execOp ρ o).run P u=.ok .skip u'/\E (fun s=>ρ (.tmp s)) u'))
theorem fm{P:Program}{ops:Array Oper}{Q:Exit->Act->World->Prop}{md:Region.Mode}{a0:Act}{w0:World}(N:Nat)(Rb:World->Prop)(E:Nat->(Nat->Value)->World->Prop)(Φ:Nat->Value->World->Prop)
 (hordB:jN md ops=true)(hB:jO ops a0.tmps.size=true)(hN:N<ops.size)(hL:tI md ops N=true)
 (hRb:∀ u u',Rb u->Below u.heap.size u u'->Rb u') (hmono:∀ i v u u',Φ i v u->Below u.heap.size u u'->Φ i v u') (h0:Rb w0)
 (hend:∀ (vs:Nat->Value) (σ:Nat->Value) u,E (ops.size-1) σ u->(∀ i d,aS ops i=some d->vs i=σ d)->Q .normal (bI a0 0 ops.toList vs) u)
 (hstep:∀ u i o (ρ:Operand->Value),i<N->Rb u->ops[i]? = some o->(∀ s,iB ops N s=true->ρ (.tmp s)=a0.eval (.tmp s))->(∀ v,ρ (.const v)=v)->(∀ f,ρ (.func f)=.func (.func f) #[] #[]) ->
  (∀ e ∈ o.after,Region.binds md e=true->∀ d,aS ops e.on=some d->Φ e.on (ρ (.tmp d)) u)->xS P ops Φ i o ρ u)
 (hfirst:∀ u o (ρ:Operand->Value),Rb u->ops[N]? = some o->(∀ s,iB ops N s=true->ρ (.tmp s)=a0.eval (.tmp s))->(∀ v,ρ (.const v)=v)->(∀ f,ρ (.func f)=.func (.func f) #[] #[]) ->
  (∀ j d,j<N->aS ops j=some d->Φ j (ρ (.tmp d)) u)->sR P ops (E N) o ρ u)
 (htail:∀ u i o (ρ:Operand->Value),N<= i->ops[i+1]? = some o->E i (fun s=>ρ (.tmp s)) u->(∀ s,fU ops s=false->ρ (.tmp s)=a0.eval (.tmp s))->(∀ v,ρ (.const v)=v)->(∀ f,ρ (.func f)=.func (.func f) #[] #[])->sR P ops (E (i+1)) o ρ u)
 (fuel:Nat) (l:Array Bool) (hs:l.size=ops.size) (hc:l.toList.count false<= fuel) (hl:∀ i,l.getD i false=false):wpAny P md ops Q fuel l a0 w0:=by
 obtain ⟨hds,hre⟩:(∀ i,i<N->(aS ops i).isSome=true)/\∀ i,N<= i->i<ops.size->∀ j,j<i->fD md ops ops.size i j=true:=by
  unfold tI at hL;simp only [Bool.and_eq_true,List.all_eq_true,List.mem_range,Bool.or_eq_true,decide_eq_true_eq] at hL;exact ⟨hL.1,fun i h1 h2 j hj=>(hL.2 i h2).elim (fun h=>absurd h (by omega)) (fun h=>h j hj)⟩
 refine qa (fun l σ u=>(∀ i,N<= i->i<ops.size->l i=true->(i+1=ops.size\/l (i+1)=false)->E i σ u)/\(l N=false->Rb u/\(∀ s,iB ops N s=true->σ s=a0.eval (.tmp s))/\∀ j d,j<N->aS ops j=some d->l j=true->Φ j (σ d) u)) (fun _ _=>True) (fun _ _ _=>True) hordB hB (fun _ _ _ _ h _=>h) (fun _=>trivial) ⟨fun _ _ _ h _=>(by cases h),fun _=>⟨h0,fun _ _=>rfl,fun _ _ _ _ h=>(by cases h)⟩⟩ (fun vs σ u hR hvs _=>hend vs σ u (hR.1 (ops.size-1) (by omega) (by omega) (by simp;omega) (.inl (by omega))) hvs) ?_ fuel l hs hc hl;intro u i o ρ l hR ho hli hcl hρ hcn hf hdep hv;have hi:i<ops.size:=(Array.getElem?_eq_some_iff.1 ho).1;by_cases e:i<N
 ·have hlt:∀ t,N<= t->t<ops.size->l t=false:=by
   intro t h1 h2;cases h9:l t with
   |false=>rfl
   |true=>have:=iA hcl _ t i (hre t h1 h2 i (by omega)) h9;rw [hli] at this;cases this
  obtain ⟨hb,hσ,hΦ⟩:=hR.2 (hlt N Nl hN);have hup:∀ t,N<= t->aW l i t=l t:=fun t h1=>by unfold aW;rw [if_neg (by omega)]
  obtain ⟨d,hd⟩:=Option.isSome_iff_exists.1 (hds i e);have hod:o.dst=some d:=by simpa [aS,ho] using hd
  have key:∀ v u',Φ i v u'->Below u.heap.size u u'->(∀ t,N<= t->t<ops.size->aW l i t=true->(t+1=ops.size\/aW l i (t+1)=false)->E t (gf (fun s=>ρ (.tmp s)) o.dst v) u')/\(aW l i N=false->Rb u'/\(∀ s,iB ops N s=true->gf (fun s=>ρ (.tmp s)) o.dst v s=a0.eval (.tmp s))/\∀ j d,j<N->aS ops j=some d->aW l i j=true->Φ j (gf (fun s=>ρ (.tmp s)) o.dst v d) u'):=by
   intro v u' h1 h2
   have hnd:∀ s,iB ops N s=true->gf (fun s=>ρ (.tmp s)) o.dst v s=a0.eval (.tmp s):=by
    intro s hs9
    have hne:s≠d:=by
     rintro rfl;unfold iB at hs9;rw [List.all_eq_true] at hs9;have:=hs9 i (List.mem_range.2 e);rw [hd] at this;simp at this
    rw [hod];show (if s=d then v else ρ (.tmp s))=_;rw [if_neg hne];exact hσ s hs9
   refine ⟨fun t q1 q2 q3 _=>(by rw [hup t q1,hlt t q1 q2] at q3;cases q3),fun _=>⟨hRb u u' hb h2,hnd,fun j d' hjN hj hl'=>?_⟩⟩
   by_cases ej:j=i
   ·subst ej
    rw [hd] at hj;cases hj;rw [hod];show Φ j (if d=d then v else _) u';rw [if_pos rfl];exact h1
   have hlj:l j=true:=by unfold aW at hl';rw [if_neg ej] at hl';exact hl'
   have hne:d'≠d:=fun q=>ej ((fO hB hi hd).2 j (dI hj) (by rw [<- q];exact hj))
   rw [hod];show Φ j (if d'=d then v else ρ (.tmp d')) u';rw [if_neg hne];exact hmono _ _ _ _ (hΦ j d' hjN hj hlj) h2
  rcases hstep u i o ρ e hb ho hσ hcn hf (fun e9 he hbd d9 hd9=>by
   have hl9:=hdep e9 he hbd;by_cases q:e9.on<N
   ·exact hΦ e9.on d9 q hd9 hl9
   rw [hlt e9.on (by omega) (dI hd9)] at hl9;cases hl9) with ⟨hw,h9⟩|⟨hw,h9⟩
  ·refine .inl ⟨hw,?_⟩
   rcases h9 with ⟨v,u',hr,h1,h2⟩|⟨f,args,hr,hcall⟩
   ·exact .inl ⟨v,u',hr,trivial,key v u' h1 h2,trivial⟩
   refine .inr (.inl ⟨f,args,hr,hcall.mono ?_⟩);rintro e9 u' ⟨v,he,h1,h2⟩;exact ⟨v,he,trivial,key v u' h1 h2,trivial⟩
  exact .inr ⟨hw,trivial,key undef u h9 Br⟩
 have hbef:∀ j,j<i->l j=true:=fun j hj=>sQ hcl ho hdep (by omega) (hre i (by omega) hi j hj)
 have haft:∀ t,i<t->t<ops.size->l t=false:=by
  intro t h1 h2;cases h9:l t with
  |false=>rfl
  |true=>have:=iA hcl _ t i (hre t (by omega) h2 i h1) h9;rw [hli] at this;cases this
 have hst:sR P ops (E i) o ρ u:=by
  by_cases eN:i=N
  ·subst eN
   obtain ⟨hb,hσ,hΦ⟩:=hR.2 hli;exact hfirst u o ρ hb ho hσ hcn hf (fun j d hj hd=>hΦ j d hj hd (hbef j hj))
  obtain ⟨i',rfl⟩:∃ i',i=i'+1:=⟨i-1,by omega⟩
  exact htail u i' o ρ (by omega) ho (hR.1 i' (by omega) (by omega) (hbef i' (by omega)) (.inr hli)) hρ hcn hf
 have key:∀ σ u',E i σ u'->(∀ t,N<= t->t<ops.size->aW l i t=true->(t+1=ops.size\/aW l i (t+1)=false)->E t σ u')/\(aW l i N=false->Rb u'/\(∀ s,iB ops N s=true->σ s=a0.eval (.tmp s))/\∀ j d,j<N->aS ops j=some d->aW l i j=true->Φ j (σ d) u'):=by
  intro σ u' hE;have hii:aW l i i=true:=by unfold aW;rw [if_pos rfl]
  have hup:∀ t,t≠i->aW l i t=l t:=fun t h1=>by unfold aW;rw [if_neg h1]
  refine ⟨fun t q1 q2 q3 q4=>?_,fun q=>?_⟩
  ·rcases Nat.lt_trichotomy t i with q|q|q
   ·rcases q4 with q4|q4
    ·omega
    by_cases q5:t+1=i
    ·rw [q5,hii] at q4;cases q4
    rw [hup _ q5,hbef (t+1) (by omega)] at q4;cases q4
   ·subst q;exact hE
   rw [hup t (by omega),haft t q q2] at q3;cases q3
  by_cases eN:N=i
  ·rw [eN,hii] at q;cases q
  rw [hup N eN,hbef N (by omega)] at q;cases q
 obtain ⟨hw,h9⟩:=hst;refine .inl ⟨hw,?_⟩;rcases h9 with ⟨v,u',hr,hE⟩|⟨f,args,hr,hcall⟩|⟨hd,u',hr,hE⟩
 ·exact .inl ⟨v,u',hr,trivial,key _ u' hE,trivial⟩
 ·refine .inr (.inl ⟨f,args,hr,hcall.mono ?_⟩)
  rintro e9 u' ⟨v,he,hE⟩;exact ⟨v,he,trivial,key _ u' hE,trivial⟩
 refine .inr (.inr ⟨hd,u',hr,?_,trivial⟩);rw [hd];exact key _ u' hE
end Go.Proofs.YtohikbpolofklaaGreat
namespace Go.Proofs.YtohikbpolofklaaGreat
open Go.RowKit Go.Joins Go.Proofs.Tryz
theorem eM{σ:Nat->Value}{d:Nat}{v:Value}:gf σ (some d) v d=v:=by show (if d=d then v else σ d)=v;rw [if_pos rfl]
theorem jY{σ:Nat->Value}{d s:Nat}{v:Value}(h:d≠s):gf σ (some d) v s=σ s:=by show (if s=d then v else σ s)=_;rw [if_neg (Ne.symm h)]
theorem gO{P:Program}{ρ:Operand->Value}{o:Oper}{w w':World}{s x:Operand}{t:TypeId}{v1 v2 v:Value}(ho:o.op=.call { callee:=.builtin .append,args:=#[s,x],argTypes:=#[t,t] })(hs:ρ s=v1)(hx:ρ x=v2)(hr:(Builtin.append_ #[t,t] o.type #[v1,v2]).run P w=.ok v w'):(execOp ρ o).run P w=.ok (.value v) w':=by
 unfold execOp;simp only [ho,resolve,invoke,builtin,Sem.run_bind,Sem.run_pure,Result.andThen_ok,List.map_toArray,List.map_cons,List.map_nil,hs,hx,hr]
theorem qU{P:Program}{ρ:Operand->Value}{o:Oper}{u:World}{x:Operand}{v:Value}(ho:o.op=.assign x)(hx:ρ x=v):(execOp ρ o).run P u=.ok (.value v) u:=by
 unfold execOp;simp only [ho,hx];rfl
theorem iC{w:World}(ty t e:TypeId)(sz by':Nat)(z:Value)
 (ht:prog.underlying t=some (.slice e))(hinfo:(prog.info? e).map (fun i=>(i.zero,i.size,i.bytes))=some (some z,sz,by'))(hzs:z.cells.size=sz)(hsz:0<sz)(hby:by'<= 10000)
 (base:Nat) (v:Value) (n:Nat) (f:Nat->List Tr) (hown:bE w base e sz v n f)
 (g c:Nat) (vs:List Value) (hvs:vs.length=sz) (hb:∀ j u,vs[j]? = some u->w.cell? ⟨g,j,none⟩=some u) (h1:∀ u ∈ vs,u.oneCell'=true) (hel:ki w base v (f n) vs) (hlen:n<= 2000000) (hbase:base<= w.heap.size):
 ∃ v' w',(Builtin.append_ #[t,t] ty #[v,.slice (some ⟨g,0,none⟩) 1 c]).run prog w=.ok v' w'/\bE w' base e sz v' (n+1) f/\w.grownBy w' v.ownBlock/\(∀ k,v.ownBlock=some k->base<= k):=by
 obtain ⟨F,r1,r2⟩:=hown;obtain ⟨i0,hi,hzz⟩:=Option.map_eq_some_iff.1 hinfo;simp only [Prod.mk.injEq] at hzz;obtain ⟨hz0,hz1,hz2⟩:=hzz
 obtain ⟨v',w',hrun,k1,k2,_,k4⟩:=run_append_own_at w base t ty e i0 z sz by' ht hi hz0 hz1 hz2 hzs hsz v n ((List.range n).flatMap F) r1 ⟨g,0,none⟩ 1 c vs (by rw [hvs];simp) (fun j u hu=>by
  have e1:(⟨g,0,none⟩:Addr).add j=⟨g,j,none⟩:=by unfold Addr.add;split <;> simp_all
  rw [e1];exact hb j u hu) h1 (by unfold maxLen;omega) (by have:(n+1)*by'<= 2000001*10000:=Nat.mul_le_mul (by omega) hby;omega) hbase
 refine ⟨v',w',hrun,⟨fun k=>if k=n then vs else F k,?_,fun k hk=>?_⟩,k2,fun k hk=>(World.ownsRow.lt r1 k hk).1⟩
 ·rw [ld];exact k1
 by_cases e:k=n
 ·subst e
  simp only [if_true];exact ⟨hvs,hel.kept k2 k4⟩
 simp only [if_neg e];exact ⟨(r2 k (by omega)).1,(r2 k (by omega)).2.kept k2 k4⟩
def Fl(w:World)(lo:Nat)(ts:List Tr)(vs:List Value):Prop:=vs.length=ts.length/\∃ K:Nat->Sk,∀ i u,vs[i]? = some u->aQ w (ac ts i) (K i) u/\∀ b,(K i).bl b->lo<= b
theorem az.fl{w:World}{lo hi:Nat}{ts:List Tr}{vs:List Value}(h:az w lo hi ts vs):Fl w lo ts vs:=by
 obtain ⟨K,h1,h2,h3,h4⟩:=h;exact ⟨h1,K,fun i u hu=>⟨h2 i u hu,fun b hb=>((h3 i (by rw [<- h1];exact (List.getElem?_eq_some_iff.1 hu).1)).2 b hb).1⟩⟩
theorem Fl.below{w w':World}{lo:Nat}{ts:List Tr}{vs:List Value}(h:Fl w lo ts vs)(hb:Below w.heap.size w w'):Fl w' lo ts vs:=by
 obtain ⟨h0,K,h⟩:=h;exact ⟨h0,K,fun i u hu=>⟨(h i u hu).1.below hb,(h i u hu).2⟩⟩
theorem Fl.mono{w:World}{lo lo':Nat}{ts:List Tr}{vs:List Value}(h:Fl w lo ts vs)(hl:lo'<= lo):Fl w lo' ts vs:=by
 obtain ⟨h0,K,h⟩:=h;exact ⟨h0,K,fun i u hu=>⟨(h i u hu).1,fun b hb=>Nat.le_trans hl ((h i u hu).2 b hb)⟩⟩
theorem Fl.kept{w w':World}{lo g:Nat}{ts:List Tr}{vs:List Value}(h:Fl w lo ts vs)(hg:w.grownBy w' (some g))(hl:g<lo):Fl w' lo ts vs:=by
 obtain ⟨h0,K,h⟩:=h;exact ⟨h0,K,fun i u hu=>⟨(h i u hu).1.same hg.size (fun b hb=>hg.block b ((h i u hu).1.lt hb) (fun e=>by have:=(h i u hu).2 b hb;have:=Option.some.inj e;omega)),(h i u hu).2⟩⟩
theorem Fl.elG{w:World}{base lo:Nat}{v:Value}{ts:List Tr}{vs:List Value}(h:Fl w lo ts vs)(hl:base<= lo)(hv:∀ b,v.ownBlock=some b->b<lo):ki w base v ts vs:=by
 obtain ⟨h0,K,h⟩:=h;exact ⟨K,fun i u hu=>⟨(h i u hu).1,fun b hb=>⟨Nat.le_trans hl ((h i u hu).2 b hb),fun e=>by have:=hv b e;have:=(h i u hu).2 b hb;omega⟩⟩⟩
theorem Fl.app{w:World}{lo:Nat}{ts us:List Tr}{vs xs:List Value}(h1:Fl w lo ts vs)(h2:Fl w lo us xs):Fl w lo (ts++us) (vs++xs):=by
 obtain ⟨a0,K,a⟩:=h1;obtain ⟨b0,L,b⟩:=h2;refine ⟨by simp [a0,b0],fun i=>if i<ts.length then K i else L (i-ts.length),fun i v hv=>?_⟩
 by_cases e:i<ts.length
 ·have e':i<vs.length:=by omega
  rw [List.getElem?_append_left e'] at hv;simp only [if_pos e]
  have:ac (ts++us) i=ac ts i:=by
   unfold ac;simp [List.getD_eq_getElem?_getD,List.getElem?_append_left e]
  rw [this];exact a i v hv
 have e':vs.length<= i:=by omega
 rw [List.getElem?_append_right e',a0] at hv;simp only [if_neg e]
 have:ac (ts++us) i=ac us (i-ts.length):=by
  unfold ac;simp [List.getD_eq_getElem?_getD,List.getElem?_append_right (Nat.le_of_not_lt e)]
 rw [this];exact b _ v hv
theorem Fl.one{w:World}{lo:Nat}{t:Tr}{K:Sk}{v:Value}(h:aQ w t K v)(hb:∀ b,K.bl b->lo<= b):Fl w lo [t] [v]:=
 ⟨rfl,fun _=>K,fun i u hu=>by
  match i,hu with
  |0,hu=>obtain rfl:=Option.some.inj (show some v=some u from hu);exact ⟨h,hb⟩
  |i+1,hu=>simp at hu⟩
theorem Fl.leaf{w:World}{lo:Nat}{ts:List Tr}{vs:List Value}(v:Value)(h:Fl w lo ts vs):Fl w lo (.leaf v:: ts) (v:: vs):=
 Fl.app (Fl.one (t:=.leaf v) (K:=.leaf) ⟨rfl,rfl⟩ (fun b hb=>hb.elim)) h
theorem bE.shape{w:World}{base:Nat}{e:TypeId}{s n:Nat}{v:Value}{f:Nat->List Tr}(h:bE w base e s v n f):∃ a c,v=.slice a n c:=by
 obtain ⟨F,h1,_⟩:=h;rcases h1.2 with ⟨rfl,rfl⟩|⟨g,cap,cur,rfl,_⟩
 ·exact ⟨none,0,rfl⟩
 exact ⟨_,cap,rfl⟩
theorem bE.fit{w:World}{base:Nat}{e:TypeId}{s n:Nat}{v:Value}{f:Nat->List Tr}(h:bE w base e s v n f):∃ K,aQ w (.list s n (fun i=>ac (f i))) K v/\∀ b,K.bl b->base<= b:=by
 obtain ⟨F,h1,h2⟩:=h;rcases h1.2 with ⟨rfl,rfl⟩|⟨g,cap,cur,rfl,hb,hh,hle,hm,hs,ht⟩
 ·exact ⟨.leaf,⟨rfl,none,0,rfl⟩,fun b hb=>hb.elim⟩
 have hlt:g<w.heap.size:=(Array.getElem?_eq_some_iff.1 hh).1
 have hex:∀ k,∃ K:Nat->Sk,k<n->∀ i u,(F k)[i]? = some u->aQ w (ac (f k) i) (K i) u/\∀ b,(K i).bl b->base<= b:=by
  intro k;by_cases hk:k<n
  ·obtain ⟨K,hK⟩:=(h2 k hk).2
   exact ⟨K,fun _ i u hu=>⟨(hK i u hu).1,fun b hb=>((hK i u hu).2 b hb).1⟩⟩
  exact ⟨fun _=>.leaf,fun h=>absurd h hk⟩
 obtain ⟨K,hK⟩:=Classical.axiomOfChoice hex
 have hcell:∀ k j,k<n->j<s->∃ u,(F k)[j]? = some u/\w.cell? ⟨g,0+k*s+j,none⟩=some u:=by
  intro k j hk hj;have hl:=(h2 k hk).1;obtain ⟨u,hu⟩:∃ u,(F k)[j]? = some u:=⟨(F k)[j]'(by omega),by simp⟩
  refine ⟨u,hu,?_⟩
  have hkl:k*s+j<n*s:=by
   have:(k+1)*s<= n*s:=Nat.mul_le_mul_right s hk;rw [Nat.add_mul,Nat.one_mul] at this;omega
  rw [Nat.zero_add,<- hu,<- jy F s n (fun k hk=>(h2 k hk).1) k j hk hj,<- ht,List.getElem?_take,if_pos hkl,Array.getElem?_toList];simp [World.cell?,hh]
 refine ⟨.row g 0 s n K,⟨rfl,rfl,cap,rfl,hle,by omega,hlt,lG hh,fun k j hk hj=>?_⟩,fun b hb'=>?_⟩
 ·obtain ⟨u,hu,hc⟩:=hcell k j hk hj
  exact ⟨u,hc,(hK k hk j u hu).1⟩
 rcases hb' with rfl|⟨k,j,hk,hj,hb'⟩
 ·exact hb
 obtain ⟨u,hu,_⟩:=hcell k j hk hj;exact (hK k hk j u hu).2 b hb'
theorem bE.fl{w:World}{base:Nat}{e:TypeId}{s n:Nat}{v:Value}{f:Nat->List Tr}(h:bE w base e s v n f):Fl w base [.list s n (fun i=>ac (f i))] [v]:=by
 obtain ⟨K,h1,h2⟩:=h.fit;exact Fl.one h1 h2
theorem sS(X:VP)(b1:OA)(l1 d1:Nat)(b2:OA)(l2 d2:Nat)(w:World):(Instr.buildSlice 119 1 #[(0,.agg (pL X b1 l1 d1 b2 l2 d2).toArray)]).run prog w=.ok (.slice (some ⟨w.heap.size,0,none⟩) 1 1) (w.alloc (.cells (pL X b1 l1 d1 b2 l2 d2).toArray 128)):=by kernel_rfl
theorem lr(n:Nat)(f:Nat->VP)(a:OA)(n' cap:Nat)(w:World)(hs:Rd w 0 (.list 8 n (fun k=>ac (pT (f k)))) (.slice a n' cap))(hz:(Tr.list 8 n (fun k=>ac (pT (f k)))).sz<= 1048576):
 Calls prog 123 #[.slice a n' cap] w fun e w'=>∃ v,e=.returned v/\bE w' w.heap.size 128 8 v n (fun k=>pT (f k))/\Below w.heap.size w w':=by
 obtain ⟨a9,c9,h9,-,hn⟩:=hs.shape;simp only [Value.slice.injEq] at h9;obtain ⟨-,rfl,-⟩:=h9;clear a9 c9;have HN:Hid (n'<= 1048576):=by show n'<= 1048576;rw [Tr.sz_list] at hz;omega
 have hn1:n'<= 1048576:=HN.out
 have HZ:Hid (∀ k,k<n'->ax 6 (ac (qT (f k).q))<= 1048576):=by
  show ∀ k,k<n'->ax 6 (ac (qT (f k).q))<= 1048576;intro k hk;rw [Tr.sz_list] at hz;have h8:=ci (fun k=>ax 8 (ac (pT (f k)))) hk;have h7:ax 8 (ac (pT (f k)))=ax 6 (ac (qT (f k).q)):=by rw [dc,cC]
  omega
 have HS:Hid (Rd w 0 (.list 8 n' (fun k=>ac (pT (f k)))) (.slice a n' cap)/\n'<= maxLen):=⟨hs,hn⟩
 clear hs hz hn;go_enter func123,ntmps123
 go_wp2;go_loopw [3,4] (fun s i wr=>∃ (k:Nat),k<= n'/\i=Vi k/\bE wr w.heap.size 128 8 s k (fun i=>pT (f i))/\Below w.heap.size w wr) (fun _ i _=>n'-(intOf i).toNat)
 case atStart=>exact ⟨0,Nat.zero_le _,rfl,bE.new _ _ _ _ _ Nl,Br.alloc Nl _⟩
 case round=>
  obtain ⟨k,hk,rfl,hl,hb⟩:=hrel;by_cases hlt:k<n'
  ·have hi:(k:Int)<(n':Int):=by omega
   obtain ⟨b,off,vs,rfl,_,hb0,hlen,hr,hrd⟩:=(HS.out.1.below hb).at hlt;obtain ⟨a1,c1,a2,c2,rfl,r1,r2⟩:=VP.cells hrd hlen;have HR:Hid (wr.rangeAt b (off+k*8) (pL (f k) a1 ((f k).q.ws.length) c1 a2 ((f k).q.bs.length) c2)/\b<wr.heap.size):=⟨hr,hb0⟩
   have HK:Hid (bE wr w.heap.size 128 8 u3 k (fun i=>pT (f i))/\Below w.heap.size w wr/\Rd wr 0 (aw (f k).q.ws) (.slice a1 ((f k).q.ws.length) c1)/\Rd wr 0 (ai (f k).q.bs) (.slice a2 ((f k).q.bs.length) c2)/\ax 6 (ac (qT (f k).q))<= 1048576):=⟨hl,hb,r1,r2,HZ.out k hlt⟩
   clear hl hb hr hb0 r1 r2 hlen hrd;go_upto_region 5 with fail
   try go_simp
   refine wp_region_any (by kernel_rfl) ?_
   refine fm 19 (fun u=>Below wr.heap.size wr u) (fun j σ u=>match j with
    |19=>∃ v',σ 31=v'/\bE u w.heap.size 128 8 v' (k+1) (fun i=>pT (f i))/\Below w.heap.size w u
    |_=>∃ v',σ 3=v'/\bE u w.heap.size 128 8 v' (k+1) (fun i=>pT (f i))/\Below w.heap.size w u) (fun i v u=>match i with
    |0=>v=u3
    |1=>v=.slice (some ⟨b,off,none⟩) n' cap
    |2=>v=Vi (k:Int)
    |3=>v=Vp b (off+k*8)
    |4=>v=Vp b (off+k*8)
    |5=>v=Vi (f k).p
    |6=>v=.slice (some ⟨b,off,none⟩) n' cap
    |7=>v=Vi (k:Int)
    |8=>v=Vp b (off+k*8)
    |9=>v=Vp b (off+k*8+1)
    |10=>v=Vi (f k).t
    |11=>v=.slice (some ⟨b,off,none⟩) n' cap
    |12=>v=Vi (k:Int)
    |13=>v=Vp b (off+k*8)
    |14=>v=Vp b (off+k*8+2)
    |15=>v=.agg ([Vi (f k).q.kd,Vi (f k).q.pl,Vi (f k).q.n,.slice a1 ((f k).q.ws.length) c1,.slice a2 ((f k).q.bs.length) c2,Vi (f k).q.wa]).toArray
    |16=>∃ b1 d1 b2 d2,v=.agg (qL (f k).q b1 (f k).q.ws.length d1 b2 (f k).q.bs.length d2).toArray/\Fl u wr.heap.size (qT (f k).q) (qL (f k).q b1 (f k).q.ws.length d1 b2 (f k).q.bs.length d2)
    |17=>∃ b1 d1 b2 d2,v=.agg (pL (f k) b1 (f k).q.ws.length d1 b2 (f k).q.bs.length d2).toArray/\Fl u wr.heap.size (qT (f k).q) (qL (f k).q b1 (f k).q.ws.length d1 b2 (f k).q.bs.length d2)
    |18=>∃ c b1 d1 b2 d2,v=.slice (some ⟨c,0,none⟩) 1 1/\ae u c 128 (pL (f k) b1 (f k).q.ws.length d1 b2 (f k).q.bs.length d2).toArray/\Fl u wr.heap.size (qT (f k).q) (qL (f k).q b1 (f k).q.ws.length d1 b2 (f k).q.bs.length d2)
    |_=>True) (by kernel_rfl) (by kernel_rfl) (by decide) (by kernel_rfl) (fun u u' h hb=>af h hb) ?_ (by first|exact Br|exact Br.drew) ?_ ?_ ?_ ?_ _ _ rfl (by decide) (fun i=>by simp [Array.getD];try (split <;> rfl))
   ·intro i v u u' h hb
    match i,h with
    |0,h=>exact h
    |1,h=>exact h
    |2,h=>exact h
    |3,h=>exact h
    |4,h=>exact h
    |5,h=>exact h
    |6,h=>exact h
    |7,h=>exact h
    |8,h=>exact h
    |9,h=>exact h
    |10,h=>exact h
    |11,h=>exact h
    |12,h=>exact h
    |13,h=>exact h
    |14,h=>exact h
    |15,h=>exact h
    |16,⟨b1,d1,b2,d2,e,h2⟩=>exact ⟨b1,d1,b2,d2,e,h2.below hb⟩
    |17,⟨b1,d1,b2,d2,e,h2⟩=>exact ⟨b1,d1,b2,d2,e,h2.below hb⟩
    |18,⟨c,b1,d1,b2,d2,e,kb,h2⟩=>exact ⟨c,b1,d1,b2,d2,e,kb.below hb,h2.below hb⟩
    |_+19,_=>trivial
   rotate_left
   ·intro u i o ρ hi hR ho hρ hc hf hd
    obtain rfl|rfl|rfl|rfl|rfl|rfl|rfl|rfl|rfl|rfl|rfl|rfl|rfl|rfl|rfl|rfl|rfl|rfl|rfl:i=0\/i=1\/i=2\/i=3\/i=4\/i=5\/i=6\/i=7\/i=8\/i=9\/i=10\/i=11\/i=12\/i=13\/i=14\/i=15\/i=16\/i=17\/i=18:=by omega
    all_goals (simp only [List.getElem?_toArray,List.getElem?_cons_zero,List.getElem?_cons_succ,Option.some.injEq] at ho;subst ho)
    ·have s3:ρ (.tmp 3)=u3:=(hρ 3 (by kernel_rfl)).trans rfl
     exact .inl ⟨rfl,.inl ⟨_,u,rfl,s3,Br⟩⟩
    ·have s0:ρ (.tmp 0)=.slice (some ⟨b,off,none⟩) n' cap:=(hρ 0 (by kernel_rfl)).trans rfl
     exact .inl ⟨rfl,.inl ⟨_,u,rfl,s0,Br⟩⟩
    ·have s4:ρ (.tmp 4)=Vi (k:Int):=(hρ 4 (by kernel_rfl)).trans rfl
     exact .inl ⟨rfl,.inl ⟨_,u,rfl,s4,Br⟩⟩
    ·have h1:ρ (.tmp 13)=.slice (some ⟨b,off,none⟩) n' cap:=dq hd 1 13
     have h2:ρ (.tmp 14)=Vi (k:Int):=dq hd 2 14;exact .inl ⟨rfl,.inl ⟨Vp b (off+k*8),u,au rfl h1 h2 (by go_simp),rfl,Br⟩⟩
    ·have h3:ρ (.tmp 15)=Vp b (off+k*8):=dq hd 3 15
     exact .inl ⟨rfl,.inl ⟨Vp b (off+k*8),u,ao rfl h3 (by go_simp),rfl,Br⟩⟩
    ·have h4:ρ (.tmp 16)=Vp b (off+k*8):=dq hd 4 16
     have y9:u.cell? ⟨b,off+k*8,none⟩=some (Vi (f k).p):=(ay HR.out.1 HR.out.2 hR) 0 _ rfl;have hr:(Instr.loadAt 3 (Vp b (off+k*8))).run prog u=.ok (Vi (f k).p) u:=by go_simp
     exact .inl ⟨rfl,.inl ⟨Vi (f k).p,u,ah rfl h4 hr,rfl,Br⟩⟩
    ·have s0:ρ (.tmp 0)=.slice (some ⟨b,off,none⟩) n' cap:=(hρ 0 (by kernel_rfl)).trans rfl
     exact .inl ⟨rfl,.inl ⟨_,u,rfl,s0,Br⟩⟩
    ·have s4:ρ (.tmp 4)=Vi (k:Int):=(hρ 4 (by kernel_rfl)).trans rfl
     exact .inl ⟨rfl,.inl ⟨_,u,rfl,s4,Br⟩⟩
    ·have h6:ρ (.tmp 18)=.slice (some ⟨b,off,none⟩) n' cap:=dq hd 6 18
     have h7:ρ (.tmp 19)=Vi (k:Int):=dq hd 7 19;exact .inl ⟨rfl,.inl ⟨Vp b (off+k*8),u,au rfl h6 h7 (by go_simp),rfl,Br⟩⟩
    ·have h8:ρ (.tmp 20)=Vp b (off+k*8):=dq hd 8 20
     exact .inl ⟨rfl,.inl ⟨Vp b (off+k*8+1),u,ao rfl h8 (by go_simp),rfl,Br⟩⟩
    ·have h9:ρ (.tmp 21)=Vp b (off+k*8+1):=dq hd 9 21
     have y9:u.cell? ⟨b,off+k*8+1,none⟩=some (Vi (f k).t):=(ay HR.out.1 HR.out.2 hR) 1 _ rfl;have hr:(Instr.loadAt 3 (Vp b (off+k*8+1))).run prog u=.ok (Vi (f k).t) u:=by go_simp
     exact .inl ⟨rfl,.inl ⟨Vi (f k).t,u,ah rfl h9 hr,rfl,Br⟩⟩
    ·have s0:ρ (.tmp 0)=.slice (some ⟨b,off,none⟩) n' cap:=(hρ 0 (by kernel_rfl)).trans rfl
     exact .inl ⟨rfl,.inl ⟨_,u,rfl,s0,Br⟩⟩
    ·have s4:ρ (.tmp 4)=Vi (k:Int):=(hρ 4 (by kernel_rfl)).trans rfl
     exact .inl ⟨rfl,.inl ⟨_,u,rfl,s4,Br⟩⟩
    ·have h11:ρ (.tmp 23)=.slice (some ⟨b,off,none⟩) n' cap:=dq hd 11 23
     have h12:ρ (.tmp 24)=Vi (k:Int):=dq hd 12 24;exact .inl ⟨rfl,.inl ⟨Vp b (off+k*8),u,au rfl h11 h12 (by go_simp),rfl,Br⟩⟩
    ·have h13:ρ (.tmp 25)=Vp b (off+k*8):=dq hd 13 25
     exact .inl ⟨rfl,.inl ⟨Vp b (off+k*8+2),u,ao rfl h13 (by go_simp),rfl,Br⟩⟩
    ·have h14:ρ (.tmp 26)=Vp b (off+k*8+2):=dq hd 14 26
     have hr:(Instr.loadAt 86 (Vp b (off+k*8+2))).run prog u=.ok (.agg ([Vi (f k).q.kd,Vi (f k).q.pl,Vi (f k).q.n,.slice a1 ((f k).q.ws.length) c1,.slice a2 ((f k).q.bs.length) c2,Vi (f k).q.wa]).toArray) u:=run_loadAt_mid u b (off+k*8+2) 86 ([Vi (f k).q.kd,Vi (f k).q.pl,Vi (f k).q.n,.slice a1 ((f k).q.ws.length) c1,.slice a2 ((f k).q.bs.length) c2,Vi (f k).q.wa]) _ (er [Vi (f k).p,Vi (f k).t] [Vi (f k).q.kd,Vi (f k).q.pl,Vi (f k).q.n,.slice a1 ((f k).q.ws.length) c1,.slice a2 ((f k).q.bs.length) c2,Vi (f k).q.wa] [] (ay HR.out.1 HR.out.2 hR) rfl) underlying86 rfl (by kernel_rfl);exact .inl ⟨rfl,.inl ⟨.agg ([Vi (f k).q.kd,Vi (f k).q.pl,Vi (f k).q.n,.slice a1 ((f k).q.ws.length) c1,.slice a2 ((f k).q.bs.length) c2,Vi (f k).q.wa]).toArray,u,ah rfl h14 hr,rfl,Br⟩⟩
    ·have h15:ρ (.tmp 27)=.agg (qL (f k).q a1 (f k).q.ws.length c1 a2 (f k).q.bs.length c2).toArray:=dq hd 15 27
     refine .inl ⟨rfl,.inr ⟨_,_,bv rfl (hf _) (args:=#[.agg (qL (f k).q a1 (f k).q.ws.length c1 a2 (f k).q.bs.length c2).toArray]) (by simp [h15]) (by kernel_rfl),?_⟩⟩;refine (gD (f k).q a1 _ c1 a2 _ c2 _ (HK.out.2.2.1.below hR) (HK.out.2.2.2.1.below hR) HK.out.2.2.2.2).mono ?_;rintro e u' ⟨b1,d1,b2,d2,he,o1,b'⟩;exact ⟨_,he,⟨b1,d1,b2,d2,rfl,o1.fl.mono hR.size⟩,b'⟩
    ·obtain ⟨b1,d1,b2,d2,h16,ho⟩:∃ b1 d1 b2 d2,ρ (.tmp 28)=.agg (qL (f k).q b1 (f k).q.ws.length d1 b2 (f k).q.bs.length d2).toArray/\Fl u wr.heap.size (qT (f k).q) (qL (f k).q b1 (f k).q.ws.length d1 b2 (f k).q.bs.length d2):=dq hd 16 28
     have h5:ρ (.tmp 17)=Vi (f k).p:=dq hd 5 17;have h10:ρ (.tmp 22)=Vi (f k).t:=dq hd 10 22;exact .inl ⟨rfl,.inl ⟨.agg (pL (f k) b1 (f k).q.ws.length d1 b2 (f k).q.bs.length d2).toArray,u,jX rfl (qs:=#[(0,Vi (f k).p),(1,Vi (f k).t),(2,.agg (qL (f k).q b1 (f k).q.ws.length d1 b2 (f k).q.bs.length d2).toArray)]) (by simp [h5,h10,h16]) (by kernel_rfl),⟨b1,d1,b2,d2,rfl,ho⟩,Br⟩⟩
    obtain ⟨b1,d1,b2,d2,h17,ho2⟩:∃ b1 d1 b2 d2,ρ (.tmp 29)=.agg (pL (f k) b1 (f k).q.ws.length d1 b2 (f k).q.bs.length d2).toArray/\Fl u wr.heap.size (qT (f k).q) (qL (f k).q b1 (f k).q.ws.length d1 b2 (f k).q.bs.length d2):=dq hd 17 29;exact .inl ⟨rfl,.inl ⟨_,_,dN rfl (qs:=#[(0,.agg (pL (f k) b1 (f k).q.ws.length d1 b2 (f k).q.bs.length d2).toArray)]) (by simp [h17]) (sS (f k) b1 _ d1 b2 _ d2 u),⟨_,b1,d1,b2,d2,rfl,ae.new _ _ _,ho2.below (aa _ _)⟩,Br.alloc Nl _⟩⟩
   ·intro u o ρ hR ho hρ hc hf hv
    simp only [List.getElem?_toArray,List.getElem?_cons_zero,List.getElem?_cons_succ,Option.some.injEq] at ho;subst ho;have h0:ρ (.tmp 12)=u3:=hv 0 12 (by decide) rfl;obtain ⟨c,b1,d1,b2,d2,h18,kb,ho2⟩:∃ c b1 d1 b2 d2,ρ (.tmp 30)=.slice (some ⟨c,0,none⟩) 1 1/\ae u c 128 (pL (f k) b1 (f k).q.ws.length d1 b2 (f k).q.bs.length d2).toArray/\Fl u wr.heap.size (qT (f k).q) (qL (f k).q b1 (f k).q.ws.length d1 b2 (f k).q.bs.length d2):=hv 18 30 (by decide) rfl;have op:Fl u wr.heap.size (pT (f k)) (pL (f k) b1 (f k).q.ws.length d1 b2 (f k).q.bs.length d2):=(ho2.leaf (Vi (f k).t)).leaf (Vi (f k).p);have hL:=HK.out.1.below hR;obtain ⟨v',w',hrun,L',g',k'⟩:=iC 119 119 128 8 96 (.agg #[Vi 0,Vi 0,Vi 0,Vi 0,Vi 0,Zs,Zs,Vi 0]) underlying119 (by kernel_rfl) rfl (by decide) (by decide) w.heap.size u3 k (fun i=>pT (f i)) hL c 1 (pL (f k) b1 (f k).q.ws.length d1 b2 (f k).q.bs.length d2) rfl (fun j x hx=>kb.cell j (by simpa using hx)) (fun x hx=>by simp at hx;rcases hx with rfl|rfl|rfl|rfl|rfl|rfl|rfl|rfl <;> rfl) (op.elG HK.out.2.1.size (fun j hj=>(HK.out.1.lt j hj).2)) (by have:=HN.out;omega) (Nat.le_trans HK.out.2.1.size hR.size);exact ⟨rfl,.inl ⟨_,w',gO rfl h0 h18 hrun,v',eM,L',(af HK.out.2.1 hR).grown g' (Nat.le_trans HK.out.2.1.size hR.size) k'⟩⟩
   ·intro u i o ρ hi ho hE hρ hc hf
    have hi2:i+1<21:=by
     have:=(Array.getElem?_eq_some_iff.1 ho).1;simpa using this
    obtain rfl:i=19:=by omega
    all_goals (simp only [List.getElem?_toArray,List.getElem?_cons_zero,List.getElem?_cons_succ,Option.some.injEq] at ho;subst ho)
    obtain ⟨v',e1,L',b'⟩:=hE;have e1':ρ (.tmp 31)=v':=e1;exact ⟨rfl,.inl ⟨_,u,qU rfl e1',v',eM,L',b'⟩⟩
   intro vs σ u hE hvs;obtain ⟨v',e3,L',b'⟩:∃ v',σ 3=v'/\bE u w.heap.size 128 8 v' (k+1) (fun i=>pT (f i))/\Below w.heap.size w u:=hE;have e9:vs 20=v':=(hvs 20 3 rfl).trans e3;simp only [bI];rw [e9];have H2:Hid (bE u w.heap.size 128 8 v' (k+1) (fun i=>pT (f i))/\Below w.heap.size w u):=⟨L',b'⟩
   clear e9 e3 hvs L' b' HK HR;try go_simp
   go_wp2;go_roundw
   case rel=>exact ⟨k+1,by omega,by go_num,H2.out.1,H2.out.2⟩
   case measure=>simp [intOf];omega
  have hi:¬ (k:Int)<(n':Int):=by omega
  have e9:k=n':=by omega
  subst e9;have HR:Hid (bE wr w.heap.size 128 8 u3 k (fun i=>pT (f i))/\Below w.heap.size w wr):=⟨hl,hb⟩
  clear hl hb;go_wp2;go_ret;exact ⟨_,rfl,HR.out.1,HR.out.2⟩
theorem ae.wr{u:World}{g o:Nat}{t:TypeId}{cs cs':Array Value}{vs:List Value}(h:ae u g t cs)(he:bO cs o vs=cs'):ae (aF u g o vs) g t cs':=by
 rw [<- he];exact ae.stL _ _ h
theorem mA(X:VD)(a1:OA)(l1 c1:Nat)(a2:OA)(l2 c2:Nat)(a3:OA)(l3 c3:Nat)(a4:OA)(l4 c4:Nat)(a5:OA)(l5 c5:Nat)(w:World)(r1:Rd w 0 (aw X.q.ws) (.slice a1 l1 c1))(r2:Rd w 0 (ai X.q.bs) (.slice a2 l2 c2))(r3:Rd w 0 (eZ X) (.slice a3 l3 c3))(r4:Rd w 0 (ai X.hs) (.slice a4 l4 c4))(r5:Rd w 0 (fP X) (.slice a5 l5 c5))(hz:ax 13 (ac (dT X))<= 1048576):
 Calls prog 80 #[.agg (dL X a1 l1 c1 a2 l2 c2 a3 l3 c3 a4 l4 c4 a5 l5 c5).toArray] w fun e w'=>∃ b1 d1 b2 d2 b3 d3 b4 d4 b5 d5,e=.returned (.agg (dL X b1 l1 d1 b2 l2 d2 b3 l3 d3 b4 l4 d4 b5 l5 d5).toArray)/\Fl w' w.heap.size (dT X) (dL X b1 l1 d1 b2 l2 d2 b3 l3 d3 b4 l4 d4 b5 l5 d5)/\Below w.heap.size w w':=by
 obtain ⟨B,hB⟩:∃ B,B=w.heap.size:=⟨_,rfl⟩
 obtain ⟨W,hW⟩:∃ W,W=(w.alloc (.cells (dL X a1 l1 c1 a2 l2 c2 a3 l3 c3 a4 l4 c4 a5 l5 c5).toArray 122)).alloc (.cells gi 122):=⟨_,rfl⟩
 have bW:Below w.heap.size w W:=by rw [hW];exact af (aa w _) (aa _ _)
 have HZ:Hid (ax 6 (ac (qT X.q))<= 1048576/\(eZ X).sz<= 1048576/\X.hs.length<= 1048576/\(fP X).sz<= 1048576):=by
  rw [dd] at hz;show ax 6 (ac (qT X.q))<= 1048576/\(Tr.list 8 X.np (fun i=>ac (pT (X.pt i)))).sz<= 1048576/\X.hs.length<= 1048576/\(Tr.list 6 X.nt (fun i=>ac (aT (X.tl i)))).sz<= 1048576;try simp only [cC,db,dc,dd,cQ,true_and]
  omega
 have HR:Hid (Rd w 0 (aw X.q.ws) (.slice a1 l1 c1)/\Rd w 0 (ai X.q.bs) (.slice a2 l2 c2)/\Rd w 0 (eZ X) (.slice a3 l3 c3)/\Rd w 0 (ai X.hs) (.slice a4 l4 c4)/\Rd w 0 (fP X) (.slice a5 l5 c5)):=⟨r1,r2,r3,r4,r5⟩
 have HB:Hid (w.heap.size=B/\l3=X.np/\l5=X.nt):=⟨hB.symm,by obtain ⟨_,_,h9,_⟩:=r3;simp only [Value.slice.injEq] at h9;exact h9.2.1,by obtain ⟨_,_,h9,_⟩:=r5;simp only [Value.slice.injEq] at h9;exact h9.2.1⟩
 have G0:Hid (Below w.heap.size w W/\ae W B 122 (dL X a1 l1 c1 a2 l2 c2 a3 l3 c3 a4 l4 c4 a5 l5 c5).toArray/\ae W (B+1) 122 gi/\B+2<= W.heap.size):=⟨bW,by rw [hW,hB];exact (ae.new w _ _).below (aa _ _),by rw [hW,hB];have:=ae.new (w.alloc (.cells (dL X a1 l1 c1 a2 l2 c2 a3 l3 c3 a4 l4 c4 a5 l5 c5).toArray 122)) gi 122;simpa using this,by rw [hW,hB];simp⟩
 clear bW r1 r2 r3 r4 r5 hz;go_enter func80,ntmps80
 go_upto_region 1 with fail
 rw [<- hW];have hB1:w.heap.size+1=B+1:=by omega
 rw [hB1,<- hB];clear hW hB hB1;obtain ⟨⟨y0,y1,y2,y3,y4,y5,y6,y7,y8,y9,y10,y11,y12⟩,yf⟩:=G0.out.2.1.tc13;clear yf;go_wp2_with fail
 refine (gD X.q a1 l1 c1 a2 l2 c2 _ (HR.out.1.below G0.out.1) (HR.out.2.1.below G0.out.1) HZ.out.1).mono ?_;rintro e w1 ⟨b1,d1,b2,d2,rfl,o9,bb⟩;obtain ⟨⟨x0,x1,x2,x3,x4,x5,x6,x7,x8,x9,x10,x11,x12⟩,xf⟩:=(G0.out.2.1.below bb).tc13;have xf4:=xf 4;have xf5:=xf 5;have xf6:=xf 6;have xf7:=xf 7;have xf8:=xf 8;have xf9:=xf 9;clear xf y0 y1 y2 y3 y4 y5 y6 y7 y8 y9 y10 y11 y12;obtain ⟨V1,hV1⟩:∃ W9,W9=aF w1 B 4 [Vi X.q.kd,Vi X.q.pl,Vi X.q.n,.slice b1 l1 d1,.slice b2 l2 d2,Vi X.q.wa]:=⟨_,rfl⟩
 have hg:w1.grownBy V1 (some B):=by rw [hV1];exact bf _ _ _
 have G1:Hid (Below w.heap.size w V1/\ae V1 B 122 (dL X b1 l1 d1 b2 l2 d2 a3 l3 c3 a4 l4 c4 a5 l5 c5).toArray/\ae V1 (B+1) 122 gi/\B+2<= V1.heap.size/\Fl V1 (B+2) (qT X.q) (qL X.q b1 l1 d1 b2 l2 d2)):=⟨by rw [hV1];exact aD (by have:=HB.out.1;omega) _ _ _ (af G0.out.1 bb),by rw [hV1];exact ae.wr (G0.out.2.1.below bb) (by simp [bO]),by rw [hV1];exact ae.stNe (by omega) _ _ (G0.out.2.2.1.below bb),by have:=G0.out.2.2.2;have:=bb.size;have:=hg.size;omega,(o9.fl.mono (lo':=B+2) G0.out.2.2.2).kept hg (by omega)⟩
 have hV:V1=((((((w1.setCell ⟨B,4,none⟩ (Vi X.q.kd)).setCell ⟨B,5,none⟩ (Vi X.q.pl)).setCell ⟨B,6,none⟩ (Vi X.q.n)).setCell ⟨B,7,none⟩ (.slice b1 l1 d1)).setCell ⟨B,8,none⟩ (.slice b2 l2 d2)).setCell ⟨B,9,none⟩ (Vi X.q.wa)):=hV1;clear hV1 hg bb G0 o9;go_upto_region 2 with fail
 rw [<- hV];clear hV x0 x1 x2 x3 x4 x5 x6 x7 x8 x9 x10 x11 x12 xf4 xf5 xf6 xf7 xf8 xf9;obtain ⟨⟨y0,y1,y2,y3,y4,y5,y6,y7,y8,y9,y10,y11,y12⟩,yf⟩:=G1.out.2.1.tc13;clear yf;go_wp2_with fail
 refine (lr X.np X.pt a3 l3 c3 _ (HR.out.2.2.1.below G1.out.1) HZ.out.2.1).mono ?_;rintro e w2 ⟨v9,rfl,o9,bb⟩;obtain ⟨b3,d3,rfl⟩:=o9.shape;rw [show Value.slice b3 X.np d3=Value.slice b3 l3 d3 by rw [HB.out.2.1]] at o9 ⊢;obtain ⟨⟨x0,x1,x2,x3,x4,x5,x6,x7,x8,x9,x10,x11,x12⟩,xf⟩:=(G1.out.2.1.below bb).tc13;have xf10:=xf 10;clear xf y0 y1 y2 y3 y4 y5 y6 y7 y8 y9 y10 y11 y12;obtain ⟨V2,hV2⟩:∃ W9,W9=aF w2 B 10 [.slice b3 l3 d3]:=⟨_,rfl⟩
 have hg:w2.grownBy V2 (some B):=by rw [hV2];exact bf _ _ _
 have G2:Hid (Below w.heap.size w V2/\ae V2 B 122 (dL X b1 l1 d1 b2 l2 d2 b3 l3 d3 a4 l4 c4 a5 l5 c5).toArray/\ae V2 (B+1) 122 gi/\B+2<= V2.heap.size/\Fl V2 (B+2) (qT X.q) (qL X.q b1 l1 d1 b2 l2 d2)/\Fl V2 (B+2) [eZ X] [.slice b3 l3 d3]):=⟨by rw [hV2];exact aD (by have:=HB.out.1;omega) _ _ _ (af G1.out.1 bb),by rw [hV2];exact ae.wr (G1.out.2.1.below bb) (by simp [bO]),by rw [hV2];exact ae.stNe (by omega) _ _ (G1.out.2.2.1.below bb),by have:=G1.out.2.2.2.1;have:=bb.size;have:=hg.size;omega,(G1.out.2.2.2.2.below bb).kept hg (by omega),(o9.fl.mono (lo':=B+2) G1.out.2.2.2.1).kept hg (by omega)⟩
 have hV:V2=(w2.setCell ⟨B,10,none⟩ (.slice b3 l3 d3)):=hV2;clear hV2 hg bb G1 o9;go_upto_region 3 with fail
 rw [<- hV];clear hV x0 x1 x2 x3 x4 x5 x6 x7 x8 x9 x10 x11 x12 xf10;obtain ⟨⟨y0,y1,y2,y3,y4,y5,y6,y7,y8,y9,y10,y11,y12⟩,yf⟩:=(G2.out.2.1.below (aa V2 (.cells #[] 4))).tc13;clear yf;obtain ⟨a9,c9,h9,-,hm4,hs4⟩:=HR.out.2.2.2.1.bools;simp only [Value.slice.injEq] at h9;obtain ⟨ha4,hl4,hc4⟩:=h9;have H4:Hid (l4=X.hs.length/\be w a4 X.hs):=⟨hl4,by rw [ha4];exact hs4⟩
 clear hl4 hs4 hm4 ha4 hc4;go_upto_region 4 with (at_builtin;refine gC rfl (.tmp 11) (.tmp 13) rfl V2.heap.size (.slice (some ⟨V2.heap.size,0,none⟩) 0 0) [] rfl (rX V2 _ Nl) a4 l4 c4 X.hs rfl H4.out.1 (H4.out.2.below (af G2.out.1 (aa _ _))) (by have:=HZ.out.2.2.1;simp;omega) (by simp) ?_;intro v9 w3 o9 g9;have bb:Below V2.heap.size V2 w3:=(aa V2 _).grown g9 (by simp) (fun k hk=>by simp [Value.ownBlock] at hk;omega);obtain ⟨b4,d4,l9,rfl,hl9⟩:=iy o9;rw [show Value.slice b4 l9 d4=Value.slice b4 l4 d4 by rw [hl9,H4.out.1];rfl] at o9 ⊢;obtain ⟨⟨x0,x1,x2,x3,x4,x5,x6,x7,x8,x9,x10,x11,x12⟩,xf⟩:=(G2.out.2.1.below bb).tc13;have xf11:=xf 11;clear xf y0 y1 y2 y3 y4 y5 y6 y7 y8 y9 y10 y11 y12 g9 hl9)
 obtain ⟨V3,hV3⟩:∃ W9,W9=aF w3 B 11 [.slice b4 l4 d4]:=⟨_,rfl⟩
 have hg:w3.grownBy V3 (some B):=by rw [hV3];exact bf _ _ _
 obtain ⟨K9,f9,-,k9⟩:=bD.fit (show bD w3 V2.heap.size (.slice b4 l4 d4) X.hs from o9);have F9:Fl w3 (B+2) [ai X.hs] [.slice b4 l4 d4]:=Fl.one f9 (fun b hb=>Nat.le_trans G2.out.2.2.2.1 (k9 b hb).1);have G3:Hid (Below w.heap.size w V3/\ae V3 B 122 (dL X b1 l1 d1 b2 l2 d2 b3 l3 d3 b4 l4 d4 a5 l5 c5).toArray/\ae V3 (B+1) 122 gi/\B+2<= V3.heap.size/\Fl V3 (B+2) (qT X.q) (qL X.q b1 l1 d1 b2 l2 d2)/\Fl V3 (B+2) [eZ X] [.slice b3 l3 d3]/\Fl V3 (B+2) [ai X.hs] [.slice b4 l4 d4]):=⟨by rw [hV3];exact aD (by have:=HB.out.1;omega) _ _ _ (af G2.out.1 bb),by rw [hV3];exact ae.wr (G2.out.2.1.below bb) (by simp [bO]),by rw [hV3];exact ae.stNe (by omega) _ _ (G2.out.2.2.1.below bb),by have:=G2.out.2.2.2.1;have:=bb.size;have:=hg.size;omega,(G2.out.2.2.2.2.1.below bb).kept hg (by omega),(G2.out.2.2.2.2.2.below bb).kept hg (by omega),F9.kept hg (by omega)⟩
 have hV:V3=(w3.setCell ⟨B,11,none⟩ (.slice b4 l4 d4)):=hV3;clear hV3 hg bb G2 o9 f9 k9 F9;rw [<- hV];clear hV x0 x1 x2 x3 x4 x5 x6 x7 x8 x9 x10 x11 x12 xf11;obtain ⟨⟨y0,y1,y2,y3,y4,y5,y6,y7,y8,y9,y10,y11,y12⟩,yf⟩:=G3.out.2.1.tc13;clear yf;go_wp2_with fail
 refine (mz X.nt X.tl a5 l5 c5 _ (HR.out.2.2.2.2.below G3.out.1) HZ.out.2.2.2).mono ?_;rintro e w4 ⟨v9,rfl,o9,bb⟩;obtain ⟨b5,d5,rfl⟩:=o9.shape;rw [show Value.slice b5 X.nt d5=Value.slice b5 l5 d5 by rw [HB.out.2.2]] at o9 ⊢;obtain ⟨⟨x0,x1,x2,x3,x4,x5,x6,x7,x8,x9,x10,x11,x12⟩,xf⟩:=(G3.out.2.1.below bb).tc13;have xf12:=xf 12;clear xf y0 y1 y2 y3 y4 y5 y6 y7 y8 y9 y10 y11 y12;obtain ⟨V4,hV4⟩:∃ W9,W9=aF w4 B 12 [.slice b5 l5 d5]:=⟨_,rfl⟩
 have hg:w4.grownBy V4 (some B):=by rw [hV4];exact bf _ _ _
 have G4:Hid (Below w.heap.size w V4/\ae V4 B 122 (dL X b1 l1 d1 b2 l2 d2 b3 l3 d3 b4 l4 d4 b5 l5 d5).toArray/\ae V4 (B+1) 122 gi/\B+2<= V4.heap.size/\Fl V4 (B+2) (qT X.q) (qL X.q b1 l1 d1 b2 l2 d2)/\Fl V4 (B+2) [eZ X] [.slice b3 l3 d3]/\Fl V4 (B+2) [ai X.hs] [.slice b4 l4 d4]/\Fl V4 (B+2) [fP X] [.slice b5 l5 d5]):=⟨by rw [hV4];exact aD (by have:=HB.out.1;omega) _ _ _ (af G3.out.1 bb),by rw [hV4];exact ae.wr (G3.out.2.1.below bb) (by simp [bO]),by rw [hV4];exact ae.stNe (by omega) _ _ (G3.out.2.2.1.below bb),by have:=G3.out.2.2.2.1;have:=bb.size;have:=hg.size;omega,(G3.out.2.2.2.2.1.below bb).kept hg (by omega),(G3.out.2.2.2.2.2.1.below bb).kept hg (by omega),(G3.out.2.2.2.2.2.2.below bb).kept hg (by omega),(o9.fl.mono (lo':=B+2) G3.out.2.2.2.1).kept hg (by omega)⟩
 have hV:V4=(w4.setCell ⟨B,12,none⟩ (.slice b5 l5 d5)):=hV4;clear hV4 hg bb G3 o9;go_upto_region 5 with fail
 rw [<- hV];clear hV x0 x1 x2 x3 x4 x5 x6 x7 x8 x9 x10 x11 x12 xf12;refine wp_region_lit ?_;refine wpList_load_mid rfl 122 (.tmp 1) rfl B 0 rfl (dL X b1 l1 d1 b2 l2 d2 b3 l3 d3 b4 l4 d4 b5 l5 d5) _ G4.out.2.1.all underlying122 rfl (by kernel_rfl) ?_;refine wpList_store_mid rfl 122 (.tmp 2) (.tmp 20) rfl (B+1) 0 (dL X b1 l1 d1 b2 l2 d2 b3 l3 d3 b4 l4 d4 b5 l5 d5).toArray rfl rfl (G4.out.2.2.1.there 0 13 (by simp)) (by kernel_rfl) (by simp [Value.oneCell']) ?_;rw [bm];refine wpList_nil ?_;obtain ⟨W9,hW9⟩:∃ W9,W9=aF V4 (B+1) 0 (dL X b1 l1 d1 b2 l2 d2 b3 l3 d3 b4 l4 d4 b5 l5 d5):=⟨_,rfl⟩
 have hg:V4.grownBy W9 (some (B+1)):=by rw [hW9];exact bf _ _ _
 have HB9:ae W9 (B+1) 122 (dL X b1 l1 d1 b2 l2 d2 b3 l3 d3 b4 l4 d4 b5 l5 d5).toArray:=by rw [hW9];exact ae.wr G4.out.2.2.1 (by simp [bO])
 have H9:Hid (Fl W9 w.heap.size (dT X) (dL X b1 l1 d1 b2 l2 d2 b3 l3 d3 b4 l4 d4 b5 l5 d5)/\Below w.heap.size w W9):=by
  refine ⟨?_,by rw [hW9];exact aD (by have:=HB.out.1;omega) _ _ _ G4.out.1⟩
  have j:=(((G4.out.2.2.2.2.1.app (G4.out.2.2.2.2.2.1.app (G4.out.2.2.2.2.2.2.1.app G4.out.2.2.2.2.2.2.2))).leaf (Vi X.un)).leaf (Vi X.ta)).leaf (Vi X.so)|>.leaf (Vi X.id)
  exact (j.kept hg (by omega)).mono (by have:=HB.out.1;omega)
 rw [<- hW9];clear hW9 hg;go_wp2;refine bodyPost_ret (v:=.agg (dL X b1 l1 d1 b2 l2 d2 b3 l3 d3 b4 l4 d4 b5 l5 d5).toArray) (eG results80 rfl (run_loadVar_mid _ _ _ 122 (dL X b1 l1 d1 b2 l2 d2 b3 l3 d3 b4 l4 d4 b5 l5 d5) _ HB9.all underlying122 rfl (by kernel_rfl))) rfl ⟨b1,d1,b2,d2,b3,d3,b4,d4,b5,d5,rfl,H9.out.1,H9.out.2⟩
abbrev tz:Array Value:=#[Vi 0,Zs]
theorem bE.keptLo{w w':World}{base:Nat}{e:TypeId}{s n g:Nat}{v:Value}{f:Nat->List Tr}(h:bE w base e s v n f)(hg:w.grownBy w' (some g))(hl:g<base):bE w' base e s v n f:=by
 obtain ⟨F,h1,h2⟩:=h;refine ⟨F,World.ownsRow.kept h1 hg ?_,fun k hk=>⟨(h2 k hk).1,?_⟩⟩
 ·cases e9:v.ownBlock with
  |none=>exact .inl rfl
  |some k=>exact .inr (fun q=>by have:=(World.ownsRow.lt h1 k e9).1;have:=Option.some.inj q;omega)
 obtain ⟨K,hK⟩:=(h2 k hk).2;exact ⟨K,fun i u hu=>⟨(hK i u hu).1.same hg.size (fun b hb=>hg.block b ((hK i u hu).1.lt hb) (fun q=>by have:=((hK i u hu).2 b hb).1;have:=Option.some.inj q;omega)),(hK i u hu).2⟩⟩
theorem bE.mono{w:World}{base base':Nat}{e:TypeId}{s n:Nat}{v:Value}{f:Nat->List Tr}(h:bE w base e s v n f)(hl:base'<= base):bE w base' e s v n f:=by
 obtain ⟨F,h1,h2⟩:=h;refine ⟨F,⟨h1.1,?_⟩,fun k hk=>⟨(h2 k hk).1,?_⟩⟩
 ·rcases h1.2 with q|⟨g,cap,cur,q1,q2,q3⟩
  ·exact .inl q
  exact .inr ⟨g,cap,cur,q1,Nat.le_trans hl q2,q3⟩
 obtain ⟨K,hK⟩:=(h2 k hk).2;exact ⟨K,fun i u hu=>⟨(hK i u hu).1,fun b hb=>⟨Nat.le_trans hl ((hK i u hu).2 b hb).1,((hK i u hu).2 b hb).2⟩⟩⟩
theorem bE.blk{w w':World}{base b:Nat}{e t:TypeId}{s n:Nat}{v:Value}{f:Nat->List Tr}{cs:Array Value}(h:bE w base e s v n f)(hk:ae w b t cs)(hg:w.grownBy w' v.ownBlock)(ht:t≠e):ae w' b t cs:=by
 obtain ⟨F,h1,h2⟩:=h;have hlt:=hk.lt;unfold ae at hk ⊢;rw [hg.block b hlt (fun q=>?_)]
 ·exact hk
 obtain ⟨c9,h9⟩:=vj h1 q.symm;unfold ae at h9;rw [hk] at h9;simp at h9;exact ht h9.2
theorem sU(X:VD)(b1:OA)(l1 d1:Nat)(b2:OA)(l2 d2:Nat)(b3:OA)(l3 d3:Nat)(b4:OA)(l4 d4:Nat)(b5:OA)(l5 d5:Nat)(w:World):(Instr.buildSlice 36 1 #[(0,.agg (dL X b1 l1 d1 b2 l2 d2 b3 l3 d3 b4 l4 d4 b5 l5 d5).toArray)]).run prog w=.ok (.slice (some ⟨w.heap.size,0,none⟩) 1 1) (w.alloc (.cells (dL X b1 l1 d1 b2 l2 d2 b3 l3 d3 b4 l4 d4 b5 l5 d5).toArray 122)):=by kernel_rfl
theorem qV(nx:Int)(n:Nat)(f:Nat->VD)(a:OA)(n' cap:Nat)(w:World)(hs:Rd w 0 (.list 13 n (fun k=>ac (dT (f k)))) (.slice a n' cap))(hz:(Tr.list 13 n (fun k=>ac (dT (f k)))).sz<= 1048576):
 Calls prog 41 #[.agg #[Vi nx,.slice a n' cap]] w fun e w'=>∃ p q,e=.returned (.agg #[Vi nx,.slice p n' q])/\bE w' w.heap.size 122 13 (.slice p n' q) n (fun k=>dT (f k))/\Below w.heap.size w w':=by
 obtain ⟨a9,c9,h9,-,hn⟩:=hs.shape;simp only [Value.slice.injEq] at h9;obtain ⟨-,rfl,-⟩:=h9;clear a9 c9;have hn1:n'<= 1048576:=by rw [Tr.sz_list] at hz;omega
 have HZ:Hid (∀ k,k<n'->ax 13 (ac (dT (f k)))<= 1048576):=by
  show ∀ k,k<n'->ax 13 (ac (dT (f k)))<= 1048576;intro k hk;rw [Tr.sz_list] at hz;have:=ci (fun k=>ax 13 (ac (dT (f k)))) hk;omega
 obtain ⟨B,hB⟩:∃ B,B=w.heap.size:=⟨_,rfl⟩
 have HB:Hid (w.heap.size=B):=hB.symm;obtain ⟨W,hW⟩:∃ W,W=((w.alloc (.cells #[Vi nx,.slice a n' cap] 38)).alloc (.cells tz 38)).alloc (.cells #[Vi nx,Zs] 38):=⟨_,rfl⟩
 have HS:Hid (Rd w 0 (.list 13 n' (fun k=>ac (dT (f k)))) (.slice a n' cap)/\n'<= maxLen):=⟨hs,hn⟩
 have G0:Hid (bE W (B+3) 122 13 (Zs) 0 (fun i=>dT (f i))/\ae W (B+2) 38 #[Vi nx,Zs]/\ae W B 38 #[Vi nx,.slice a n' cap]/\ae W (B+1) 38 tz/\Below w.heap.size w W/\B+3<= W.heap.size):=by
  refine ⟨bE.nil _ _ _ _ _,?_,?_,?_,?_,?_⟩
  ·rw [hW,hB];have:=ae.new ((w.alloc (.cells #[Vi nx,.slice a n' cap] 38)).alloc (.cells tz 38)) #[Vi nx,Zs] 38;simpa using this
  ·rw [hW,hB];exact ((ae.new w _ _).below (aa _ _)).below (aa _ _)
  ·rw [hW,hB];have:=(ae.new (w.alloc (.cells #[Vi nx,.slice a n' cap] 38)) tz 38).below (aa _ (.cells #[Vi nx,Zs] 38));simpa using this
  ·rw [hW];exact af (af (aa w _) (aa _ _)) (aa _ _)
  rw [hW,hB];simp
 clear hs hz hn;go_enter func41,ntmps41
 go_upto_region 2 with fail
 have hB1:w.heap.size+1=B+1:=by omega
 have hB2:w.heap.size+1+1=B+2:=by omega
 rw [<- hW,hB2,hB1,<- hB];clear hW hB hB1 hB2;go_wp2;go_loopw [4] (fun i wr=>∃ (k:Nat),k<= n'/\i=Vi k/\∃ p3 q3,bE wr (B+3) 122 13 (.slice p3 k q3) k (fun i=>dT (f i))/\ae wr (B+2) 38 #[Vi nx,.slice p3 k q3]/\ae wr B 38 #[Vi nx,.slice a n' cap]/\ae wr (B+1) 38 tz/\Below w.heap.size w wr/\B+3<= wr.heap.size) (fun i _=>n'-(intOf i).toNat)
 case atStart=>exact ⟨0,Nat.zero_le _,rfl,none,0,G0.out⟩
 case round=>
  obtain ⟨k,hk,rfl,p3,q3,HH⟩:=hrel;by_cases hlt:k<n'
  ·have hi:(k:Int)<(n':Int):=by omega
   obtain ⟨b,off,vs,rfl,_,hb0,hlen,hr,hrd⟩:=(HS.out.1.below HH.2.2.2.2.1).at hlt;obtain ⟨a1,c1,a2,c2,a3,c3,a4,c4,a5,c5,rfl,r1,r2,r3,r4,r5⟩:=VD.cells hrd hlen;have HR:Hid (wr.rangeAt b (off+k*13) (dL (f k) a1 ((f k).q.ws.length) c1 a2 ((f k).q.bs.length) c2 a3 ((f k).np) c3 a4 ((f k).hs.length) c4 a5 ((f k).nt) c5)/\b<wr.heap.size):=⟨hr,hb0⟩
   have HE:Hid (Rd wr 0 (aw (f k).q.ws) (.slice a1 ((f k).q.ws.length) c1)/\Rd wr 0 (ai (f k).q.bs) (.slice a2 ((f k).q.bs.length) c2)/\Rd wr 0 (eZ (f k)) (.slice a3 ((f k).np) c3)/\Rd wr 0 (ai (f k).hs) (.slice a4 ((f k).hs.length) c4)/\Rd wr 0 (fP (f k)) (.slice a5 ((f k).nt) c5)/\ax 13 (ac (dT (f k)))<= 1048576):=⟨r1,r2,r3,r4,r5,HZ.out k hlt⟩
   have HK:Hid (_):=HH;obtain ⟨⟨y0,y1⟩,yf⟩:=HH.2.2.1.tc2;clear HH hr hb0 r1 r2 r3 r4 r5 hlen hrd yf G0;go_upto_region 5 with fail
   clear y0 y1;try go_simp
   refine wp_region_any (by kernel_rfl) ?_
   refine fm 9 (fun u=>Below wr.heap.size wr u) (fun j σ u=>match j with
    |9=>∃ p4 q4 u0,σ 24=.slice p4 (k+1) q4/\bE u (B+3) 122 13 (.slice p4 (k+1) q4) (k+1) (fun i=>dT (f i))/\Below wr.heap.size wr u0/\u0.grownBy u (Value.slice p3 k q3).ownBlock
    |10=>(∃ p4 q4 u0,σ 24=.slice p4 (k+1) q4/\bE u (B+3) 122 13 (.slice p4 (k+1) q4) (k+1) (fun i=>dT (f i))/\Below wr.heap.size wr u0/\u0.grownBy u (Value.slice p3 k q3).ownBlock)/\σ 25=Vp (B+2) 1
    |_=>∃ p4 q4 u0 u1,bE u1 (B+3) 122 13 (.slice p4 (k+1) q4) (k+1) (fun i=>dT (f i))/\Below wr.heap.size wr u0/\u0.grownBy u1 (Value.slice p3 k q3).ownBlock/\u=aF u1 (B+2) 1 [.slice p4 (k+1) q4]) (fun i v u=>match i with
    |0=>v=Vp ((B+2)) 1
    |1=>v=.slice p3 k q3
    |2=>v=Vp B 1
    |3=>v=.slice (some ⟨b,off,none⟩) n' cap
    |4=>v=Vi (k:Int)
    |5=>v=Vp b (off+k*13)
    |6=>v=.agg ((dL (f k) a1 ((f k).q.ws.length) c1 a2 ((f k).q.bs.length) c2 a3 ((f k).np) c3 a4 ((f k).hs.length) c4 a5 ((f k).nt) c5)).toArray
    |7=>∃ b1 d1 b2 d2 b3 d3 b4 d4 b5 d5,v=.agg (dL (f k) b1 ((f k).q.ws.length) d1 b2 ((f k).q.bs.length) d2 b3 ((f k).np) d3 b4 ((f k).hs.length) d4 b5 ((f k).nt) d5).toArray/\Fl u wr.heap.size (dT (f k)) (dL (f k) b1 ((f k).q.ws.length) d1 b2 ((f k).q.bs.length) d2 b3 ((f k).np) d3 b4 ((f k).hs.length) d4 b5 ((f k).nt) d5)
    |8=>∃ c b1 d1 b2 d2 b3 d3 b4 d4 b5 d5,v=.slice (some ⟨c,0,none⟩) 1 1/\ae u c 122 (dL (f k) b1 ((f k).q.ws.length) d1 b2 ((f k).q.bs.length) d2 b3 ((f k).np) d3 b4 ((f k).hs.length) d4 b5 ((f k).nt) d5).toArray/\Fl u wr.heap.size (dT (f k)) (dL (f k) b1 ((f k).q.ws.length) d1 b2 ((f k).q.bs.length) d2 b3 ((f k).np) d3 b4 ((f k).hs.length) d4 b5 ((f k).nt) d5)
    |_=>True) (by kernel_rfl) (by kernel_rfl) (by decide) (by kernel_rfl) (fun u u' h hb=>af h hb) ?_ (by first|exact Br|exact Br.drew) ?_ ?_ ?_ ?_ _ _ rfl (by decide) (fun i=>by simp [Array.getD];try (split <;> rfl))
   ·intro i v u u' h hb
    match i,h with
    |0,h=>exact h
    |1,h=>exact h
    |2,h=>exact h
    |3,h=>exact h
    |4,h=>exact h
    |5,h=>exact h
    |6,h=>exact h
    |7,⟨b1,d1,b2,d2,b3,d3,b4,d4,b5,d5,e,h2⟩=>exact ⟨b1,d1,b2,d2,b3,d3,b4,d4,b5,d5,e,h2.below hb⟩
    |8,⟨c,b1,d1,b2,d2,b3,d3,b4,d4,b5,d5,e,kb,h2⟩=>exact ⟨c,b1,d1,b2,d2,b3,d3,b4,d4,b5,d5,e,kb.below hb,h2.below hb⟩
    |_+9,_=>trivial
   rotate_left
   ·intro u i o ρ hi hR ho hρ hc hf hd
    obtain rfl|rfl|rfl|rfl|rfl|rfl|rfl|rfl|rfl:i=0\/i=1\/i=2\/i=3\/i=4\/i=5\/i=6\/i=7\/i=8:=by omega
    all_goals (simp only [List.getElem?_toArray,List.getElem?_cons_zero,List.getElem?_cons_succ,Option.some.injEq] at ho;subst ho)
    ·have s3:ρ (.tmp 3)=Vp ((B+2)) 0:=(hρ 3 (by kernel_rfl)).trans rfl
     exact .inl ⟨rfl,.inl ⟨Vp ((B+2)) 1,u,ao rfl s3 (by go_simp),rfl,Br⟩⟩
    ·have h0:ρ (.tmp 15)=Vp ((B+2)) 1:=dq hd 0 15
     have y9:u.cell? ⟨(B+2),1,none⟩=some (.slice p3 k q3):=(HK.out.2.1.below hR).rng 1 _ rfl;have hr:(Instr.loadAt 36 (Vp ((B+2)) 1)).run prog u=.ok (.slice p3 k q3) u:=by go_simp
     exact .inl ⟨rfl,.inl ⟨.slice p3 k q3,u,ah rfl h0 hr,rfl,Br⟩⟩
    ·have s1:ρ (.tmp 1)=Vp B 0:=(hρ 1 (by kernel_rfl)).trans rfl
     exact .inl ⟨rfl,.inl ⟨Vp B 1,u,ao rfl s1 (by go_simp),rfl,Br⟩⟩
    ·have h2:ρ (.tmp 17)=Vp B 1:=dq hd 2 17
     have y9:u.cell? ⟨B,1,none⟩=some (.slice (some ⟨b,off,none⟩) n' cap):=(HK.out.2.2.1.below hR).rng 1 _ rfl;have hr:(Instr.loadAt 36 (Vp B 1)).run prog u=.ok (.slice (some ⟨b,off,none⟩) n' cap) u:=by go_simp
     exact .inl ⟨rfl,.inl ⟨.slice (some ⟨b,off,none⟩) n' cap,u,ah rfl h2 hr,rfl,Br⟩⟩
    ·have s4:ρ (.tmp 4)=Vi (k:Int):=(hρ 4 (by kernel_rfl)).trans rfl
     exact .inl ⟨rfl,.inl ⟨_,u,rfl,s4,Br⟩⟩
    ·have h3:ρ (.tmp 18)=.slice (some ⟨b,off,none⟩) n' cap:=dq hd 3 18
     have h4:ρ (.tmp 19)=Vi (k:Int):=dq hd 4 19;exact .inl ⟨rfl,.inl ⟨Vp b (off+k*13),u,au rfl h3 h4 (by go_simp),rfl,Br⟩⟩
    ·have h5:ρ (.tmp 20)=Vp b (off+k*13):=dq hd 5 20
     have hr:(Instr.loadAt 122 (Vp b (off+k*13))).run prog u=.ok (.agg ((dL (f k) a1 ((f k).q.ws.length) c1 a2 ((f k).q.bs.length) c2 a3 ((f k).np) c3 a4 ((f k).hs.length) c4 a5 ((f k).nt) c5)).toArray) u:=run_loadAt_mid u b (off+k*13) 122 ((dL (f k) a1 ((f k).q.ws.length) c1 a2 ((f k).q.bs.length) c2 a3 ((f k).np) c3 a4 ((f k).hs.length) c4 a5 ((f k).nt) c5)) _ (ay HR.out.1 HR.out.2 hR) underlying122 rfl (by kernel_rfl);exact .inl ⟨rfl,.inl ⟨.agg ((dL (f k) a1 ((f k).q.ws.length) c1 a2 ((f k).q.bs.length) c2 a3 ((f k).np) c3 a4 ((f k).hs.length) c4 a5 ((f k).nt) c5)).toArray,u,ah rfl h5 hr,rfl,Br⟩⟩
    ·have h6:ρ (.tmp 21)=.agg (dL (f k) a1 ((f k).q.ws.length) c1 a2 ((f k).q.bs.length) c2 a3 ((f k).np) c3 a4 ((f k).hs.length) c4 a5 ((f k).nt) c5).toArray:=dq hd 6 21
     refine .inl ⟨rfl,.inr ⟨_,_,bv rfl (hf _) (args:=#[.agg (dL (f k) a1 ((f k).q.ws.length) c1 a2 ((f k).q.bs.length) c2 a3 ((f k).np) c3 a4 ((f k).hs.length) c4 a5 ((f k).nt) c5).toArray]) (by simp [h6]) (by kernel_rfl),?_⟩⟩;refine (mA (f k) a1 _ c1 a2 _ c2 a3 _ c3 a4 _ c4 a5 _ c5 _ (HE.out.1.below hR) (HE.out.2.1.below hR) (HE.out.2.2.1.below hR) (HE.out.2.2.2.1.below hR) (HE.out.2.2.2.2.1.below hR) HE.out.2.2.2.2.2).mono ?_;rintro e u' ⟨b1,d1,b2,d2,b3,d3,b4,d4,b5,d5,he,o1,b'⟩;exact ⟨_,he,⟨b1,d1,b2,d2,b3,d3,b4,d4,b5,d5,rfl,o1.mono hR.size⟩,b'⟩
    obtain ⟨b1,d1,b2,d2,b3,d3,b4,d4,b5,d5,h7,ho2⟩:∃ b1 d1 b2 d2 b3 d3 b4 d4 b5 d5,ρ (.tmp 22)=.agg (dL (f k) b1 ((f k).q.ws.length) d1 b2 ((f k).q.bs.length) d2 b3 ((f k).np) d3 b4 ((f k).hs.length) d4 b5 ((f k).nt) d5).toArray/\Fl u wr.heap.size (dT (f k)) (dL (f k) b1 ((f k).q.ws.length) d1 b2 ((f k).q.bs.length) d2 b3 ((f k).np) d3 b4 ((f k).hs.length) d4 b5 ((f k).nt) d5):=dq hd 7 22;exact .inl ⟨rfl,.inl ⟨_,_,dN rfl (qs:=#[(0,.agg (dL (f k) b1 ((f k).q.ws.length) d1 b2 ((f k).q.bs.length) d2 b3 ((f k).np) d3 b4 ((f k).hs.length) d4 b5 ((f k).nt) d5).toArray)]) (by simp [h7]) (sU (f k) b1 _ d1 b2 _ d2 b3 _ d3 b4 _ d4 b5 _ d5 u),⟨_,b1,d1,b2,d2,b3,d3,b4,d4,b5,d5,rfl,ae.new _ _ _,ho2.below (aa _ _)⟩,Br.alloc Nl _⟩⟩
   ·intro u o ρ hR ho hρ hc hf hv
    simp only [List.getElem?_toArray,List.getElem?_cons_zero,List.getElem?_cons_succ,Option.some.injEq] at ho;subst ho;have h1:ρ (.tmp 16)=.slice p3 k q3:=hv 1 16 (by decide) rfl;obtain ⟨c,b1,d1,b2,d2,b3,d3,b4,d4,b5,d5,h8,kb,ho2⟩:∃ c b1 d1 b2 d2 b3 d3 b4 d4 b5 d5,ρ (.tmp 23)=.slice (some ⟨c,0,none⟩) 1 1/\ae u c 122 (dL (f k) b1 ((f k).q.ws.length) d1 b2 ((f k).q.bs.length) d2 b3 ((f k).np) d3 b4 ((f k).hs.length) d4 b5 ((f k).nt) d5).toArray/\Fl u wr.heap.size (dT (f k)) (dL (f k) b1 ((f k).q.ws.length) d1 b2 ((f k).q.bs.length) d2 b3 ((f k).np) d3 b4 ((f k).hs.length) d4 b5 ((f k).nt) d5):=hv 8 23 (by decide) rfl;have hL:=HK.out.1.below hR;have hsz:=hR.size;obtain ⟨v',w',hrun,L',g',k'⟩:=iC 36 36 122 13 184 (.agg #[Vi 0,Vi 0,Vi 0,Vi 0,Vi 0,Vi 0,Vi 0,Zs,Zs,Vi 0,Zs,Zs,Zs]) underlying36 (by kernel_rfl) rfl (by decide) (by decide) (B+3) (.slice p3 k q3) k (fun i=>dT (f i)) hL c 1 (dL (f k) b1 ((f k).q.ws.length) d1 b2 ((f k).q.bs.length) d2 b3 ((f k).np) d3 b4 ((f k).hs.length) d4 b5 ((f k).nt) d5) rfl (fun j x hx=>kb.cell j (by simpa using hx)) (fun x hx=>by simp at hx;rcases hx with rfl|rfl|rfl|rfl|rfl|rfl|rfl|rfl|rfl|rfl|rfl|rfl|rfl <;> rfl) (ho2.elG HK.out.2.2.2.2.2 (fun j hj=>(HK.out.1.lt j hj).2)) (by omega) (Nat.le_trans HK.out.2.2.2.2.2 hsz);obtain ⟨p4,q4,rfl⟩:=L'.shape;exact ⟨rfl,.inl ⟨_,w',gO rfl h1 h8 hrun,p4,q4,u,eM,L',hR,g'⟩⟩
   ·intro u i o ρ hi ho hE hρ hc hf
    have hi2:i+1<12:=by
     have:=(Array.getElem?_eq_some_iff.1 ho).1;simpa using this
    obtain rfl|rfl:i=9\/i=10:=by omega
    all_goals (simp only [List.getElem?_toArray,List.getElem?_cons_zero,List.getElem?_cons_succ,Option.some.injEq] at ho;subst ho)
    ·have s3:ρ (.tmp 3)=Vp (B+2) 0:=(hρ 3 (by kernel_rfl)).trans rfl
     obtain ⟨p4,q4,u0,e1,t1,t2,t3⟩:=hE;exact ⟨rfl,.inl ⟨Vp (B+2) 1,u,ao rfl s3 (by go_simp),⟨p4,q4,u0,(jY (by decide)).trans e1,t1,t2,t3⟩,eM⟩⟩
    obtain ⟨⟨p4,q4,u0,e1,t1,t2,t3⟩,e2⟩:=hE;have e1':ρ (.tmp 24)=.slice p4 (k+1) q4:=e1;have e2':ρ (.tmp 25)=Vp (B+2) 1:=e2;have kF:=bE.blk (HK.out.1.below t2) (HK.out.2.1.below t2) t3 (by decide);have c1:=kF.cell 1 rfl;have f1:=kF.fro 1;have hr:(Instr.storeAt 36 (Vp (B+2) 1) (.slice p4 (k+1) q4)).run prog u=.ok () (aF u (B+2) 1 [.slice p4 (k+1) q4]):=by go_simp;rfl
    exact ⟨rfl,.inr (.inr ⟨rfl,_,bY rfl e2' e1' hr,p4,q4,u0,u,t1,t2,t3,rfl⟩)⟩
   intro vs σ u hE hvs;obtain ⟨p4,q4,u0,u1,t1,t2,t3,rfl⟩:∃ p4 q4 u0 u1,bE u1 (B+3) 122 13 (.slice p4 (k+1) q4) (k+1) (fun i=>dT (f i))/\Below wr.heap.size wr u0/\u0.grownBy u1 (Value.slice p3 k q3).ownBlock/\u=aF u1 (B+2) 1 [.slice p4 (k+1) q4]:=hE;have L0:=HK.out.1.below t2;have kF:=bE.blk L0 (HK.out.2.1.below t2) t3 (by decide);have kA:=bE.blk L0 (HK.out.2.2.1.below t2) t3 (by decide);have kR:=bE.blk L0 (HK.out.2.2.2.1.below t2) t3 (by decide);have bl:Below w.heap.size w u1:=(af HK.out.2.2.2.2.1 t2).grown t3 (by have:=HK.out.2.2.2.2.2;have:=t2.size;have:=HB.out;omega) (fun j hj=>by have:=(HK.out.1.lt j hj).1;have:=HB.out;omega);have gs:u1.grownBy (aF u1 (B+2) 1 [.slice p4 (k+1) q4]) (some (B+2)):=bf _ _ _;obtain ⟨W3,hW3⟩:∃ W3,W3=aF u1 (B+2) 1 [.slice p4 (k+1) q4]:=⟨_,rfl⟩
   have H3:Hid (bE W3 (B+3) 122 13 (.slice p4 (k+1) q4) (k+1) (fun i=>dT (f i))/\ae W3 (B+2) 38 #[Vi nx,.slice p4 (k+1) q4]/\ae W3 B 38 #[Vi nx,.slice (some ⟨b,off,none⟩) n' cap]/\ae W3 (B+1) 38 tz/\Below w.heap.size w W3/\B+3<= W3.heap.size):=by
    rw [hW3];exact ⟨t1.keptLo gs (by omega),ae.wr kF (by simp [bO]),ae.stNe (by omega) _ _ kA,ae.stNe (by omega) _ _ kR,aD (by have:=HB.out;omega) _ _ _ bl,by have:=HK.out.2.2.2.2.2;have:=t2.size;have:=t3.size;have:=gs.size;omega⟩
   rw [<- hW3];simp only [bI];clear hW3 kF kA kR bl gs t1 t2 t3 L0 hvs HK HR HE;try go_simp
   go_wp2;go_roundw
   case rel=>exact ⟨k+1,by omega,by go_num,p4,q4,H3.out⟩
   case measure=>simp [intOf];omega
  have hi:¬ (k:Int)<(n':Int):=by omega
  have e9:k=n':=by omega
  subst e9;have HK:Hid (_):=HH;obtain ⟨⟨y0,y1⟩,yf⟩:=HH.2.2.1.tc2;obtain ⟨⟨z0,z1⟩,zf⟩:=HH.2.1.tc2;have zR:=HH.2.2.2.1;obtain ⟨⟨x0,x1⟩,xf⟩:=HH.2.2.2.1.tc2;have xf0:=xf 0;have xf1:=xf 1;obtain ⟨W9,hW9⟩:∃ W9,W9=aF wr (B+1) 0 [Vi nx,.slice p3 k q3]:=⟨_,rfl⟩
  have gs:wr.grownBy W9 (some (B+1)):=by rw [hW9];exact bf _ _ _
  have H9:Hid (bE W9 w.heap.size 122 13 (.slice p3 k q3) k (fun i=>dT (f i))/\Below w.heap.size w W9):=⟨(HH.1.keptLo gs (by omega)).mono (by have:=HB.out;omega),by rw [hW9];exact aD (by have:=HB.out;omega) _ _ _ HH.2.2.2.2.1⟩
  have K9:ae W9 (B+1) 38 #[Vi nx,.slice p3 k q3]:=by rw [hW9];exact ae.wr zR (by simp [bO])
  have hV:W9=((wr.setCell ⟨B+1,0,none⟩ (Vi nx)).setCell ⟨B+1,1,none⟩ (.slice p3 k q3)):=hW9;clear HH yf zf xf hW9 gs zR G0;go_wp2;rw [<- hV];obtain ⟨⟨u0,u1⟩,uf⟩:=K9.tc2;refine bodyPost_ret (v:=.agg #[Vi nx,.slice p3 k q3]) (by simp [results,results41,go_sem,u0,u1]) rfl ⟨p3,q3,rfl,H9.out.1,H9.out.2⟩
end Go.Proofs.YtohikbpolofklaaGreat
