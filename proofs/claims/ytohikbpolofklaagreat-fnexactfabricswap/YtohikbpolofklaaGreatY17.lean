/- Texts that the proof needs, joined: RgV RgW RgX Sr1 Sr2. -/
import Derived.Test.YtohikbpolofklaaGreatY16
import Derived.Below
set_option linter.unusedVariables false
set_option linter.unusedSimpArgs false
set_option maxHeartbeats 4000000
set_option maxRecDepth 20000
namespace Go.Proofs.YtohikbpolofklaaGreat
open Go.RowKit Go.Proofs.Tryz
def aS(ops:Array Oper)(i:Nat):Option Tmp:=(ops[i]?).bind (·.dst)
def pY(ops:Array Oper)(n:Nat):Bool:=
 (List.range ops.size).all fun i=>match aS ops i with
  |some d=>decide (d<n) && (List.range ops.size).all fun j=>decide (j=i)||decide (aS ops j≠some d)
  |none=>false
def fU(ops:Array Oper)(s:Nat):Bool:=(List.range ops.size).any fun i=>decide (aS ops i=some s)
def bI(a:Act):Nat->List Oper->(Nat->Value)->Act
 |_,[],_=>a
 |i,o:: os,vs=>bI (a.put o.dst (vs i)) (i+1) os vs
def cP(ops:Array Oper)(o:Oper)(ρ:Operand->Value):Bool:=
 match o.guard with
 |none=>true
 |some (j,want)=>match aS ops j with
  |some d=>(match ρ (.tmp d) with| .bool b=>b == want|_=>false)
  |none=>false
theorem yu{ops:Array Oper}{o:Oper}{ρ:Operand->Value}{j:Nat}{want:Bool}{d:Tmp}{x:Value}(hg:o.guard=some (j,want))(hd:aS ops j=some d)(h:ρ (.tmp d)=x)(hx:(match (generalizing:=false) x with| .bool b=>b == want|_=>false)=false):cP ops o ρ=false:=by
 unfold cP;rw [hg];simp only [hd,h];exact hx
theorem dq{md:Region.Mode}{ops:Array Oper}{o:Oper}{X:Edge->Tmp->Prop}(hd:∀ e ∈ o.after,Region.binds md e=true->∀ d,aS ops e.on=some d->X e d)(k:Nat)(d:Tmp)(hm:⟨k,.data⟩ ∈ o.after:=by simp)(hb:Region.binds md ⟨k,.data⟩=true:=by exact rfl)(he:aS ops k=some d:=by exact rfl):X ⟨k,.data⟩ d:=hd _ hm hb d he
theorem gq{md:Region.Mode}{ops:Array Oper}{o:Oper}{X:Edge->Tmp->Prop}(hd:∀ e ∈ o.after,Region.binds md e=true->∀ d,aS ops e.on=some d->X e d)(k:Nat)(d:Tmp)(hm:⟨k,.guard⟩ ∈ o.after:=by simp)(hb:Region.binds md ⟨k,.guard⟩=true:=by exact rfl)(he:aS ops k=some d:=by exact rfl):X ⟨k,.guard⟩ d:=hd _ hm hb d he
theorem aj{A B:Prop}{md:Region.Mode}{ops:Array Oper}{o:Oper}{ρ:Operand->Value}{X:Edge->Tmp->Prop}(x:Value)(hd:∀ e ∈ o.after,Region.binds md e=true->∀ d,aS ops e.on=some d->X e d)(k:Nat)(d:Tmp)
 (hg:∃ b,o.guard=some (k,b)/\(match (generalizing:=false) x with| .bool c=>c == b|_=>false)=false:=by exact ⟨_,rfl,rfl⟩)(hx:X ⟨k,.guard⟩ d->ρ (.tmp d)=x:=by exact id)(hB:B:=by first|exact rfl|exact trivial)
 (hm:⟨k,.guard⟩ ∈ o.after:=by simp) (hb:Region.binds md ⟨k,.guard⟩=true:=by exact rfl) (he:aS ops k=some d:=by exact rfl):A\/(cP ops o ρ=false/\B):=by
 obtain ⟨b,h1,h2⟩:=hg;exact .inr ⟨yu h1 he (hx (hd _ hm hb d he)) h2,hB⟩
theorem yr{Run F:Value->World->Prop}{R M:World->Prop}{D E:Prop}{ops:Array Oper}{o:Oper}{ρ:Operand->Value}{v:Value}{u:World}(h:Run v u)(hF:F v u)(hR:R u)(hM:M u:=by exact Br)(hw:cP ops o ρ=true:=by exact rfl):(cP ops o ρ=true/\((∃ v u,Run v u/\F v u/\R u/\M u)\/D))\/E:=.inl ⟨hw,.inl ⟨v,u,h,hF,hR,hM⟩⟩
theorem tU{ops:Array Oper}{o:Oper}{ρ:Operand->Value}{k:Nat}{d:Tmp}(hg:∃ b,o.guard=some (k,b)/\ρ (.tmp d)=.bool b)(he:aS ops k=some d):cP ops o ρ=true:=by
 obtain ⟨b,h1,h2⟩:=hg;unfold cP;rw [h1];simp only [he,h2];cases b <;> rfl
theorem yq{Run F:Value->World->Prop}{R M:World->Prop}{D E:Prop}{md:Region.Mode}{ops:Array Oper}{o:Oper}{ρ:Operand->Value}{X:Edge->Tmp->Prop}{v:Value}{u:World}(hd:∀ e ∈ o.after,Region.binds md e=true->∀ d,aS ops e.on=some d->X e d)(k:Nat)(d:Tmp)(h:Run v u)(hF:F v u)(hR:R u)(hM:M u:=by exact Br)
 (hg:∃ b,o.guard=some (k,b)/\(X ⟨k,.guard⟩ d->ρ (.tmp d)=.bool b):=by exact ⟨_,rfl,id⟩)(hm:⟨k,.guard⟩ ∈ o.after:=by simp)(hb:Region.binds md ⟨k,.guard⟩=true:=by exact rfl)(he:aS ops k=some d:=by exact rfl):(cP ops o ρ=true/\((∃ v u,Run v u/\F v u/\R u/\M u)\/D))\/E:=by
 obtain ⟨b,h1,h2⟩:=hg;exact .inl ⟨tU ⟨b,h1,h2 (hd _ hm hb d he)⟩ he,.inl ⟨v,u,h,hF,hR,hM⟩⟩
def xN(P:Program)(ops:Array Oper)(Φ:Nat->Value->World->Prop)(R:World->Prop)(i:Nat)(o:Oper)(ρ:Operand->Value)(u:World):Prop:=
 (cP ops o ρ=true/\((∃ v u',(execOp ρ o).run P u=.ok (.value v) u'/\Φ i v u'/\R u'/\Below u.heap.size u u')\/(∃ f args,(execOp ρ o).run P u=.ok (.enter f args) u/\Calls P f args u fun e u'=>∃ v,e=.returned v/\Φ i v u'/\R u'/\Below u.heap.size u u')))
 \/(cP ops o ρ=false/\Φ i undef u)
structure InvV(ops:Array Oper)(Φ:Nat->Value->World->Prop)(R:World->Prop)(a0:Act)(l:Array Bool)(a:Act)(u:World):Prop where
 r:R u
 ls:l.size=ops.size
 df:a.defers=a0.defers
 sz:a.tmps.size=a0.tmps.size
 old:∀ s,(∀ i d,aS ops i=some d->l.getD i false=true->d≠s)->a.tmps.getD s undef=a0.tmps.getD s undef
 val:∀ i d,aS ops i=some d->l.getD i false=true->Φ i (a.tmps.getD d undef) u
theorem jz{ops:Array Oper}{n:Nat}(h:pY ops n=true){i:Nat}(hi:i<ops.size):∃ d,aS ops i=some d/\d<n/\∀ j,j<ops.size->aS ops j=some d->j=i:=by
 unfold pY at h;rw [List.all_eq_true] at h;have h1:=h i (List.mem_range.2 hi);cases hd:aS ops i with
 |none=>rw [hd] at h1;cases h1
 |some d=>
  rw [hd] at h1;simp only [Bool.and_eq_true,decide_eq_true_eq,List.all_eq_true,Bool.or_eq_true] at h1;refine ⟨d,rfl,h1.1,fun j hj e=>?_⟩
  rcases h1.2 j (List.mem_range.2 hj) with h2|h2
  ·exact h2
  exact absurd e h2
theorem ck{l:Array Bool}{i j:Nat}(hi:i<l.size):(l.setIfInBounds i true).getD j false=if j=i then true else l.getD j false:=by
 simp only [Array.getD_eq_getD_getElem?,Array.getElem?_setIfInBounds];by_cases e:j=i
 ·subst e;simp [hi]
 rw [if_neg (Ne.symm e),if_neg e]
theorem dW{a:Act}{d s:Nat}{v:Value}(hd:d<a.tmps.size):(a.put (some d) v).tmps.getD s undef=if s=d then v else a.tmps.getD s undef:=by
 show (a.tmps.setIfInBounds d v).getD s undef=_;simp only [Array.getD_eq_getD_getElem?,Array.getElem?_setIfInBounds];by_cases e:s=d
 ·subst e;simp [hd]
 rw [if_neg (Ne.symm e),if_neg e]
theorem InvV.next{ops:Array Oper}{Φ:Nat->Value->World->Prop}{R:World->Prop}{a0:Act}{l:Array Bool}{a:Act}{u u':World}(h:InvV ops Φ R a0 l a u)(hB:pY ops a0.tmps.size=true)
 (hmono:∀ i v u u',Φ i v u->Below u.heap.size u u'->Φ i v u'){i:Nat}{o:Oper}(ho:ops[i]? = some o){v:Value}(hv:Φ i v u')(hr:R u')(hb:Below u.heap.size u u'):
 InvV ops Φ R a0 (l.setIfInBounds i true) (a.put o.dst v) u':=by
 have hi:i<ops.size:=(Array.getElem?_eq_some_iff.1 ho).1;obtain ⟨d,hd,hlt,hun⟩:=jz hB hi;have hod:o.dst=some d:=by simpa [aS,ho] using hd
 rw [hod];have hlt':d<a.tmps.size:=by rw [h.sz];exact hlt
 have hil:i<l.size:=by rw [h.ls];exact hi
 refine ⟨hr,by simpa using h.ls,h.df,by simpa [Act.put] using h.sz,fun s hs=>?_,fun j e hj hl=>?_⟩
 ·have hne:d≠s:=hs i d hd (by rw [ck hil,if_pos rfl])
  rw [dW hlt',if_neg (Ne.symm hne)];exact h.old s (fun j e hj hl=>hs j e hj (by rw [ck hil];split;rfl;exact hl))
 have hjs:j<ops.size:=by
  cases hoj:ops[j]? with
  |none=>rw [aS,hoj] at hj;cases hj
  |some o'=>exact (Array.getElem?_eq_some_iff.1 hoj).1
 rw [dW hlt'];by_cases e1:e=d
 ·subst e1
  obtain rfl:=hun j hjs hj;rw [if_pos rfl];exact hv
 rw [if_neg e1];have e2:j≠i:=fun e2=>by subst e2;rw [hd] at hj;exact e1 (Option.some.inj hj).symm
 rw [ck hil,if_neg e2] at hl;exact hmono _ _ _ _ (h.val j e hj hl) hb
theorem mO{a:Act}:∀ (os:List Oper) (k:Nat) (a':Act) (vs:Nat->Value),a'.defers=a.defers->a'.tmps.size=a.tmps.size->(∀ (j:Nat) (o:Oper) (d:Nat),os[j]? = some o->o.dst=some d->vs (k+j)=a.tmps.getD d undef) ->
 (∀ s,a'.tmps.getD s undef=a.tmps.getD s undef\/∃ (j:Nat) (o:Oper),os[j]? = some o/\o.dst=some s)->(∀ (j:Nat) (o:Oper),os[j]? = some o->∃ d,o.dst=some d/\d<a.tmps.size)->bI a' k os vs=a
 | [],k,a',vs,h1,h2,_,h4,_=>by
  have e:a'.tmps=a.tmps:=by
   apply Array.ext h2;intro i hi1 hi2;rcases h4 i with h|⟨j,o,h,_⟩
   ·simpa [Array.getD,hi1,hi2] using h
   simp at h
  cases a';cases a
  simp only at e h1;subst e h1;rfl
 |o:: os,k,a',vs,h1,h2,h3,h4,h5=>by
  obtain ⟨d,hd,hlt⟩:=h5 0 o rfl;show bI (a'.put o.dst (vs k)) (k+1) os vs=a;rw [hd];refine mO os (k+1) _ vs h1 (by simpa [Act.put] using h2) (fun j o' d' ho hd'=>by rw [show k+1+j=k+(j+1) by omega];exact h3 (j+1) o' d' (by simpa using ho) hd') (fun s=>?_) (fun j o' ho=>h5 (j+1) o' (by simpa using ho));rw [dW (by rw [h2];exact hlt)];by_cases e:s=d
  ·subst e
   rw [if_pos rfl];exact .inl (by simpa using h3 0 o s rfl hd)
  rw [if_neg e];rcases h4 s with h|⟨j,o',ho,hd'⟩
  ·exact .inl h
  cases j with
  |zero=>simp at ho;subst ho;rw [hd] at hd';exact absurd (Option.some.inj hd').symm e
  |succ j=>exact .inr ⟨j,o',by simpa using ho,hd'⟩
theorem je{ops:Array Oper}{a:Act}{o:Oper}(h:∀ j d,aS ops j=some d->d<a.tmps.size):Region.wanted o (yielded ops a.tmps)=cP ops o a.eval:=by
 unfold Region.wanted cP;cases o.guard with
 |none=>rfl
 |some p=>
  obtain ⟨j,want⟩:=p
  have hy:yielded ops a.tmps j=match aS ops j with
   |some d=>(match a.eval (.tmp d) with| .bool b=>some b|_=>none)
   |none=>none:=by
   unfold yielded aS;cases hd:(ops[j]?).bind (·.dst) with
   |none=>rfl
   |some d=>
    have hlt:=h j d hd
    have e:(some d).bind (fun t=>a.tmps[t]?)=some (a.eval (.tmp d)):=by
     show a.tmps[d]? = some (a.tmps.getD d undef);simp [Array.getD,hlt]
    rw [e];simp only;generalize a.eval (.tmp d)=x;cases x <;> rfl
  show (yielded ops a.tmps j == some want)=(match aS ops j with
   |some d=>(match a.eval (.tmp d) with| .bool b=>b == want|_=>false)
   |none=>false)
  rw [hy];cases aS ops j with
  |none=>rfl
  |some d=>
   simp only;generalize a.eval (.tmp d)=x;cases x <;> simp
theorem bw{P:Program}{ops:Array Oper}{Q:Exit->Act->World->Prop}{md:Region.Mode}{a0:Act}{w0:World}(R:World->Prop)(Φ:Nat->Value->World->Prop)
 (hordB:jN md ops=true)(hB:pY ops a0.tmps.size=true)(hmono:∀ i v u u',Φ i v u->Below u.heap.size u u'->Φ i v u')(h0:R w0)
 (hend:∀ (vs:Nat->Value) u,R u->(∀ i,i<ops.size->Φ i (vs i) u)->Q .normal (bI a0 0 ops.toList vs) u)
 (hstep:∀ u i o (ρ:Operand->Value),R u->ops[i]? = some o->(∀ s,fU ops s=false->ρ (.tmp s)=a0.eval (.tmp s))->(∀ v,ρ (.const v)=v)->(∀ f,ρ (.func f)=.func (.func f) #[] #[]) ->
  (∀ e ∈ o.after,Region.binds md e=true->∀ d,aS ops e.on=some d->Φ e.on (ρ (.tmp d)) u)->xN P ops Φ R i o ρ u)
 (fuel:Nat) (l:Array Bool) (hs:l.size=ops.size) (hc:l.toList.count false<= fuel) (hl:∀ i,l.getD i false=false):wpAny P md ops Q fuel l a0 w0:=by
 refine jd (InvV ops Φ R a0) hordB ?_ ?_ fuel l a0 w0 hs hc ?_
 ·intro l a u h hall
  have hall':∀ i,i<ops.size->l.getD i false=true:=fun i hi=>by rw [gw (by rw [h.ls];exact hi) false true];exact hall i hi
  have e:bI a0 0 ops.toList (fun i=>a.tmps.getD ((aS ops i).getD 0) undef)=a:=by
   refine mO ops.toList 0 a0 _ h.df.symm h.sz.symm (fun j o d ho hd=>?_) (fun s=>?_) (fun j o ho=>?_)
   ·rw [Nat.zero_add]
    have:aS ops j=some d:=by rw [Array.getElem?_toList] at ho;simp [aS,ho,hd]
    show a.tmps.getD ((aS ops j).getD 0) undef=_;rw [this];rfl
   ·by_cases hx:∃ j d,aS ops j=some d/\l.getD j false=true/\d=s
    ·obtain ⟨j,d,hd,_,rfl⟩:=hx
     right
     unfold aS at hd;cases ho:ops[j]? with
     |none=>rw [ho] at hd;cases hd
     |some o=>rw [ho] at hd;exact ⟨j,o,by rw [Array.getElem?_toList];exact ho,hd⟩
    left
    exact (h.old s (fun i d hd hl e=>hx ⟨i,d,hd,hl,e⟩)).symm
   rw [Array.getElem?_toList] at ho;have hi:j<ops.size:=(Array.getElem?_eq_some_iff.1 ho).1;obtain ⟨d,hd,hlt,_⟩:=jz hB hi;exact ⟨d,by simpa [aS,ho] using hd,by rw [h.sz];exact hlt⟩
  rw [<- e];refine hend _ u h.r (fun i hi=>?_);obtain ⟨d,hd,_,_⟩:=jz hB hi;show Φ i (a.tmps.getD ((aS ops i).getD 0) undef) u;rw [hd];exact h.val i d hd (hall' i hi)
 ·intro l a u i o h ho hli hdep K hK
  have hi:i<ops.size:=(Array.getElem?_eq_some_iff.1 ho).1
  have hin:∀ j d,aS ops j=some d->j<ops.size:=fun j d hj=>by
   unfold aS at hj;cases hoj:ops[j]? with
   |none=>rw [hoj] at hj;cases hj
   |some o'=>exact (Array.getElem?_eq_some_iff.1 hoj).1
  have hw:Region.wanted o (yielded ops a.tmps)=cP ops o a.eval:=je (fun j d hj=>by
   obtain ⟨d',hd',hlt,_⟩:=jz hB (hin j d hj);rw [hj] at hd';rw [h.sz,Option.some.inj hd'];exact hlt)
  have hst:=hstep u i o a.eval h.r ho (fun s hns=>by
   refine h.old s (fun j d hj _ e=>?_);subst e
   have:fU ops d=true:=by
    unfold fU;rw [List.any_eq_true];exact ⟨j,List.mem_range.2 (hin j d hj),by simp [hj]⟩
   rw [this] at hns;cases hns) (fun _=>rfl) (fun _=>rfl) (fun e he hb d hd=>h.val e.on d hd (hdep e he hb))
  rcases hst with ⟨hwt,⟨v,u',hrun,hv,hr,hbl⟩|⟨f,args,hrun,hcall⟩⟩|⟨hwf,hv⟩
  ·rw [if_pos (by rw [hw];exact hwt)]
   unfold Oper.wp;rw [hrun];exact hK _ _ (h.next hB hmono ho hv hr hbl)
  ·rw [if_pos (by rw [hw];exact hwt)]
   unfold Oper.wp;rw [hrun,Oper.upon_enter];refine hcall.mono ?_;rintro e u' ⟨v,rfl,hv,hr,hbl⟩;exact hK _ _ (h.next hB hmono ho hv hr hbl)
  rw [if_neg (by rw [hw,hwf];decide)];exact hK _ _ (h.next hB hmono ho hv h.r Br)
 exact ⟨h0,hs,rfl,rfl,fun _ _=>rfl,fun i d _ hl'=>by rw [hl i] at hl';cases hl'⟩
theorem ah{P:Program}{ρ:Operand->Value}{o:Oper}{u:World}{t:TypeId}{p:Operand}{ptr v:Value}(ho:o.op=.load t p)(hp:ρ p=ptr)(hr:(Instr.loadAt t ptr).run P u=.ok v u):(execOp ρ o).run P u=.ok (.value v) u:=by
 unfold execOp;simp only [ho,hp];rw [Sem.run_bind,hr];rfl
theorem bv{P:Program}{ρ:Operand->Value}{o:Oper}{u:World}{f:FuncId}{xs:Array Operand}{ts:Array TypeId}{args:Array Value}(ho:o.op=.call ⟨.value (.func f),xs,ts⟩)(hf:ρ (.func f)=.func (.func f) #[] #[])(hx:xs.map ρ=args)
 (hc:(callFunc f args).run P u=.ok (.enter f args) u):(execOp ρ o).run P u=.ok (.enter f args) u:=by
 unfold execOp;simp only [ho,resolve,hf,hx];show (callFunc f ((#[]++args)++#[])).run P u=_;simpa using hc
theorem aC{P:Program}{ρ:Operand->Value}{o:Oper}{u:World}{c x y:Operand}{b:Bool}(ho:o.op=.pick c x y)(hc:ρ c=.bool b):(execOp ρ o).run P u=.ok (.value (if b=true then ρ x else ρ y)) u:=by
 unfold execOp;simp only [ho,hc];rfl
theorem aG{P:Program}{ρ:Operand->Value}{o:Oper}{u:World}{op:BinOp}{t t':TypeId}{x y:Operand}{a b v:Value}(ho:o.op=.binOp op t x y t')(ha:ρ x=a)(hb:ρ y=b)(hr:(do eqGuard op t x y a b;binOp op t a b:Sem Value).run P u=.ok v u):(execOp ρ o).run P u=.ok (.value v) u:=by
 unfold execOp;simp only [ho,ha,hb];rw [Sem.run_bind,hr];rfl
def jO(ops:Array Oper)(n:Nat):Bool:=
 (List.range ops.size).all fun i=>match aS ops i with
  |some d=>decide (d<n) && (List.range ops.size).all fun j=>decide (j=i)||decide (aS ops j≠some d)
  |none=>true
def aW(l:Nat->Bool)(i:Nat):Nat->Bool:=fun j=>if j=i then true else l j
def xO(P:Program)(ops:Array Oper)(Φ:Nat->Value->World->Prop)(R:World->Prop)(M:World->World->Prop)(i:Nat)(o:Oper)(ρ:Operand->Value)(u:World):Prop:=
 (cP ops o ρ=true/\((∃ v u',(execOp ρ o).run P u=.ok (.value v) u'/\Φ i v u'/\R u'/\M u u')\/(∃ f args,(execOp ρ o).run P u=.ok (.enter f args) u/\Calls P f args u fun e u'=>∃ v,e=.returned v/\Φ i v u'/\R u'/\M u u')\/(o.dst=none/\∃ u',(execOp ρ o).run P u=.ok .skip u'/\R u'/\M u u')))
 \/(cP ops o ρ=false/\Φ i undef u/\R u)
structure InvW(md:Region.Mode)(ops:Array Oper)(Φ:Nat->Value->World->Prop)(R:(Nat->Bool)->World->Prop)(a0:Act)(l:Array Bool)(a:Act)(u:World):Prop where
 r:R (fun i=>l.getD i false) u
 ls:l.size=ops.size
 df:a.defers=a0.defers
 sz:a.tmps.size=a0.tmps.size
 old:∀ s,(∀ i d,aS ops i=some d->l.getD i false=true->d≠s)->a.tmps.getD s undef=a0.tmps.getD s undef
 val:∀ i d,aS ops i=some d->l.getD i false=true->Φ i (a.tmps.getD d undef) u
 cl:∀ i o,ops[i]? = some o->l.getD i false=true->∀ e ∈ o.after,Region.binds md e=true->l.getD e.on false=true
theorem fO{ops:Array Oper}{n:Nat}(h:jO ops n=true){i:Nat}(hi:i<ops.size){d:Nat}(hd:aS ops i=some d):d<n/\∀ j,j<ops.size->aS ops j=some d->j=i:=by
 unfold jO at h;rw [List.all_eq_true] at h;have h1:=h i (List.mem_range.2 hi);rw [hd] at h1;simp only [Bool.and_eq_true,decide_eq_true_eq,List.all_eq_true,Bool.or_eq_true] at h1;refine ⟨h1.1,fun j hj e=>?_⟩
 rcases h1.2 j (List.mem_range.2 hj) with h2|h2
 ·exact h2
 exact absurd e h2
theorem dI{ops:Array Oper}{j d:Nat}(hj:aS ops j=some d):j<ops.size:=by
 unfold aS at hj;cases hoj:ops[j]? with
 |none=>rw [hoj] at hj;cases hj
 |some o'=>exact (Array.getElem?_eq_some_iff.1 hoj).1
theorem mP{l:Array Bool}{i:Nat}(hi:i<l.size):(fun j=>(l.setIfInBounds i true).getD j false)=aW (fun j=>l.getD j false) i:=by
 funext j
 exact ck hi
theorem InvW.next{md:Region.Mode}{ops:Array Oper}{Φ:Nat->Value->World->Prop}{R:(Nat->Bool)->World->Prop}{M:World->World->Prop}{a0:Act}{l:Array Bool}{a:Act}{u u':World}(h:InvW md ops Φ R a0 l a u)(hB:jO ops a0.tmps.size=true)
 (hmono:∀ i v u u',Φ i v u->M u u'->Φ i v u'){i:Nat}{o:Oper}(ho:ops[i]? = some o)(hdep:∀ e ∈ o.after,Region.binds md e=true->l.getD e.on false=true){v:Value}(hv:∀ d,o.dst=some d->Φ i v u')(hr:R (aW (fun j=>l.getD j false) i) u')(hb:M u u'):
 InvW md ops Φ R a0 (l.setIfInBounds i true) (a.put o.dst v) u':=by
 have hi:i<ops.size:=(Array.getElem?_eq_some_iff.1 ho).1;have hil:i<l.size:=by rw [h.ls];exact hi
 have hcl:∀ j oj,ops[j]? = some oj->(l.setIfInBounds i true).getD j false=true->∀ e ∈ oj.after,Region.binds md e=true->(l.setIfInBounds i true).getD e.on false=true:=by
  intro j oj hoj hlj e he hbd;rw [ck hil];split
  ·rfl
  rw [ck hil] at hlj;by_cases e1:j=i
  ·subst e1
   rw [ho] at hoj;cases hoj;exact hdep e he hbd
  rw [if_neg e1] at hlj;exact h.cl j oj hoj hlj e he hbd
 have hr':R (fun j=>(l.setIfInBounds i true).getD j false) u':=by rw [mP hil];exact hr
 cases hod:o.dst with
 |none=>
  have hd:aS ops i=none:=by simp [aS,ho,hod]
  refine ⟨hr',by simpa using h.ls,h.df,h.sz,fun s hs=>?_,fun j e hj hl=>?_,hcl⟩
  ·exact h.old s (fun j e hj hl=>hs j e hj (by rw [ck hil];split;rfl;exact hl))
  have e2:j≠i:=fun e2=>by subst e2;rw [hd] at hj;cases hj
  rw [ck hil,if_neg e2] at hl;exact hmono _ _ _ _ (h.val j e hj hl) hb
 |some d=>
  have hd:aS ops i=some d:=by simp [aS,ho,hod]
  obtain ⟨hlt,hun⟩:=fO hB hi hd;have hlt':d<a.tmps.size:=by rw [h.sz];exact hlt
  refine ⟨hr',by simpa using h.ls,h.df,by simpa [Act.put] using h.sz,fun s hs=>?_,fun j e hj hl=>?_,hcl⟩
  ·have hne:d≠s:=hs i d hd (by rw [ck hil,if_pos rfl])
   rw [dW hlt',if_neg (Ne.symm hne)];exact h.old s (fun j e hj hl=>hs j e hj (by rw [ck hil];split;rfl;exact hl))
  rw [dW hlt'];by_cases e1:e=d
  ·subst e1
   obtain rfl:=hun j (dI hj) hj;rw [if_pos rfl];exact hv _ hod
  rw [if_neg e1];have e2:j≠i:=fun e2=>by subst e2;rw [hd] at hj;exact e1 (Option.some.inj hj).symm
  rw [ck hil,if_neg e2] at hl;exact hmono _ _ _ _ (h.val j e hj hl) hb
theorem gI{a:Act}:∀ (os:List Oper) (k:Nat) (a':Act) (vs:Nat->Value),a'.defers=a.defers->a'.tmps.size=a.tmps.size->(∀ (j:Nat) (o:Oper) (d:Nat),os[j]? = some o->o.dst=some d->vs (k+j)=a.tmps.getD d undef) ->
 (∀ s,a'.tmps.getD s undef=a.tmps.getD s undef\/∃ (j:Nat) (o:Oper),os[j]? = some o/\o.dst=some s)->(∀ (j:Nat) (o:Oper) (d:Nat),os[j]? = some o->o.dst=some d->d<a.tmps.size)->bI a' k os vs=a
 | [],k,a',vs,h1,h2,_,h4,_=>by
  have e:a'.tmps=a.tmps:=by
   apply Array.ext h2;intro i hi1 hi2;rcases h4 i with h|⟨j,o,h,_⟩
   ·simpa [Array.getD,hi1,hi2] using h
   simp at h
  cases a';cases a
  simp only at e h1;subst e h1;rfl
 |o:: os,k,a',vs,h1,h2,h3,h4,h5=>by
  show bI (a'.put o.dst (vs k)) (k+1) os vs=a;have h3':∀ (j:Nat) (o:Oper) (d:Nat),os[j]? = some o->o.dst=some d->vs (k+1+j)=a.tmps.getD d undef:=fun j o' d' ho hd'=>by rw [show k+1+j=k+(j+1) by omega];exact h3 (j+1) o' d' (by simpa using ho) hd'
  have h5':∀ (j:Nat) (o:Oper) (d:Nat),os[j]? = some o->o.dst=some d->d<a.tmps.size:=fun j o' d' ho hd'=>h5 (j+1) o' d' (by simpa using ho) hd'
  cases hd:o.dst with
  |none=>
   refine gI os (k+1) _ vs h1 h2 h3' (fun s=>?_) h5';rcases h4 s with h|⟨j,o',ho,hd'⟩
   ·exact .inl h
   cases j with
   |zero=>simp at ho;subst ho;rw [hd] at hd';cases hd'
   |succ j=>exact .inr ⟨j,o',by simpa using ho,hd'⟩
  |some d=>
   have hlt:=h5 0 o d rfl hd;refine gI os (k+1) _ vs h1 (by simpa [Act.put] using h2) h3' (fun s=>?_) h5';rw [dW (by rw [h2];exact hlt)];by_cases e:s=d
   ·subst e
    rw [if_pos rfl];exact .inl (by simpa using h3 0 o s rfl hd)
   rw [if_neg e];rcases h4 s with h|⟨j,o',ho,hd'⟩
   ·exact .inl h
   cases j with
   |zero=>simp at ho;subst ho;rw [hd] at hd';exact absurd (Option.some.inj hd').symm e
   |succ j=>exact .inr ⟨j,o',by simpa using ho,hd'⟩
theorem gm{P:Program}{ops:Array Oper}{Q:Exit->Act->World->Prop}{md:Region.Mode}{a0:Act}{w0:World}(R:(Nat->Bool)->World->Prop)(M:World->World->Prop)(Φ:Nat->Value->World->Prop)
 (hordB:jN md ops=true)(hB:jO ops a0.tmps.size=true)(hmono:∀ i v u u',Φ i v u->M u u'->Φ i v u')(hM:∀ u,M u u)(h0:R (fun _=>false) w0)
 (hend:∀ (vs:Nat->Value) u,R (fun i=>decide (i<ops.size)) u->(∀ i d,aS ops i=some d->Φ i (vs i) u)->Q .normal (bI a0 0 ops.toList vs) u)
 (hstep:∀ u i o (ρ:Operand->Value) (l:Nat->Bool),R l u->ops[i]? = some o->l i=false->(∀ j oj,ops[j]? = some oj->l j=true->∀ e ∈ oj.after,Region.binds md e=true->l e.on=true) ->
  (∀ s,fU ops s=false->ρ (.tmp s)=a0.eval (.tmp s))->(∀ v,ρ (.const v)=v)->(∀ f,ρ (.func f)=.func (.func f) #[] #[]) ->
  (∀ e ∈ o.after,Region.binds md e=true->l e.on=true)->(∀ j d,aS ops j=some d->l j=true->Φ j (ρ (.tmp d)) u)->xO P ops Φ (R (aW l i)) M i o ρ u)
 (fuel:Nat) (l:Array Bool) (hs:l.size=ops.size) (hc:l.toList.count false<= fuel) (hl:∀ i,l.getD i false=false):wpAny P md ops Q fuel l a0 w0:=by
 refine jd (InvW md ops Φ R a0) hordB ?_ ?_ fuel l a0 w0 hs hc ?_
 ·intro l a u h hall
  have hall':∀ i,i<ops.size->l.getD i false=true:=fun i hi=>by rw [gw (by rw [h.ls];exact hi) false true];exact hall i hi
  have e:bI a0 0 ops.toList (fun i=>a.tmps.getD ((aS ops i).getD 0) undef)=a:=by
   refine gI ops.toList 0 a0 _ h.df.symm h.sz.symm (fun j o d ho hd=>?_) (fun s=>?_) (fun j o d ho hd=>?_)
   ·rw [Nat.zero_add]
    have:aS ops j=some d:=by rw [Array.getElem?_toList] at ho;simp [aS,ho,hd]
    show a.tmps.getD ((aS ops j).getD 0) undef=_;rw [this];rfl
   ·by_cases hx:∃ j d,aS ops j=some d/\l.getD j false=true/\d=s
    ·obtain ⟨j,d,hd,_,rfl⟩:=hx
     right
     unfold aS at hd;cases ho:ops[j]? with
     |none=>rw [ho] at hd;cases hd
     |some o=>rw [ho] at hd;exact ⟨j,o,by rw [Array.getElem?_toList];exact ho,hd⟩
    left
    exact (h.old s (fun i d hd hl e=>hx ⟨i,d,hd,hl,e⟩)).symm
   rw [Array.getElem?_toList] at ho;have hi:j<ops.size:=(Array.getElem?_eq_some_iff.1 ho).1;have hd':aS ops j=some d:=by simp [aS,ho,hd]
   rw [h.sz];exact (fO hB hi hd').1
  rw [<- e];refine hend _ u ?_ (fun i d hd=>?_)
  ·have e2:(fun i=>l.getD i false)=(fun i=>decide (i<ops.size)):=by
    funext i
    by_cases hi:i<ops.size
    ·rw [hall' i hi];simp [hi]
    have:¬ i<l.size:=by rw [h.ls];exact hi
    simp [Array.getD,hi,this]
   rw [<- e2];exact h.r
  show Φ i (a.tmps.getD ((aS ops i).getD 0) undef) u;rw [hd];exact h.val i d hd (hall' i (dI hd))
 ·intro l a u i o h ho hli hdep K hK
  have hi:i<ops.size:=(Array.getElem?_eq_some_iff.1 ho).1
  have hw:Region.wanted o (yielded ops a.tmps)=cP ops o a.eval:=je (fun j d hj=>by
   rw [h.sz];exact (fO hB (dI hj) hj).1)
  have hst:=hstep u i o a.eval (fun j=>l.getD j false) h.r ho (by show l.getD i false=false;rw [gw (by rw [h.ls];exact hi) false true];exact hli) (fun j oj hoj hlj e he hb=>h.cl j oj hoj hlj e he hb) (fun s hns=>by
   refine h.old s (fun j d hj _ e=>?_);subst e
   have:fU ops d=true:=by
    unfold fU;rw [List.any_eq_true];exact ⟨j,List.mem_range.2 (dI hj),by simp [hj]⟩
   rw [this] at hns;cases hns) (fun _=>rfl) (fun _=>rfl) hdep (fun j d hd hlj=>h.val j d hd hlj)
  rcases hst with ⟨hwt,⟨v,u',hrun,hv,hr,hbl⟩|⟨f,args,hrun,hcall⟩|⟨hno,u',hrun,hr,hbl⟩⟩|⟨hwf,hv,hr⟩
  ·rw [if_pos (by rw [hw];exact hwt)]
   unfold Oper.wp;rw [hrun];exact hK _ _ (h.next hB hmono ho hdep (fun _ _=>hv) hr hbl)
  ·rw [if_pos (by rw [hw];exact hwt)]
   unfold Oper.wp;rw [hrun,Oper.upon_enter];refine hcall.mono ?_;rintro e u' ⟨v,rfl,hv,hr,hbl⟩;exact hK _ _ (h.next hB hmono ho hdep (fun _ _=>hv) hr hbl)
  ·rw [if_pos (by rw [hw];exact hwt)]
   unfold Oper.wp;rw [hrun,Oper.upon_skip];exact hK _ _ (h.next hB hmono ho hdep (fun d hd=>by rw [hno] at hd;cases hd) hr hbl)
  rw [if_neg (by rw [hw,hwf];decide)];exact hK _ _ (h.next hB hmono ho hdep (fun _ _=>hv) hr (hM u))
 refine ⟨?_,hs,rfl,rfl,fun _ _=>rfl,fun i d _ hl'=>(by rw [hl i] at hl';cases hl'),fun i o _ hl'=>(by rw [hl i] at hl';cases hl')⟩
 rw [show (fun i=>l.getD i false)=(fun _=>false) from funext hl];exact h0
theorem cz{P:Program}{ρ:Operand->Value}{o:Oper}{u:World}{f:FuncId}{x:Operand}{xs:Array Operand}{ts:Array TypeId}{args:Array Value}(ho:o.op=.call ⟨.value x,xs,ts⟩)(hf:ρ x=.func (.func f) #[] #[])(hx:xs.map ρ=args)
 (hc:(callFunc f args).run P u=.ok (.enter f args) u):(execOp ρ o).run P u=.ok (.enter f args) u:=by
 unfold execOp;simp only [ho,resolve,hf,hx];show (callFunc f ((#[]++args)++#[])).run P u=_;simpa using hc
theorem au{P:Program}{ρ:Operand->Value}{o:Oper}{u:World}{t:TypeId}{x y:Operand}{a b v:Value}(ho:o.op=.indexAddr t x y)(ha:ρ x=a)(hb:ρ y=b)(hr:(Instr.indexAt t a b).run P u=.ok v u):(execOp ρ o).run P u=.ok (.value v) u:=by
 unfold execOp;simp only [ho,ha,hb];rw [Sem.run_bind,hr];rfl
theorem bY{P:Program}{ρ:Operand->Value}{o:Oper}{u u':World}{t:TypeId}{x y:Operand}{a b:Value}(ho:o.op=.store t x y)(ha:ρ x=a)(hb:ρ y=b)(hr:(Instr.storeAt t a b).run P u=.ok () u'):(execOp ρ o).run P u=.ok .skip u':=by
 unfold execOp;simp only [ho,ha,hb];rw [Sem.run_bind,hr];rfl
theorem ao{P:Program}{ρ:Operand->Value}{o:Oper}{u:World}{s:TypeId}{x:Operand}{f:Nat}{a v:Value}(ho:o.op=.fieldAddr s x f)(ha:ρ x=a)(hr:(Instr.fieldAt s a f).run P u=.ok v u):(execOp ρ o).run P u=.ok (.value v) u:=by
 unfold execOp;simp only [ho,ha];rw [Sem.run_bind,hr];rfl
theorem dN{P:Program}{ρ:Operand->Value}{o:Oper}{u u':World}{t:TypeId}{n:Nat}{ps:Array (Nat × Operand)}{qs:Array (Nat × Value)}{v:Value}(ho:o.op=.buildSlice t n ps)(ha:ps.map (fun (i,x)=>(i,ρ x))=qs)(hr:(Instr.buildSlice t n qs).run P u=.ok v u'):(execOp ρ o).run P u=.ok (.value v) u':=by
 unfold execOp;simp only [ho,ha];rw [Sem.run_bind,hr];rfl
theorem bT{P:Program}{ρ:Operand->Value}{o:Oper}{u:World}{op:UnOp}{t:TypeId}{x:Operand}{a v:Value}(ho:o.op=.unOp op t x)(ha:ρ x=a)(hr:(Op.unary op a).run P u=.ok v u):(execOp ρ o).run P u=.ok (.value v) u:=by
 unfold execOp;simp only [ho,ha];rw [Sem.run_bind,hr];rfl
def di(x y:Int):Int:=if x<y then -1 else if y<x then 1 else 0
theorem fv(x:Int)(w:World):Calls prog 180 #[Vi x] w fun e w'=>e=.returned (.bool false)/\w'=w:=by
 go_enter func180,ntmps180
 go_wp2;go_ret;exact ⟨rfl,rfl⟩
theorem ia(x y:Int)(w:World):Calls prog 152 #[Vi x,Vi y] w fun e w'=>e=.returned (Vi (di x y))/\w'=w:=by
 unfold di;by_cases h:x<y
 ·rw [if_pos h]
  go_enter func152,ntmps152
  go_wp2_with fail
  refine (fv x _).mono ?_;rintro e w1 ⟨rfl,rfl⟩;go_wp2_with fail
  refine (fv y _).mono ?_;rintro e w2 ⟨rfl,rfl⟩;go_wp2;go_ret;exact ⟨rfl,rfl⟩
 rw [if_neg h];by_cases h':y<x
 ·rw [if_pos h']
  go_enter func152,ntmps152
  go_wp2_with fail
  refine (fv x _).mono ?_;rintro e w1 ⟨rfl,rfl⟩;go_wp2_with fail
  refine (fv y _).mono ?_;rintro e w2 ⟨rfl,rfl⟩;go_wp2;go_ret;exact ⟨rfl,rfl⟩
 rw [if_neg h'];go_enter func152,ntmps152
 go_wp2_with fail
 refine (fv x _).mono ?_;rintro e w1 ⟨rfl,rfl⟩;go_wp2_with fail
 refine (fv y _).mono ?_;rintro e w2 ⟨rfl,rfl⟩;go_wp2;go_ret;exact ⟨rfl,rfl⟩
def tD(x y z:Int):Int:=if x≠0 then x else if y≠0 then y else z
theorem vp(g:Nat)(x y z:Int)(w:World)(h0:w.cell? ⟨g,0,none⟩=some (Vi x))(h1:w.cell? ⟨g,1,none⟩=some (Vi y))(h2:w.cell? ⟨g,2,none⟩=some (Vi z)):
 Calls prog 151 #[.slice (some ⟨g,0,none⟩) 3 3] w fun e w'=>e=.returned (Vi (tD x y z))/\w'=w:=by
 unfold tD;by_cases e0:x=0
 ·rw [if_neg (by omega)]
  by_cases e1:y=0
  ·rw [if_neg (by omega)]
   by_cases e2:z=0
   ·subst e2
    go_enter func151,ntmps151
    go_wp2;refine wp_loop_rounds 4 ?_;rw [rounds_succ];go_wp2;rw [rounds_succ];go_wp2;rw [rounds_succ];go_wp2;rw [rounds_succ];go_wp2;go_ret;exact ⟨rfl,rfl⟩
   go_enter func151,ntmps151
   go_wp2;refine wp_loop_rounds 4 ?_;rw [rounds_succ];go_wp2;rw [rounds_succ];go_wp2;rw [rounds_succ];go_wp2;go_ret;exact ⟨rfl,rfl⟩
  rw [if_pos e1];go_enter func151,ntmps151
  go_wp2;refine wp_loop_rounds 4 ?_;rw [rounds_succ];go_wp2;rw [rounds_succ];go_wp2;go_ret;exact ⟨rfl,rfl⟩
 rw [if_pos e0];go_enter func151,ntmps151
 go_wp2;refine wp_loop_rounds 4 ?_;rw [rounds_succ];go_wp2;go_ret;exact ⟨rfl,rfl⟩
def cm(a b:Ru):Int:=tD (di a.u b.u) (di a.s b.s) (di a.lo b.lo)
theorem eh(a b:Ru):cm a b<0↔ cy a b:=by
 unfold cm tD di cy;repeat' split
 all_goals omega
theorem cA(a b:Ru)(w:World):Calls prog 109 #[.agg (bg a),.agg (bg b)] w fun e w'=>e=.returned (Vi (cm a b))/\Below w.heap.size w w':=by
 obtain ⟨W,hW⟩:∃ W,W=(w.alloc (.cells (bg a) 61)).alloc (.cells (bg b) 61):=⟨_,rfl⟩
 have B0:Below w.heap.size w W:=by rw [hW];exact ((Below.refl _ w).alloc Nl _).alloc (by simp) _
 have HS:Hid (W.heap.size=w.heap.size+2):=by rw [hW];simp [Hid]
 have HC:Hid (W.cell? ⟨w.heap.size,0,none⟩=some (Vi a.u)/\W.cell? ⟨w.heap.size,1,none⟩=some (Vi a.s)/\W.cell? ⟨w.heap.size,2,none⟩=some (Vi a.lo)/\W.cell? ⟨w.heap.size+1,0,none⟩=some (Vi b.u)/\W.cell? ⟨w.heap.size+1,1,none⟩=some (Vi b.s)/\W.cell? ⟨w.heap.size+1,2,none⟩=some (Vi b.lo)):=by rw [hW];refine ⟨?_,?_,?_,?_,?_,?_⟩ <;> simp [go_sem]
 have cells:∀ {u:World},Below W.heap.size W u->u.cell? ⟨w.heap.size,0,none⟩=some (Vi a.u)/\u.cell? ⟨w.heap.size,1,none⟩=some (Vi a.s)/\u.cell? ⟨w.heap.size,2,none⟩=some (Vi a.lo)/\u.cell? ⟨w.heap.size+1,0,none⟩=some (Vi b.u)/\u.cell? ⟨w.heap.size+1,1,none⟩=some (Vi b.s)/\u.cell? ⟨w.heap.size+1,2,none⟩=some (Vi b.lo):=fun hb=>by
  have hs:=HS.out;obtain ⟨k0,k1,k2,k3,k4,k5⟩:=HC.out;refine ⟨?_,?_,?_,?_,?_,?_⟩
  ·rw [hb.cell (p:=⟨w.heap.size,0,none⟩) (by show w.heap.size<W.heap.size;omega)];exact k0
  ·rw [hb.cell (p:=⟨w.heap.size,1,none⟩) (by show w.heap.size<W.heap.size;omega)];exact k1
  ·rw [hb.cell (p:=⟨w.heap.size,2,none⟩) (by show w.heap.size<W.heap.size;omega)];exact k2
  ·rw [hb.cell (p:=⟨w.heap.size+1,0,none⟩) (by show w.heap.size+1<W.heap.size;omega)];exact k3
  ·rw [hb.cell (p:=⟨w.heap.size+1,1,none⟩) (by show w.heap.size+1<W.heap.size;omega)];exact k4
  rw [hb.cell (p:=⟨w.heap.size+1,2,none⟩) (by show w.heap.size+1<W.heap.size;omega)];exact k5
 go_enter func109,ntmps109
 go_wp2;rw [<- hW];clear hW;refine wp_region_any (by kernel_rfl) ?_;refine bw (fun u=>Below W.heap.size W u) (fun i v u=>match i with
 |0=>v=Vp w.heap.size 0
 |1=>v=Vi a.u
 |2=>v=Vp (w.heap.size+1) 0
 |3=>v=Vi b.u
 |4=>v=Vi (di a.u b.u)
 |5=>v=Vp w.heap.size 1
 |6=>v=Vi a.s
 |7=>v=Vp (w.heap.size+1) 1
 |8=>v=Vi b.s
 |9=>v=Vi (di a.s b.s)
 |10=>v=Vp w.heap.size 2
 |11=>v=Vi a.lo
 |12=>v=Vp (w.heap.size+1) 2
 |13=>v=Vi b.lo
 |14=>v=Vi (di a.lo b.lo)
 |15=>∃ g,v=.slice (some ⟨g,0,none⟩) 3 3/\g<u.heap.size/\u.cell? ⟨g,0,none⟩=some (Vi (di a.u b.u))/\u.cell? ⟨g,1,none⟩=some (Vi (di a.s b.s))/\u.cell? ⟨g,2,none⟩=some (Vi (di a.lo b.lo))
 |16=>v=Vi (cm a b)
 |17=>v=Vi (cm a b)
 |_=>True) (by kernel_rfl) (by kernel_rfl) ?_ Br.drew ?_ ?_ _ _ rfl (by decide) (fun i=>by simp [Array.getD];try (split <;> rfl))
 ·intro i v u u' h hb
  match i,h with
  |15,h=>
   obtain ⟨g,hg,hlt,q0,q1,q2⟩:=h;refine ⟨g,hg,by have:=hb.size;omega,?_,?_,?_⟩
   ·rw [hb.cell (p:=⟨g,0,none⟩) hlt];exact q0
   ·rw [hb.cell (p:=⟨g,1,none⟩) hlt];exact q1
   rw [hb.cell (p:=⟨g,2,none⟩) hlt];exact q2
  |0,h=>exact h
  |1,h=>exact h
  |2,h=>exact h
  |3,h=>exact h
  |4,h=>exact h
  |5,h=>exact h
  |6,h=>exact h
  |7,h=>exact h
  |8,h=>exact h
  |9,h=>exact h
  |10,h=>exact h
  |11,h=>exact h
  |12,h=>exact h
  |13,h=>exact h
  |14,h=>exact h
  |16,h=>exact h
  |17,h=>exact h
  |(k+18),h=>trivial
 ·intro vs u hR hall
  have e17:vs 17=Vi (cm a b):=hall 17 (by simp);have BU:=ak B0 hR;simp only [bI];rw [e17];clear hall e17 cells HC HS B0;go_simp;go_wp2;go_ret;exact ⟨rfl,BU⟩
 intro u i o ρ hR ho hρ hc hf hd
 have hi:i<18:=by
  have:=(Array.getElem?_eq_some_iff.1 ho).1;simpa using this
 obtain rfl|rfl|rfl|rfl|rfl|rfl|rfl|rfl|rfl|rfl|rfl|rfl|rfl|rfl|rfl|rfl|rfl|rfl:i=0\/i=1\/i=2\/i=3\/i=4\/i=5\/i=6\/i=7\/i=8\/i=9\/i=10\/i=11\/i=12\/i=13\/i=14\/i=15\/i=16\/i=17:=by omega
 all_goals (simp only [List.getElem?_toArray,List.getElem?_cons_zero,List.getElem?_cons_succ,Option.some.injEq] at ho;subst ho)
 ·exact yr (ao rfl (hρ 2 (by kernel_rfl)) (by go_simp)) rfl hR
 ·obtain ⟨c0,c1,c2,d0,d1,d2⟩:=cells hR
  have h0:ρ (.tmp 5)=Vp w.heap.size 0:=dq hd 0 5;exact yr (ah rfl h0 (by go_simp)) rfl hR
 ·exact yr (ao rfl (hρ 3 (by kernel_rfl)) (by go_simp)) rfl hR
 ·obtain ⟨c0,c1,c2,d0,d1,d2⟩:=cells hR
  have h2:ρ (.tmp 7)=Vp (w.heap.size+1) 0:=dq hd 2 7;exact yr (ah rfl h2 (by go_simp)) rfl hR
 ·have h1:ρ (.tmp 6)=Vi a.u:=dq hd 1 6
  have h3:ρ (.tmp 8)=Vi b.u:=dq hd 3 8;refine .inl ⟨rfl,.inr ⟨_,_,bv rfl (hf _) (args:=#[Vi a.u,Vi b.u]) (by simp [h1,h3]) (by kernel_rfl),?_⟩⟩;refine (ia a.u b.u _).mono ?_;rintro e u' ⟨rfl,rfl⟩;exact ⟨_,rfl,rfl,hR,Br⟩
 ·exact yr (ao rfl (hρ 2 (by kernel_rfl)) (by go_simp)) rfl hR
 ·obtain ⟨c0,c1,c2,d0,d1,d2⟩:=cells hR
  have h5:ρ (.tmp 10)=Vp w.heap.size 1:=dq hd 5 10;exact yr (ah rfl h5 (by go_simp)) rfl hR
 ·exact yr (ao rfl (hρ 3 (by kernel_rfl)) (by go_simp)) rfl hR
 ·obtain ⟨c0,c1,c2,d0,d1,d2⟩:=cells hR
  have h7:ρ (.tmp 12)=Vp (w.heap.size+1) 1:=dq hd 7 12;exact yr (ah rfl h7 (by go_simp)) rfl hR
 ·have h6:ρ (.tmp 11)=Vi a.s:=dq hd 6 11
  have h8:ρ (.tmp 13)=Vi b.s:=dq hd 8 13;refine .inl ⟨rfl,.inr ⟨_,_,bv rfl (hf _) (args:=#[Vi a.s,Vi b.s]) (by simp [h6,h8]) (by kernel_rfl),?_⟩⟩;refine (ia a.s b.s _).mono ?_;rintro e u' ⟨rfl,rfl⟩;exact ⟨_,rfl,rfl,hR,Br⟩
 ·exact yr (ao rfl (hρ 2 (by kernel_rfl)) (by go_simp)) rfl hR
 ·obtain ⟨c0,c1,c2,d0,d1,d2⟩:=cells hR
  have h10:ρ (.tmp 15)=Vp w.heap.size 2:=dq hd 10 15;exact yr (ah rfl h10 (by go_simp)) rfl hR
 ·exact yr (ao rfl (hρ 3 (by kernel_rfl)) (by go_simp)) rfl hR
 ·obtain ⟨c0,c1,c2,d0,d1,d2⟩:=cells hR
  have h12:ρ (.tmp 17)=Vp (w.heap.size+1) 2:=dq hd 12 17;exact yr (ah rfl h12 (by go_simp)) rfl hR
 ·have h11:ρ (.tmp 16)=Vi a.lo:=dq hd 11 16
  have h13:ρ (.tmp 18)=Vi b.lo:=dq hd 13 18;refine .inl ⟨rfl,.inr ⟨_,_,bv rfl (hf _) (args:=#[Vi a.lo,Vi b.lo]) (by simp [h11,h13]) (by kernel_rfl),?_⟩⟩;refine (ia a.lo b.lo _).mono ?_;rintro e u' ⟨rfl,rfl⟩;exact ⟨_,rfl,rfl,hR,Br⟩
 ·have h4:ρ (.tmp 9)=Vi (di a.u b.u):=dq hd 4 9
  have h9:ρ (.tmp 14)=Vi (di a.s b.s):=dq hd 9 14;have h14:ρ (.tmp 19)=Vi (di a.lo b.lo):=dq hd 14 19;have hr:(Instr.buildSlice 76 3 #[(0,Vi (di a.u b.u)),(1,Vi (di a.s b.s)),(2,Vi (di a.lo b.lo))]).run prog u=.ok (.slice (some ⟨u.heap.size,0,none⟩) 3 3) (u.alloc (.cells #[Vi (di a.u b.u),Vi (di a.s b.s),Vi (di a.lo b.lo)] 3)):=by go_simp
  refine .inl ⟨rfl,.inl ⟨_,_,dN rfl (qs:=#[(0,Vi (di a.u b.u)),(1,Vi (di a.s b.s)),(2,Vi (di a.lo b.lo))]) (by simp [h4,h9,h14]) hr,⟨_,rfl,by simp,?_,?_,?_⟩,hR.alloc hR.size _,Br.alloc Nl _⟩⟩;all_goals simp [go_sem]
 ·obtain ⟨g,hg,_,q0,q1,q2⟩:=dq hd 15 20
  refine .inl ⟨rfl,.inr ⟨_,_,bv rfl (hf _) (args:=#[.slice (some ⟨g,0,none⟩) 3 3]) (by simp [hg]) (by kernel_rfl),?_⟩⟩;refine (vp g _ _ _ _ q0 q1 q2).mono ?_;rintro e u' ⟨rfl,rfl⟩;exact ⟨_,rfl,rfl,hR,Br⟩
 have h16:ρ (.tmp 21)=Vi (cm a b):=dq hd 16 21;exact yr rfl h16 hR
theorem gb(g n c a b:Nat)(f:Nat->Ru)(w0 w:World)(hb:Below w0.heap.size w0 w)(hg:w0.heap.size<= g)(hr:aA w g n f)(hbn:b<= n)(hn:n<= 1000000)(ha:a<= n):
 Calls prog 192 #[.slice (some ⟨g,0,none⟩) n c,Vi (a:Int),Vi (b:Int),.func (.func 109) #[] #[]] w fun e w'=>e=.returned (.tuple #[])/\∃ f',aA w' g n f'/\aK a b f f'/\aE f' a b/\Below w0.heap.size w0 w':=by
 have wa:IntKind.i64.wrap ((a:Int)+1)=((a+1:Nat):Int):=by rw [IntKind.wrap_i64];omega
 go_enter func192,ntmps192
 go_wp2;go_loopw [8] (fun i wr=>∃ (k:Nat) (h:Nat->Ru),a<k/\(k<= b\/k=a+1)/\i=Vi k/\aA wr g n h/\aK a b f h/\aE h a k/\Below w0.heap.size w0 wr) (fun i _=>b-(intOf i).toNat)
 case atStart=>exact ⟨a+1,f,by omega,.inr rfl,by first|rfl|simp,hr,aK.refl _ _ _,fun p q h1 h2 h3=>by omega,hb⟩
 case round=>
  obtain ⟨k,h0,hk,hkb,rfl,hrow0,hp0,hso,hbl0⟩:=hrel;by_cases hlt:k<b
  ·have hi:(k:Int)<(b:Int):=by omega
   have HS0:Hid (aA wr g n h0/\aK a b f h0/\aE h0 a k/\Below w0.heap.size w0 wr):=⟨hrow0,hp0,hso,hbl0⟩
   clear hrow0 hp0 hso hbl0 hr hb hkb;go_wp2;go_loopw [9] (fun i wr=>∃ (j:Nat) (h:Nat->Ru),a<= j/\j<= k/\i=Vi j/\aA wr g n h/\aK a b f h/\hU h a k j/\Below w0.heap.size w0 wr) (fun i _=>(intOf i).toNat)
   case atStart=>exact ⟨k,h0,by omega,Nl,rfl,HS0.out.1,HS0.out.2.1,hU.start HS0.out.2.2.1,HS0.out.2.2.2⟩
   case round=>
    clear HS0;obtain ⟨j,h,hja,hjk,rfl,hrow,hp,hI,hbl⟩:=hrel;have HROW:Hid (aA wr g n h/\Below w0.heap.size w0 wr):=⟨hrow,hbl⟩
    have HP:Hid (aK a b f h):=hp;have HI:Hid (hU h a k j):=hI;clear hrow hbl hp hI;by_cases hj:a<j
    ·have hj':(a:Int)<(j:Int):=by omega
     obtain ⟨m,hm⟩:∃ m,j=m+1:=⟨j-1,by omega⟩
     have wm:IntKind.i64.wrap ((j:Int)-1)=(m:Int):=by rw [IntKind.wrap_i64];omega
     have hjn:(j:Int)<(n:Int):=by omega
     have hmn:(m:Int)<(n:Int):=by omega
     have hIJ:¬ j=m:=by omega
     have hJI:¬ m=j:=by omega
     have HM:Hid (j=m+1):=hm;by_cases hx:cy (h j) (h m)
     ·have hc0:cm (h j) (h m)<0:=(eh _ _).2 hx
      have HL:Hid (cy (h j) (h (j-1))):=by rw [show j-1=m by omega];exact hx
      clear hx hm;go_wp2;refine wp_region_any (by kernel_rfl) ?_
      refine bw (fun u=>Below wr.heap.size wr u) (fun i v u=>match i with
       |0=>v=Vi (j:Int)
       |1=>v=Vi (a:Int)
       |2=>v=.bool true
       |3=>v=.bool true
       |4=>v=.func (.func 109) #[] #[]
       |5=>v=.slice (some ⟨g,0,none⟩) n c
       |6=>v=Vi (j:Int)
       |7=>v=Vp g (j*7)
       |8=>v=.agg (bg (h j))
       |9=>v=.slice (some ⟨g,0,none⟩) n c
       |10=>v=Vi (j:Int)
       |11=>v=Vi (m:Int)
       |12=>v=Vp g (m*7)
       |13=>v=.agg (bg (h m))
       |14=>v=Vi (cm (h j) (h m))
       |15=>v=.bool true
       |16=>v=.bool true
       |_=>True) (by kernel_rfl) (by kernel_rfl) (fun _ _ _ _ h _=>h) Br.drew ?_ ?_ _ _ rfl (by decide) (fun i=>by simp [Array.getD];try (split <;> rfl))
      ·intro vs u hR hall
       have e16:vs 16=.bool true:=hall 16 (by simp);simp only [bI];rw [e16];clear hall e16;have HROW2:Hid (aA u g n h/\Below w0.heap.size w0 u):=⟨HROW.out.1.below hR,ak HROW.out.2 hR⟩
       clear hR HROW;go_simp;go_wp2;refine wp_region_any (by kernel_rfl) ?_
       refine gm (fun l u=>aA u g n (fun k=>if l 15=true/\k=j then h m else if l 17=true/\k=m then h j else h k)/\Below w0.heap.size w0 u) (fun _ _=>True) (fun i v u=>match i with
        |0=>v=.slice (some ⟨g,0,none⟩) n c
        |1=>v=Vi (j:Int)
        |2=>v=.slice (some ⟨g,0,none⟩) n c
        |3=>v=Vi (j:Int)
        |4=>v=Vi (m:Int)
        |5=>v=.slice (some ⟨g,0,none⟩) n c
        |6=>v=Vi (j:Int)
        |7=>v=Vi (m:Int)
        |8=>v=Vp g (m*7)
        |9=>v=.agg (bg (h m))
        |10=>v=.slice (some ⟨g,0,none⟩) n c
        |11=>v=Vi (j:Int)
        |12=>v=Vp g (j*7)
        |13=>v=.agg (bg (h j))
        |14=>v=Vp g (j*7)
        |16=>v=Vp g (m*7)
        |_=>True) (by kernel_rfl) (by kernel_rfl) (fun _ _ _ _ h _=>h) (fun _=>trivial) ⟨aM.congr (aM.below HROW2.out.1 Br.drew) (fun k _=>by simp),HROW2.out.2.drew⟩ ?_ ?_ _ _ rfl (by decide) (fun i=>by simp [Array.getD];try (split <;> rfl))
       ·intro vs u hR _
        have R2:aA u g n (fun k=>h (cS j m k)):=hR.1.congr (fun k _=>congrArg cG (by by_cases e1:k=j <;> by_cases e2:k=m <;> simp [cS,e1,e2,hJI,hIJ]));have B2:=hR.2;have HX:Hid (aA u g n (fun k=>h (cS j m k))/\Below w0.heap.size w0 u):=⟨R2,B2⟩
        clear R2 B2 hR HROW2;simp only [bI];go_simp;go_wp2;go_roundw
        case rel=>exact ⟨m,_,(by have:=HM.out;omega),(by have:=HM.out;omega),by first|rfl|go_num,HX.out.1,HP.out.trans (aK.swap _ (by omega) (by omega) (by have:=HM.out;omega) (by have:=HM.out;omega)),(by have:=HI.out.step hj hjk HL.out;rw [show j-1=m by have:=HM.out;omega] at this;exact this),HX.out.2⟩
        case measure=>(have:=HM.out;simp [intOf];omega)
       intro u i o ρ l hR ho hli hcl hρ hc hf hd hv
       have hi:i<18:=by
        have:=(Array.getElem?_eq_some_iff.1 ho).1;simpa using this
       obtain rfl|rfl|rfl|rfl|rfl|rfl|rfl|rfl|rfl|rfl|rfl|rfl|rfl|rfl|rfl|rfl|rfl|rfl:i=0\/i=1\/i=2\/i=3\/i=4\/i=5\/i=6\/i=7\/i=8\/i=9\/i=10\/i=11\/i=12\/i=13\/i=14\/i=15\/i=16\/i=17:=by omega
       all_goals (simp only [List.getElem?_toArray,List.getElem?_cons_zero,List.getElem?_cons_succ,Option.some.injEq] at ho;subst ho)
       ·exact yr rfl (hρ 0 (by kernel_rfl)) (by simpa [aW] using hR) trivial
       ·exact yr rfl (hρ 9 (by kernel_rfl)) (by simpa [aW] using hR) trivial
       ·exact yr rfl (hρ 0 (by kernel_rfl)) (by simpa [aW] using hR) trivial
       ·exact yr rfl (hρ 9 (by kernel_rfl)) (by simpa [aW] using hR) trivial
       ·have h3:ρ (.tmp 40)=Vi (j:Int):=hv 3 40 rfl (hd ⟨3,.data⟩ (by simp) rfl)
        exact yr (aG rfl h3 (hc _) (by go_simp)) rfl (by simpa [aW] using hR) trivial
       ·exact yr rfl (hρ 0 (by kernel_rfl)) (by simpa [aW] using hR) trivial
       ·exact yr rfl (hρ 9 (by kernel_rfl)) (by simpa [aW] using hR) trivial
       ·have h6:ρ (.tmp 43)=Vi (j:Int):=hv 6 43 rfl (hd ⟨6,.data⟩ (by simp) rfl)
        exact yr (aG rfl h6 (hc _) (by go_simp)) rfl (by simpa [aW] using hR) trivial
       ·have h5:ρ (.tmp 42)=.slice (some ⟨g,0,none⟩) n c:=hv 5 42 rfl (hd ⟨5,.data⟩ (by simp) rfl)
        have h7:ρ (.tmp 44)=Vi (m:Int):=hv 7 44 rfl (hd ⟨7,.data⟩ (by simp) rfl);exact yr (au rfl h5 h7 (by go_simp)) rfl (by simpa [aW] using hR) trivial
       ·have n1:l 15=false:=(by cases hx:l 15;(rfl);(have h1:=hcl 15 _ rfl hx ⟨9,.data⟩ (by simp) rfl;rw [hli] at h1;cases h1))
        have n2:l 17=false:=(by cases hx:l 17;(rfl);(have h1:=hcl 17 _ rfl hx ⟨9,.phase⟩ (by simp) rfl;rw [hli] at h1;cases h1))
        have R0:aA u g n h:=hR.1.congr (fun k _=>by simp [n1,n2]);obtain ⟨d0,d1,d2,d3,d4,d5,d6⟩:=aA.seven R0 (show m<n from by omega);clear R0;have h8:ρ (.tmp 45)=Vp g (m*7):=hv 8 45 rfl (hd ⟨8,.data⟩ (by simp) rfl);exact yr (ah rfl h8 (by go_simp)) rfl (by simpa [aW] using hR) trivial
       ·exact yr rfl (hρ 0 (by kernel_rfl)) (by simpa [aW] using hR) trivial
       ·exact yr rfl (hρ 9 (by kernel_rfl)) (by simpa [aW] using hR) trivial
       ·have h10:ρ (.tmp 47)=.slice (some ⟨g,0,none⟩) n c:=hv 10 47 rfl (hd ⟨10,.data⟩ (by simp) rfl)
        have h11:ρ (.tmp 48)=Vi (j:Int):=hv 11 48 rfl (hd ⟨11,.data⟩ (by simp) rfl);exact yr (au rfl h10 h11 (by go_simp)) rfl (by simpa [aW] using hR) trivial
       ·have n1:l 15=false:=(by cases hx:l 15;(rfl);(have h1:=hcl 15 _ rfl hx ⟨13,.phase⟩ (by simp) rfl;rw [hli] at h1;cases h1))
        have n2:l 17=false:=(by cases hx:l 17;(rfl);(have h1:=hcl 17 _ rfl hx ⟨13,.data⟩ (by simp) rfl;rw [hli] at h1;cases h1))
        have R0:aA u g n h:=hR.1.congr (fun k _=>by simp [n1,n2]);obtain ⟨d0,d1,d2,d3,d4,d5,d6⟩:=aA.seven R0 (show j<n from by omega);clear R0;have h12:ρ (.tmp 49)=Vp g (j*7):=hv 12 49 rfl (hd ⟨12,.data⟩ (by simp) rfl);exact yr (ah rfl h12 (by go_simp)) rfl (by simpa [aW] using hR) trivial
       ·have h0:ρ (.tmp 37)=.slice (some ⟨g,0,none⟩) n c:=hv 0 37 rfl (hd ⟨0,.data⟩ (by simp) rfl)
        have h1:ρ (.tmp 38)=Vi (j:Int):=hv 1 38 rfl (hd ⟨1,.data⟩ (by simp) rfl);exact yr (au rfl h0 h1 (by go_simp)) rfl (by simpa [aW] using hR) trivial
       ·obtain ⟨d0,d1,d2,d3,d4,d5,d6⟩:=aA.seven hR.1 (show j<n from by omega)
        have f0:=aM.fro hR.1 (j*7);have f1:=aM.fro hR.1 (j*7+1);have f2:=aM.fro hR.1 (j*7+2);have f3:=aM.fro hR.1 (j*7+3);have f4:=aM.fro hR.1 (j*7+4);have f5:=aM.fro hR.1 (j*7+5);have f6:=aM.fro hR.1 (j*7+6);have h14:ρ (.tmp 51)=Vp g (j*7):=hv 14 51 rfl (hd ⟨14,.data⟩ (by simp) rfl);have h9:ρ (.tmp 46)=.agg (bg (h m)):=hv 9 46 rfl (hd ⟨9,.data⟩ (by simp) rfl);have hr:(Instr.storeAt 61 (Vp g (j*7)) (.agg (bg (h m)))).run prog u=.ok () ((((((((u).setCell ⟨g,j*7,none⟩ (Vi (h m).u)).setCell ⟨g,j*7+1,none⟩ (Vi (h m).s)).setCell ⟨g,j*7+2,none⟩ (Vi (h m).lo)).setCell ⟨g,j*7+3,none⟩ (Vi (h m).hi)).setCell ⟨g,j*7+4,none⟩ (Vi (h m).p)).setCell ⟨g,j*7+5,none⟩ (Vi (h m).t)).setCell ⟨g,j*7+6,none⟩ (Vi (h m).sh)):=by go_simp
        have hR2:=aM.set hR.1 (show j<n from by omega) (cG (h m)) rfl;have hB2:=aD (g:=g) hg (cG (h m)) u (j*7) hR.2;exact .inl ⟨rfl,.inr (.inr ⟨rfl,_,bY rfl h14 h9 hr,⟨hR2.congr (fun k _=>by by_cases e:k=j <;> simp [aW,e,hIJ,hJI]),hB2⟩,trivial⟩)⟩
       ·have h2:ρ (.tmp 39)=.slice (some ⟨g,0,none⟩) n c:=hv 2 39 rfl (hd ⟨2,.data⟩ (by simp) rfl)
        have h4:ρ (.tmp 41)=Vi (m:Int):=hv 4 41 rfl (hd ⟨4,.data⟩ (by simp) rfl);exact yr (au rfl h2 h4 (by go_simp)) rfl (by simpa [aW] using hR) trivial
       obtain ⟨d0,d1,d2,d3,d4,d5,d6⟩:=aA.seven hR.1 (show m<n from by omega);have f0:=aM.fro hR.1 (m*7);have f1:=aM.fro hR.1 (m*7+1);have f2:=aM.fro hR.1 (m*7+2);have f3:=aM.fro hR.1 (m*7+3);have f4:=aM.fro hR.1 (m*7+4);have f5:=aM.fro hR.1 (m*7+5);have f6:=aM.fro hR.1 (m*7+6);have h16:ρ (.tmp 52)=Vp g (m*7):=hv 16 52 rfl (hd ⟨16,.data⟩ (by simp) rfl);have h13:ρ (.tmp 50)=.agg (bg (h j)):=hv 13 50 rfl (hd ⟨13,.data⟩ (by simp) rfl);have hr:(Instr.storeAt 61 (Vp g (m*7)) (.agg (bg (h j)))).run prog u=.ok () ((((((((u).setCell ⟨g,m*7,none⟩ (Vi (h j).u)).setCell ⟨g,m*7+1,none⟩ (Vi (h j).s)).setCell ⟨g,m*7+2,none⟩ (Vi (h j).lo)).setCell ⟨g,m*7+3,none⟩ (Vi (h j).hi)).setCell ⟨g,m*7+4,none⟩ (Vi (h j).p)).setCell ⟨g,m*7+5,none⟩ (Vi (h j).t)).setCell ⟨g,m*7+6,none⟩ (Vi (h j).sh)):=by go_simp
       have hR2:=aM.set hR.1 (show m<n from by omega) (cG (h j)) rfl;have hB2:=aD (g:=g) hg (cG (h j)) u (m*7) hR.2;exact .inl ⟨rfl,.inr (.inr ⟨rfl,_,bY rfl h16 h13 hr,⟨hR2.congr (fun k _=>by by_cases e:k=m <;> simp [aW,e,hIJ,hJI]),hB2⟩,trivial⟩)⟩
      intro u i o ρ hR ho hρ hc hf hd
      have hi:i<17:=by
       have:=(Array.getElem?_eq_some_iff.1 ho).1;simpa using this
      obtain rfl|rfl|rfl|rfl|rfl|rfl|rfl|rfl|rfl|rfl|rfl|rfl|rfl|rfl|rfl|rfl|rfl:i=0\/i=1\/i=2\/i=3\/i=4\/i=5\/i=6\/i=7\/i=8\/i=9\/i=10\/i=11\/i=12\/i=13\/i=14\/i=15\/i=16:=by omega
      all_goals (simp only [List.getElem?_toArray,List.getElem?_cons_zero,List.getElem?_cons_succ,Option.some.injEq] at ho;subst ho)
      ·exact yr rfl (hρ 9 (by kernel_rfl)) hR
      ·exact yr rfl (hρ 1 (by kernel_rfl)) hR
      ·have h0:ρ (.tmp 18)=Vi (j:Int):=dq hd 0 18
       have h1:ρ (.tmp 19)=Vi (a:Int):=dq hd 1 19;exact yr (aG rfl h0 h1 (by go_simp)) rfl hR
      ·have h2:ρ (.tmp 20)=.bool true:=dq hd 2 20
       exact yr rfl h2 hR
      ·exact yq hd 3 21 rfl (hρ 3 (by kernel_rfl)) hR
      ·exact yq hd 3 21 rfl (hρ 0 (by kernel_rfl)) hR
      ·exact yq hd 3 21 rfl (hρ 9 (by kernel_rfl)) hR
      ·have h5:ρ (.tmp 23)=.slice (some ⟨g,0,none⟩) n c:=dq hd 5 23
       have h6:ρ (.tmp 24)=Vi (j:Int):=dq hd 6 24;exact yq hd 3 21 (au rfl h5 h6 (by go_simp)) rfl hR
      ·have R0:aA u g n h:=HROW.out.1.below hR
       obtain ⟨d0,d1,d2,d3,d4,d5,d6⟩:=aA.seven R0 (show j<n from by omega);clear R0;have h7:ρ (.tmp 25)=Vp g (j*7):=dq hd 7 25;exact yq hd 3 21 (ah rfl h7 (by go_simp)) rfl hR
      ·exact yq hd 3 21 rfl (hρ 0 (by kernel_rfl)) hR
      ·exact yq hd 3 21 rfl (hρ 9 (by kernel_rfl)) hR
      ·have h10:ρ (.tmp 28)=Vi (j:Int):=dq hd 10 28
       exact yq hd 3 21 (aG rfl h10 (hc _) (by go_simp)) rfl hR
      ·have h9:ρ (.tmp 27)=.slice (some ⟨g,0,none⟩) n c:=dq hd 9 27
       have h11:ρ (.tmp 29)=Vi (m:Int):=dq hd 11 29;exact yq hd 3 21 (au rfl h9 h11 (by go_simp)) rfl hR
      ·have R0:aA u g n h:=HROW.out.1.below hR
       obtain ⟨d0,d1,d2,d3,d4,d5,d6⟩:=aA.seven R0 (show m<n from by omega);clear R0;have h12:ρ (.tmp 30)=Vp g (m*7):=dq hd 12 30;exact yq hd 3 21 (ah rfl h12 (by go_simp)) rfl hR
      ·have g3:ρ (.tmp 21)=.bool true:=gq hd 3 21
       have h8:ρ (.tmp 26)=.agg (bg (h j)):=dq hd 8 26;have h13:ρ (.tmp 31)=.agg (bg (h m)):=dq hd 13 31;have h4:ρ (.tmp 22)=.func (.func 109) #[] #[]:=dq hd 4 22;refine .inl ⟨(by show (match ρ (.tmp 21) with| .bool b=>b == true|_=>false)=true;rw [g3];rfl),.inr ⟨_,_,cz rfl h4 (args:=#[.agg (bg (h j)),.agg (bg (h m))]) (by simp [h8,h13]) (by kernel_rfl),?_⟩⟩;refine (cA (h j) (h m) _).mono ?_;rintro e u' ⟨rfl,b'⟩;exact ⟨_,rfl,rfl,ak hR b',b'⟩
      ·have h14:ρ (.tmp 32)=Vi (cm (h j) (h m)):=dq hd 14 32
       exact yq hd 3 21 (aG rfl h14 (hc _) (by go_simp)) rfl hR
      have h3:ρ (.tmp 21)=.bool true:=dq hd 3 21;have h15:ρ (.tmp 33)=.bool true:=dq hd 15 33;exact yr (aC rfl h3) (by simpa using h15) hR
     have hc0:¬ cm (h j) (h m)<0:=fun e=>hx ((eh _ _).1 e)
     have HL:Hid (¬ cy (h j) (h (j-1))):=by rw [show j-1=m by omega];exact hx
     clear hx hm;go_wp2;refine wp_region_any (by kernel_rfl) ?_
     refine bw (fun u=>Below wr.heap.size wr u) (fun i v u=>match i with
      |0=>v=Vi (j:Int)
      |1=>v=Vi (a:Int)
      |2=>v=.bool true
      |3=>v=.bool true
      |4=>v=.func (.func 109) #[] #[]
      |5=>v=.slice (some ⟨g,0,none⟩) n c
      |6=>v=Vi (j:Int)
      |7=>v=Vp g (j*7)
      |8=>v=.agg (bg (h j))
      |9=>v=.slice (some ⟨g,0,none⟩) n c
      |10=>v=Vi (j:Int)
      |11=>v=Vi (m:Int)
      |12=>v=Vp g (m*7)
      |13=>v=.agg (bg (h m))
      |14=>v=Vi (cm (h j) (h m))
      |15=>v=.bool false
      |16=>v=.bool false
      |_=>True) (by kernel_rfl) (by kernel_rfl) (fun _ _ _ _ h _=>h) Br.drew ?_ ?_ _ _ rfl (by decide) (fun i=>by simp [Array.getD];try (split <;> rfl))
     ·intro vs u hR hall
      have e16:vs 16=.bool false:=hall 16 (by simp);simp only [bI];rw [e16];clear hall e16;have RX:aA u g n h:=HROW.out.1.below hR;have BX:=ak HROW.out.2 hR;have HX:Hid (aA u g n h/\aK a b f h/\aE h a (k+1)/\Below w0.heap.size w0 u):=⟨RX,HP.out,HI.out.fin hjk (.inr HL.out),BX⟩
      clear RX BX hR HROW HP HI;go_simp;go_wp2;go_roundw
      case rel=>exact ⟨k+1,h,by omega,by omega,by go_num,HX.out.1,HX.out.2.1,HX.out.2.2.1,HX.out.2.2.2⟩
      case measure=>simp [intOf];omega
     intro u i o ρ hR ho hρ hc hf hd
     have hi:i<17:=by
      have:=(Array.getElem?_eq_some_iff.1 ho).1;simpa using this
     obtain rfl|rfl|rfl|rfl|rfl|rfl|rfl|rfl|rfl|rfl|rfl|rfl|rfl|rfl|rfl|rfl|rfl:i=0\/i=1\/i=2\/i=3\/i=4\/i=5\/i=6\/i=7\/i=8\/i=9\/i=10\/i=11\/i=12\/i=13\/i=14\/i=15\/i=16:=by omega
     all_goals (simp only [List.getElem?_toArray,List.getElem?_cons_zero,List.getElem?_cons_succ,Option.some.injEq] at ho;subst ho)
     ·exact yr rfl (hρ 9 (by kernel_rfl)) hR
     ·exact yr rfl (hρ 1 (by kernel_rfl)) hR
     ·have h0:ρ (.tmp 18)=Vi (j:Int):=dq hd 0 18
      have h1:ρ (.tmp 19)=Vi (a:Int):=dq hd 1 19;exact yr (aG rfl h0 h1 (by go_simp)) rfl hR
     ·have h2:ρ (.tmp 20)=.bool true:=dq hd 2 20
      exact yr rfl h2 hR
     ·exact yq hd 3 21 rfl (hρ 3 (by kernel_rfl)) hR
     ·exact yq hd 3 21 rfl (hρ 0 (by kernel_rfl)) hR
     ·exact yq hd 3 21 rfl (hρ 9 (by kernel_rfl)) hR
     ·have h5:ρ (.tmp 23)=.slice (some ⟨g,0,none⟩) n c:=dq hd 5 23
      have h6:ρ (.tmp 24)=Vi (j:Int):=dq hd 6 24;exact yq hd 3 21 (au rfl h5 h6 (by go_simp)) rfl hR
     ·have R0:aA u g n h:=HROW.out.1.below hR
      obtain ⟨d0,d1,d2,d3,d4,d5,d6⟩:=aA.seven R0 (show j<n from by omega);clear R0;have h7:ρ (.tmp 25)=Vp g (j*7):=dq hd 7 25;exact yq hd 3 21 (ah rfl h7 (by go_simp)) rfl hR
     ·exact yq hd 3 21 rfl (hρ 0 (by kernel_rfl)) hR
     ·exact yq hd 3 21 rfl (hρ 9 (by kernel_rfl)) hR
     ·have h10:ρ (.tmp 28)=Vi (j:Int):=dq hd 10 28
      exact yq hd 3 21 (aG rfl h10 (hc _) (by go_simp)) rfl hR
     ·have h9:ρ (.tmp 27)=.slice (some ⟨g,0,none⟩) n c:=dq hd 9 27
      have h11:ρ (.tmp 29)=Vi (m:Int):=dq hd 11 29;exact yq hd 3 21 (au rfl h9 h11 (by go_simp)) rfl hR
     ·have R0:aA u g n h:=HROW.out.1.below hR
      obtain ⟨d0,d1,d2,d3,d4,d5,d6⟩:=aA.seven R0 (show m<n from by omega);clear R0;have h12:ρ (.tmp 30)=Vp g (m*7):=dq hd 12 30;exact yq hd 3 21 (ah rfl h12 (by go_simp)) rfl hR
     ·have g3:ρ (.tmp 21)=.bool true:=gq hd 3 21
      have h8:ρ (.tmp 26)=.agg (bg (h j)):=dq hd 8 26;have h13:ρ (.tmp 31)=.agg (bg (h m)):=dq hd 13 31;have h4:ρ (.tmp 22)=.func (.func 109) #[] #[]:=dq hd 4 22;refine .inl ⟨(by show (match ρ (.tmp 21) with| .bool b=>b == true|_=>false)=true;rw [g3];rfl),.inr ⟨_,_,cz rfl h4 (args:=#[.agg (bg (h j)),.agg (bg (h m))]) (by simp [h8,h13]) (by kernel_rfl),?_⟩⟩;refine (cA (h j) (h m) _).mono ?_;rintro e u' ⟨rfl,b'⟩;exact ⟨_,rfl,rfl,ak hR b',b'⟩
     ·have h14:ρ (.tmp 32)=Vi (cm (h j) (h m)):=dq hd 14 32
      exact yq hd 3 21 (aG rfl h14 (hc _) (by go_simp)) rfl hR
     have h3:ρ (.tmp 21)=.bool true:=dq hd 3 21;have h15:ρ (.tmp 33)=.bool false:=dq hd 15 33;exact yr (aC rfl h3) (by simpa using h15) hR
    have hj':¬ (a:Int)<(j:Int):=by omega
    go_wp2;refine wp_region_any (by kernel_rfl) ?_
    refine bw (fun u=>Below wr.heap.size wr u) (fun i v u=>match i with
     |0=>v=Vi (j:Int)
     |1=>v=Vi (a:Int)
     |2=>v=.bool false
     |3=>v=.bool false
     |4=>v=undef
     |5=>v=undef
     |6=>v=undef
     |7=>v=undef
     |8=>v=undef
     |9=>v=undef
     |10=>v=undef
     |11=>v=undef
     |12=>v=undef
     |13=>v=undef
     |14=>v=undef
     |15=>v=undef
     |16=>v=.bool false
     |_=>True) (by kernel_rfl) (by kernel_rfl) (fun _ _ _ _ h _=>h) Br.drew ?_ ?_ _ _ rfl (by decide) (fun i=>by simp [Array.getD];try (split <;> rfl))
    ·intro vs u hR hall
     have e16:vs 16=.bool false:=hall 16 (by simp);simp only [bI];rw [e16];clear hall e16;have RX:aA u g n h:=HROW.out.1.below hR;have BX:=ak HROW.out.2 hR;have HX:Hid (aA u g n h/\aK a b f h/\aE h a (k+1)/\Below w0.heap.size w0 u):=⟨RX,HP.out,HI.out.fin hjk (.inl (by omega)),BX⟩
     clear RX BX hR HROW HP HI;go_simp;go_wp2;go_roundw
     case rel=>exact ⟨k+1,h,by omega,by omega,by go_num,HX.out.1,HX.out.2.1,HX.out.2.2.1,HX.out.2.2.2⟩
     case measure=>simp [intOf];omega
    intro u i o ρ hR ho hρ hc hf hd
    have hi:i<17:=by
     have:=(Array.getElem?_eq_some_iff.1 ho).1;simpa using this
    obtain rfl|rfl|rfl|rfl|rfl|rfl|rfl|rfl|rfl|rfl|rfl|rfl|rfl|rfl|rfl|rfl|rfl:i=0\/i=1\/i=2\/i=3\/i=4\/i=5\/i=6\/i=7\/i=8\/i=9\/i=10\/i=11\/i=12\/i=13\/i=14\/i=15\/i=16:=by omega
    all_goals (simp only [List.getElem?_toArray,List.getElem?_cons_zero,List.getElem?_cons_succ,Option.some.injEq] at ho;subst ho)
    ·exact yr rfl (hρ 9 (by kernel_rfl)) hR
    ·exact yr rfl (hρ 1 (by kernel_rfl)) hR
    ·have h0:ρ (.tmp 18)=Vi (j:Int):=dq hd 0 18
     have h1:ρ (.tmp 19)=Vi (a:Int):=dq hd 1 19;exact yr (aG rfl h0 h1 (by go_simp)) rfl hR
    ·have h2:ρ (.tmp 20)=.bool false:=dq hd 2 20
     exact yr rfl h2 hR
    ·exact aj (.bool false) hd 3 21
    ·exact aj (.bool false) hd 3 21
    ·exact aj (.bool false) hd 3 21
    ·exact aj (.bool false) hd 3 21
    ·exact aj (.bool false) hd 3 21
    ·exact aj (.bool false) hd 3 21
    ·exact aj (.bool false) hd 3 21
    ·exact aj (.bool false) hd 3 21
    ·exact aj (.bool false) hd 3 21
    ·exact aj (.bool false) hd 3 21
    ·exact aj (.bool false) hd 3 21
    ·exact aj (.bool false) hd 3 21
    have h3:ρ (.tmp 21)=.bool false:=dq hd 3 21;exact yr (aC rfl h3) (by simpa using hc _) hR
  have hi:¬ (k:Int)<(b:Int):=by omega
  have HS0:Hid (aA wr g n h0/\aK a b f h0/\aE h0 a b/\Below w0.heap.size w0 wr):=⟨hrow0,hp0,fun p q h1 h2 h3=>hso p q h1 h2 (by omega),hbl0⟩
  clear hrow0 hp0 hso hbl0 hr hb;go_wp2;refine bodyPost_end (v:=.tuple #[]) (by simp [results,results192,go_sem]) rfl ⟨rfl,h0,HS0.out⟩
end Go.Proofs.YtohikbpolofklaaGreat
