/- Texts that the proof needs, joined: Ln1 Ln5 RgY RgZ RgL FbN1 Cz2 Cz3 Cz4. -/
import Derived.Test.YtohikbpolofklaaGreatY1
import Derived.Test.YtohikbpolofklaaGreatY25
import Derived.Test.YtohikbpolofklaaGreatY17
import Derived.Deep.MidRow
import Derived.Test.YtohikbpolofklaaGreatY23
import Derived.Test.YtohikbpolofklaaGreatY21
import Derived.Test.YtohikbpolofklaaGreatY4
import Derived.Test.YtohikbpolofklaaGreatY15
set_option linter.unusedVariables false
set_option linter.unusedSimpArgs false
set_option maxHeartbeats 4000000
set_option maxRecDepth 20000
namespace Go.Proofs.YtohikbpolofklaaGreat
open Go.RowKit Go.Joins Go.Proofs.Tryz
abbrev sP:Array Value:=#[Vi 0,Vi 0,Vi 0,Vi 0,Vi 0,Vi 0,Vi 0,Zs,Zs,Vi 0,Zs,Zs,Zs]
structure La where
 bz:Bool
 c:Ca
 nu:Int
 du:Int
 le:Int
 nx:Int
 wt:Int
 tr:Int
abbrev wK(L:La)(a:OA)(n cp:Nat)(a1 a2:OA)(l1 l2 c1 c2:Nat):List Value:=[.slice a n cp,.bool L.bz,Vi L.c.id,Vi L.c.pa,Vi L.c.un,Vi L.c.kd,Vi L.c.pl,Vi L.c.n,.slice a1 l1 c1,.slice a2 l2 c2,Vi L.c.wa,Vi L.nu,Vi L.du,Vi L.le,Vi L.nx,Vi L.wt,Vi L.tr]
abbrev qS(L:La)(a:OA)(n cp:Nat)(a1 a2:OA)(l1 l2 c1 c2:Nat):Array Value:=#[.slice a n cp,.bool L.bz,Vi L.c.id,Vi L.c.pa,Vi L.c.un,Vi L.c.kd,Vi L.c.pl,Vi L.c.n,.slice a1 l1 c1,.slice a2 l2 c2,Vi L.c.wa,Vi L.nu,Vi L.du,Vi L.le,Vi L.nx,Vi L.wt,Vi L.tr]
abbrev lzc:Array Value:=#[Zs,.bool false,Vi 0,Vi 0,Vi 0,Vi 0,Vi 0,Vi 0,Zs,Zs,Vi 0,Vi 0,Vi 0,Vi 0,Vi 0,Vi 0,Vi 0]
theorem ae.svn{w:World}{g:Nat}{t:TypeId}{v0 v1 v2 v3 v4 v5 v6 v7 v8 v9 v10 v11 v12 v13 v14 v15 v16:Value}(h:ae w g t #[v0,v1,v2,v3,v4,v5,v6,v7,v8,v9,v10,v11,v12,v13,v14,v15,v16]):(w.cell? ⟨g,0,none⟩=some v0/\w.cell? ⟨g,1,none⟩=some v1/\w.cell? ⟨g,2,none⟩=some v2/\w.cell? ⟨g,3,none⟩=some v3/\w.cell? ⟨g,4,none⟩=some v4/\w.cell? ⟨g,5,none⟩=some v5/\w.cell? ⟨g,6,none⟩=some v6/\w.cell? ⟨g,7,none⟩=some v7/\w.cell? ⟨g,8,none⟩=some v8/\w.cell? ⟨g,9,none⟩=some v9/\w.cell? ⟨g,10,none⟩=some v10/\w.cell? ⟨g,11,none⟩=some v11/\w.cell? ⟨g,12,none⟩=some v12/\w.cell? ⟨g,13,none⟩=some v13/\w.cell? ⟨g,14,none⟩=some v14/\w.cell? ⟨g,15,none⟩=some v15/\w.cell? ⟨g,16,none⟩=some v16)/\∀ j,w.frozen? ⟨g,j,none⟩=false:=
 ⟨⟨h.cell 0 rfl,h.cell 1 rfl,h.cell 2 rfl,h.cell 3 rfl,h.cell 4 rfl,h.cell 5 rfl,h.cell 6 rfl,h.cell 7 rfl,h.cell 8 rfl,h.cell 9 rfl,h.cell 10 rfl,h.cell 11 rfl,h.cell 12 rfl,h.cell 13 rfl,h.cell 14 rfl,h.cell 15 rfl,h.cell 16 rfl⟩,h.fro⟩
def kG(w:World)(n:Nat)(f:Nat->Ca)(L:La)(a a1 a2:OA)(l1 l2:Nat):Prop:=l1=L.c.ws.length/\l2=L.c.bs.length/\mK w a n f/\aZ w a1 L.c.ws/\be w a2 L.c.bs
def LnP(w:World)(base n:Nat)(f:Nat->Ca)(L:La)(a:OA)(cp:Nat)(a1 a2:OA)(l1 l2 c1 c2:Nat):Prop:=
 l1=L.c.ws.length/\l2=L.c.bs.length/\∃ (F:Nat->List Value) (β:Nat->Nat),rQ w base 88 9 (.slice a n cp) n F/\tC w base β F (fun k=>vl (f k)) n/\bi w base (.slice a1 l1 c1) L.c.ws/\bD w base (.slice a2 l2 c2) L.c.bs/\
  (∀ k,(Value.slice a1 l1 c1).ownBlock=some k->∀ j,j<n->¬ Ob (F j) k)/\(∀ k,(Value.slice a2 l2 c2).ownBlock=some k->∀ j,j<n->¬ Ob (F j) k)
section
variable {w w':World} {base n cp l1 l2 c1 c2:Nat} {f:Nat->Ca} {L:La} {a a1 a2:OA}
theorem kG.below(h:kG w n f L a a1 a2 l1 l2)(hb:Below w.heap.size w w'):kG w' n f L a a1 a2 l1 l2:=⟨h.1,h.2.1,h.2.2.1.below hb,h.2.2.2.1.below hb,h.2.2.2.2.below hb⟩
end
def lfL(n:Nat)(f:Nat->Ca)(l1 l2:Nat):Int:=if n+tl f n+l1+l2<= 1048576 then (((1048576-(n+tl f n+l1+l2):Nat)):Int) else -1
def wL(wt tr:Int):La:=⟨false,yn,0,0,0,0,wt,tr⟩
def nwL(wt tr:Int):La:=if (aB wt 1 100 && aB tr 0 5)=true then wL wt tr else wL 0 0
end Go.Proofs.YtohikbpolofklaaGreat
namespace Go.Proofs.YtohikbpolofklaaGreat
open Go.RowKit Go.Proofs.Tryz
def gf(σ:Nat->Value)(od:Option Nat)(v:Value):Nat->Value:=match od with
 |some d=>fun s=>if s=d then v else σ s
 |none=>σ
def xR(P:Program)(ops:Array Oper)(Φ:Nat->Value->World->Prop)(R:Value->World->Prop)(M:World->World->Prop)(i:Nat)(o:Oper)(ρ:Operand->Value)(u:World):Prop:=
 (cP ops o ρ=true/\((∃ v u',(execOp ρ o).run P u=.ok (.value v) u'/\Φ i v u'/\R v u'/\M u u')\/(∃ f args,(execOp ρ o).run P u=.ok (.enter f args) u/\Calls P f args u fun e u'=>∃ v,e=.returned v/\Φ i v u'/\R v u'/\M u u')\/(o.dst=none/\∃ u',(execOp ρ o).run P u=.ok .skip u'/\R undef u'/\M u u')))
 \/(cP ops o ρ=false/\Φ i undef u/\R undef u)
structure InvY(md:Region.Mode)(ops:Array Oper)(Φ:Nat->Value->World->Prop)(R:(Nat->Bool)->(Nat->Value)->World->Prop)(a0:Act)(l:Array Bool)(a:Act)(u:World):Prop where
 r:R (fun i=>l.getD i false) (fun s=>a.tmps.getD s undef) u
 ls:l.size=ops.size
 df:a.defers=a0.defers
 sz:a.tmps.size=a0.tmps.size
 old:∀ s,(∀ i d,aS ops i=some d->l.getD i false=true->d≠s)->a.tmps.getD s undef=a0.tmps.getD s undef
 val:∀ i d,aS ops i=some d->l.getD i false=true->Φ i (a.tmps.getD d undef) u
 cl:∀ i o,ops[i]? = some o->l.getD i false=true->∀ e ∈ o.after,Region.binds md e=true->l.getD e.on false=true
theorem InvY.next{md:Region.Mode}{ops:Array Oper}{Φ:Nat->Value->World->Prop}{R:(Nat->Bool)->(Nat->Value)->World->Prop}{M:World->World->Prop}{a0:Act}{l:Array Bool}{a:Act}{u u':World}(h:InvY md ops Φ R a0 l a u)(hB:jO ops a0.tmps.size=true)
 (hmono:∀ i v u u',Φ i v u->M u u'->Φ i v u'){i:Nat}{o:Oper}(ho:ops[i]? = some o)(hdep:∀ e ∈ o.after,Region.binds md e=true->l.getD e.on false=true){v:Value}(hv:∀ d,o.dst=some d->Φ i v u')(hr:R (aW (fun j=>l.getD j false) i) (gf (fun s=>a.tmps.getD s undef) o.dst v) u')(hb:M u u'):
 InvY md ops Φ R a0 (l.setIfInBounds i true) (a.put o.dst v) u':=by
 have hi:i<ops.size:=(Array.getElem?_eq_some_iff.1 ho).1;have hil:i<l.size:=by rw [h.ls];exact hi
 have hcl:∀ j oj,ops[j]? = some oj->(l.setIfInBounds i true).getD j false=true->∀ e ∈ oj.after,Region.binds md e=true->(l.setIfInBounds i true).getD e.on false=true:=by
  intro j oj hoj hlj e he hbd;rw [ck hil];split
  ·rfl
  rw [ck hil] at hlj;by_cases e1:j=i
  ·subst e1
   rw [ho] at hoj;cases hoj;exact hdep e he hbd
  rw [if_neg e1] at hlj;exact h.cl j oj hoj hlj e he hbd
 rw [<- mP hil] at hr;cases hod:o.dst with
 |none=>
  have hd:aS ops i=none:=by simp [aS,ho,hod]
  rw [hod] at hr;refine ⟨hr,by simpa using h.ls,h.df,h.sz,fun s hs=>?_,fun j e hj hl=>?_,hcl⟩
  ·exact h.old s (fun j e hj hl=>hs j e hj (by rw [ck hil];split;rfl;exact hl))
  have e2:j≠i:=fun e2=>by subst e2;rw [hd] at hj;cases hj
  rw [ck hil,if_neg e2] at hl;exact hmono _ _ _ _ (h.val j e hj hl) hb
 |some d=>
  have hd:aS ops i=some d:=by simp [aS,ho,hod]
  obtain ⟨hlt,hun⟩:=fO hB hi hd;have hlt':d<a.tmps.size:=by rw [h.sz];exact hlt
  rw [hod] at hr
  have hr':R (fun j=>(l.setIfInBounds i true).getD j false) (fun s=>(a.put (some d) v).tmps.getD s undef) u':=by
   have e9:(fun s=>(a.put (some d) v).tmps.getD s undef)=gf (fun s=>a.tmps.getD s undef) (some d) v:=by funext s;exact dW hlt'
   rw [e9];exact hr
  refine ⟨hr',by simpa using h.ls,h.df,by simpa [Act.put] using h.sz,fun s hs=>?_,fun j e hj hl=>?_,hcl⟩
  ·have hne:d≠s:=hs i d hd (by rw [ck hil,if_pos rfl])
   rw [dW hlt',if_neg (Ne.symm hne)];exact h.old s (fun j e hj hl=>hs j e hj (by rw [ck hil];split;rfl;exact hl))
  rw [dW hlt'];by_cases e1:e=d
  ·subst e1
   obtain rfl:=hun j (dI hj) hj;rw [if_pos rfl];exact hv _ hod
  rw [if_neg e1];have e2:j≠i:=fun e2=>by subst e2;rw [hd] at hj;exact e1 (Option.some.inj hj).symm
  rw [ck hil,if_neg e2] at hl;exact hmono _ _ _ _ (h.val j e hj hl) hb
theorem qa{P:Program}{ops:Array Oper}{Q:Exit->Act->World->Prop}{md:Region.Mode}{a0:Act}{w0:World}(R:(Nat->Bool)->(Nat->Value)->World->Prop)(M:World->World->Prop)(Φ:Nat->Value->World->Prop)
 (hordB:jN md ops=true)(hB:jO ops a0.tmps.size=true)(hmono:∀ i v u u',Φ i v u->M u u'->Φ i v u')(hM:∀ u,M u u)(h0:R (fun _=>false) (fun s=>a0.tmps.getD s undef) w0)
 (hend:∀ (vs:Nat->Value) (σ:Nat->Value) u,R (fun i=>decide (i<ops.size)) σ u->(∀ i d,aS ops i=some d->vs i=σ d)->(∀ i d,aS ops i=some d->Φ i (vs i) u)->Q .normal (bI a0 0 ops.toList vs) u)
 (hstep:∀ u i o (ρ:Operand->Value) (l:Nat->Bool),R l (fun s=>ρ (.tmp s)) u->ops[i]? = some o->l i=false->(∀ j oj,ops[j]? = some oj->l j=true->∀ e ∈ oj.after,Region.binds md e=true->l e.on=true) ->
  (∀ s,fU ops s=false->ρ (.tmp s)=a0.eval (.tmp s))->(∀ v,ρ (.const v)=v)->(∀ f,ρ (.func f)=.func (.func f) #[] #[]) ->
  (∀ e ∈ o.after,Region.binds md e=true->l e.on=true)->(∀ j d,aS ops j=some d->l j=true->Φ j (ρ (.tmp d)) u)->xR P ops Φ (fun v u'=>R (aW l i) (gf (fun s=>ρ (.tmp s)) o.dst v) u') M i o ρ u)
 (fuel:Nat) (l:Array Bool) (hs:l.size=ops.size) (hc:l.toList.count false<= fuel) (hl:∀ i,l.getD i false=false):wpAny P md ops Q fuel l a0 w0:=by
 refine jd (InvY md ops Φ R a0) hordB ?_ ?_ fuel l a0 w0 hs hc ?_
 ·intro l a u h hall
  have hall':∀ i,i<ops.size->l.getD i false=true:=fun i hi=>by rw [gw (by rw [h.ls];exact hi) false true];exact hall i hi
  have e:bI a0 0 ops.toList (fun i=>a.tmps.getD ((aS ops i).getD 0) undef)=a:=by
   refine gI ops.toList 0 a0 _ h.df.symm h.sz.symm (fun j o d ho hd=>?_) (fun s=>?_) (fun j o d ho hd=>?_)
   ·rw [Nat.zero_add]
    have:aS ops j=some d:=by rw [Array.getElem?_toList] at ho;simp [aS,ho,hd]
    show a.tmps.getD ((aS ops j).getD 0) undef=_;rw [this];rfl
   ·by_cases hx:∃ j d,aS ops j=some d/\l.getD j false=true/\d=s
    ·obtain ⟨j,d,hd,_,rfl⟩:=hx
     right
     unfold aS at hd;cases ho:ops[j]? with
     |none=>rw [ho] at hd;cases hd
     |some o=>rw [ho] at hd;exact ⟨j,o,by rw [Array.getElem?_toList];exact ho,hd⟩
    left
    exact (h.old s (fun i d hd hl e=>hx ⟨i,d,hd,hl,e⟩)).symm
   rw [Array.getElem?_toList] at ho;have hi:j<ops.size:=(Array.getElem?_eq_some_iff.1 ho).1;have hd':aS ops j=some d:=by simp [aS,ho,hd]
   rw [h.sz];exact (fO hB hi hd').1
  rw [<- e];refine hend _ (fun s=>a.tmps.getD s undef) u ?_ (fun i d hd=>by show a.tmps.getD ((aS ops i).getD 0) undef=_;rw [hd];rfl) (fun i d hd=>?_)
  ·have e2:(fun i=>l.getD i false)=(fun i=>decide (i<ops.size)):=by
    funext i
    by_cases hi:i<ops.size
    ·rw [hall' i hi];simp [hi]
    have:¬ i<l.size:=by rw [h.ls];exact hi
    simp [Array.getD,hi,this]
   rw [<- e2];exact h.r
  show Φ i (a.tmps.getD ((aS ops i).getD 0) undef) u;rw [hd];exact h.val i d hd (hall' i (dI hd))
 ·intro l a u i o h ho hli hdep K hK
  have hi:i<ops.size:=(Array.getElem?_eq_some_iff.1 ho).1
  have hw:Region.wanted o (yielded ops a.tmps)=cP ops o a.eval:=je (fun j d hj=>by
   rw [h.sz];exact (fO hB (dI hj) hj).1)
  have hst:=hstep u i o a.eval (fun j=>l.getD j false) h.r ho (by show l.getD i false=false;rw [gw (by rw [h.ls];exact hi) false true];exact hli) (fun j oj hoj hlj e he hb=>h.cl j oj hoj hlj e he hb) (fun s hns=>by
   refine h.old s (fun j d hj _ e=>?_);subst e
   have:fU ops d=true:=by
    unfold fU;rw [List.any_eq_true];exact ⟨j,List.mem_range.2 (dI hj),by simp [hj]⟩
   rw [this] at hns;cases hns) (fun _=>rfl) (fun _=>rfl) hdep (fun j d hd hlj=>h.val j d hd hlj)
  rcases hst with ⟨hwt,⟨v,u',hrun,hv,hr,hbl⟩|⟨f,args,hrun,hcall⟩|⟨hno,u',hrun,hr,hbl⟩⟩|⟨hwf,hv,hr⟩
  ·rw [if_pos (by rw [hw];exact hwt)]
   unfold Oper.wp;rw [hrun];exact hK _ _ (h.next hB hmono ho hdep (fun _ _=>hv) hr hbl)
  ·rw [if_pos (by rw [hw];exact hwt)]
   unfold Oper.wp;rw [hrun,Oper.upon_enter];refine hcall.mono ?_;rintro e u' ⟨v,rfl,hv,hr,hbl⟩;exact hK _ _ (h.next hB hmono ho hdep (fun _ _=>hv) hr hbl)
  ·rw [if_pos (by rw [hw];exact hwt)]
   unfold Oper.wp;rw [hrun,Oper.upon_skip];exact hK _ _ (h.next hB hmono ho hdep (fun d hd=>by rw [hno] at hd;cases hd) hr hbl)
  rw [if_neg (by rw [hw,hwf];decide)];exact hK _ _ (h.next hB hmono ho hdep (fun _ _=>hv) hr (hM u))
 refine ⟨?_,hs,rfl,rfl,fun _ _=>rfl,fun i d _ hl'=>(by rw [hl i] at hl';cases hl'),fun i o _ hl'=>(by rw [hl i] at hl';cases hl')⟩
 rw [show (fun i=>l.getD i false)=(fun _=>false) from funext hl];exact h0
end Go.Proofs.YtohikbpolofklaaGreat
namespace Go.Proofs.YtohikbpolofklaaGreat
open Go.RowKit Go.Joins Go.Proofs.Tryz
theorem cE{P:Program}{ρ:Operand->Value}{o:Oper}{u:World}{x:Operand}{p:Addr}(ho:o.op=.nilCheck x)(ha:ρ x=.pointer (some p)):(execOp ρ o).run P u=.ok (.value (.pointer (some p))) u:=by
 unfold execOp;simp only [ho,ha];rfl
theorem nd{P:Program}{ρ:Operand->Value}{o:Oper}{u:World}{x:Operand}{t:TypeId}{a:OA}{n c:Nat}{el:TypeId}(hu:P.underlying t=some (.slice el))(ho:o.op=.call { callee:=.builtin .len,args:=#[x],argTypes:=#[t] })(hx:ρ x=.slice a n c):(execOp ρ o).run P u=.ok (.value (Vi (n:Int))) u:=by
 unfold execOp;rw [ho];simp [hx,Builtin.len_,run_underlying (P:=P) hu,go_sem]
theorem jX{P:Program}{ρ:Operand->Value}{o:Oper}{u u':World}{t:TypeId}{ps:Array (Nat × Operand)}{qs:Array (Nat × Value)}{v:Value}(ho:o.op=.build t ps)(ha:ps.map (fun (i,x)=>(i,ρ x))=qs)(hr:(Instr.build t qs).run P u=.ok v u'):(execOp ρ o).run P u=.ok (.value v) u':=by
 unfold execOp;simp only [ho,ha];rw [Sem.run_bind,hr];rfl
theorem ay{w u:World}{g o:Nat}{cs:List Value}(h:w.rangeAt g o cs)(hg:g<w.heap.size)(hb:Below w.heap.size w u):u.rangeAt g o cs:=fun j v hv=>(hb.cell (p:=⟨g,o+j,none⟩) hg).trans (h j v hv)
theorem er{w:World}{g o:Nat}{cs:List Value}(pre l post:List Value)(h:w.rangeAt g o cs)(he:cs=pre++(l++post)):w.rangeAt g (o+pre.length) l:=fun j v hv=>by
 rw [Nat.add_assoc];refine h (pre.length+j) v ?_;rw [he,List.getElem?_append_right (by omega),Nat.add_sub_cancel_left,List.getElem?_append_left (List.getElem?_eq_some_iff.1 hv).1];exact hv
theorem ae.rng{w:World}{g:Nat}{t:TypeId}{l:List Value}(h:ae w g t l.toArray):w.rangeAt g 0 l:=fun j v hv=>by
 rw [Nat.zero_add];exact h.cell j (by simpa using hv)
end Go.Proofs.YtohikbpolofklaaGreat
namespace Go.Proofs.YtohikbpolofklaaGreat
open Go.RowKit Go.Proofs.Tryz
def xS(P:Program)(ops:Array Oper)(Φ:Nat->Value->World->Prop)(i:Nat)(o:Oper)(ρ:Operand->Value)(u:World):Prop:=
 (cP ops o ρ=true/\((∃ v u',(execOp ρ o).run P u=.ok (.value v) u'/\Φ i v u'/\Below u.heap.size u u')\/(∃ f args,(execOp ρ o).run P u=.ok (.enter f args) u/\Calls P f args u fun e u'=>∃ v,e=.returned v/\Φ i v u'/\Below u.heap.size u u')))
 \/(cP ops o ρ=false/\Φ i undef u)
def lastB(md:Region.Mode)(ops:Array Oper)(N:Nat):Bool:=
 match ops[N]? with
 |some o=>o.dst.isNone && (List.range N).all (fun i=>(aS ops i).isSome && o.after.toList.any (fun e=>e.on == i && Region.binds md e))
 |none=>false
end Go.Proofs.YtohikbpolofklaaGreat
namespace Go.Proofs.YtohikbpolofklaaGreat
open Go.RowKit Go.Joins Go.Proofs.Tryz
abbrev fbL(wt tr:Int)(a:OA)(n c:Nat)(h:OA)(m d:Nat):List Value:=[Vi 0,Vi wt,Vi tr,.slice a n c,Vi 0,Zs,.slice h m d,Vi 0,Vi 0,Vi 0,Vi 0]
abbrev xC(wt tr:Int)(a:OA)(n c:Nat)(h:OA)(m d:Nat):Array Value:=#[Vi 0,Vi wt,Vi tr,.slice a n c,Vi 0,Zs,.slice h m d,Vi 0,Vi 0,Vi 0,Vi 0]
abbrev fz:Array Value:=xC 0 0 none 0 0 none 0 0
abbrev yw(wt tr:Int):List Value:=wK (wL wt tr) none 0 0 none none 0 0 0 0
theorem lq(wt tr:Int)(a:OA)(n cap:Nat)(f:Nat->Ru)(w:World)(hs:dU w a n f)(hl:n<= 2000000):
 Calls prog 54 #[.agg (fC wt tr a n cap)] w fun e w'=>∃ g,e=.returned (.agg (fC wt tr (some ⟨g,0,none⟩) n n))/\aA w' g n f/\w.heap.size<= g/\Below w.heap.size w w':=by
 obtain ⟨W,hW⟩:∃ W,W=(w.alloc (.cells (fC wt tr a n cap) 35)).alloc (.cells (fC 0 0 none 0 0) 35):=⟨_,rfl⟩
 have hz:W.heap.size=w.heap.size+1+1:=by rw [hW];simp
 have bW:Below w.heap.size w W:=by rw [hW];exact ak (aa w _) (aa _ _)
 have A0:ae W w.heap.size 35 (fC wt tr a n cap):=by rw [hW];exact (ae.new w _ _).below (aa _ _)
 have R0:ae W (w.heap.size+1) 35 (fC 0 0 none 0 0):=by
  rw [hW];have:=ae.new (w.alloc (.cells (fC wt tr a n cap) 35)) (fC 0 0 none 0 0) 35;simpa using this
 have HS:Hid (dU W a n f):=fd.below hs bW;have H0:Hid (ae W w.heap.size 35 (fC wt tr a n cap)/\ae W (w.heap.size+1) 35 (fC 0 0 none 0 0)/\Below w.heap.size w W/\W.heap.size=w.heap.size+1+1):=⟨A0,R0,bW,hz⟩
 obtain ⟨⟨y0,y1,y2⟩,_⟩:=A0.thr;clear hs bW A0 R0 hz;go_enter func54,ntmps54
 go_upto_region 1 with fail
 rw [<- hW];clear hW;go_wp2_with fail
 refine (li a n cap f _ HS.out hl).mono ?_;rintro e w1 ⟨rfl,R1,b1⟩;obtain ⟨g,hg⟩:∃ g,g=W.heap.size:=⟨_,rfl⟩
 rw [<- hg] at R1 ⊢;clear y0 y1 y2;obtain ⟨⟨x0,x1,x2⟩,⟨f0,f1,f2⟩⟩:=(H0.out.1.below b1).thr;obtain ⟨⟨z0,z1,z2⟩,⟨e0,e1,e2⟩⟩:=(H0.out.2.1.below b1).thr;have H1:Hid (aA w1 g n f/\Below w.heap.size w w1/\w.heap.size+1+1=g):=⟨R1,ak H0.out.2.2.1 b1,by rw [hg];exact H0.out.2.2.2.symm⟩
 clear R1 b1 hg H0 HS;go_wp2;refine bodyPost_ret (v:=.agg (fC wt tr (some ⟨g,0,none⟩) n n)) (by simp [results,results54,go_sem,z0,z1,z2]) rfl ⟨g,rfl,?_,?_,?_⟩
 ·have:=H1.out.2.2
  exact (((H1.out.1.setc (by omega)).setc (by omega)).setc (by omega)).setc (by omega)
 ·have:=H1.out.2.2;omega
 exact (((H1.out.2.1.setCell (p:=⟨w.heap.size,2,none⟩) (by show w.heap.size<= w.heap.size;omega) _).setCell (p:=⟨w.heap.size+1,0,none⟩) (by show w.heap.size<= w.heap.size+1;omega) _).setCell (p:=⟨w.heap.size+1,1,none⟩) (by show w.heap.size<= w.heap.size+1;omega) _).setCell (p:=⟨w.heap.size+1,2,none⟩) (by show w.heap.size<= w.heap.size+1;omega) _
def FbQ(w w':World)(e:Ending)(ok:Bool)(wt tr:Int)(n:Nat)(f:Nat->Ru):Prop:=
 Below w.heap.size w w'/\((ok=false/\e=.returned (.agg fz))\/(ok=true/\∃ g h,e=.returned (.agg (xC wt tr (some ⟨g,0,none⟩) n n (some ⟨h,0,none⟩) 6 6))/\aA w' g n f/\aM w' h 90 17 6 (fun _=>yw wt tr)/\w.heap.size<= g/\w.heap.size<= h))
theorem nf(n:Nat)(f:Nat->VP)(a:OA)(n' cap:Nat)(w:World)(hs:Rd w 0 (.list 8 n (fun k=>ac (pT (f k)))) (.slice a n' cap))(hz:(Tr.list 8 n (fun k=>ac (pT (f k)))).sz<= 1048576):
 Calls prog 138 #[.slice a n' cap,.func (.func 139) #[] #[]] w fun e w'=>∃ b d,e=.returned (.slice b n' d)/\dk w' w.heap.size (.list 8 n (fun k=>ac (pT (f k)))) (.slice b n' d)/\Below w.heap.size w w':=by
 obtain ⟨a9,c9,h9,-,hn⟩:=hs.shape;simp only [Value.slice.injEq] at h9;obtain ⟨-,rfl,-⟩:=h9;clear a9 c9;have hn1:n'<= 1048576:=by rw [Tr.sz_list] at hz;omega
 have HZ:Hid (∀ k,k<n'->ax 8 (ac (pT (f k)))<= 1048576):=by
  show ∀ k,k<n'->ax 8 (ac (pT (f k)))<= 1048576;intro k hk;rw [Tr.sz_list] at hz;have:=ci (fun k=>ax 8 (ac (pT (f k)))) hk;omega
 have hmk:=ct (P:=prog) 119 128 (.agg #[Vi 0,Vi 0,Vi 0,Vi 0,Vi 0,Zs,Zs,Vi 0]) 8 96 underlying119 (by kernel_rfl) .i64 .i64 n' (by omega) (by omega);have HS:Hid (Rd w 0 (.list 8 n' (fun k=>ac (pT (f k)))) (.slice a n' cap)/\n'<= maxLen):=⟨hs,hn⟩
 clear hs hz hn;go_enter func138,ntmps138
 go_wp2;clear hmk;go_loopw [13] (fun i wr=>∃ (k:Nat),k<= n'/\i=Vi k/\bU wr w.heap.size 128 8 n' (fun i=>pT (f i)) k/\Below w.heap.size w wr) (fun i _=>n'-(intOf i).toNat)
 case atStart=>exact ⟨0,Nat.zero_le _,rfl,bU.start (aM.made w (#[Vi 0,Vi 0,Vi 0,Vi 0,Vi 0,Zs,Zs,Vi 0]).toList n' _ (by simp)),Br.alloc Nl _⟩
 case round=>
  obtain ⟨k,hk,rfl,hrow,hb⟩:=hrel;by_cases hlt:k<n'
  ·have hi:(k:Int)<(n':Int):=by omega
   obtain ⟨b,off,vs,rfl,_,hb0,hlen,hr,hrd⟩:=(HS.out.1.below hb).at hlt;obtain ⟨a1,c1,a2,c2,rfl,r1,r2⟩:=VP.cells hrd hlen;clear hlen hrd;have d09:wr.cell? ⟨b,off+k*8,none⟩=_:=hr 0 _ rfl;have d19:=hr 1 _ rfl;have d29:=hr 2 _ rfl;have d39:=hr 3 _ rfl;have d49:=hr 4 _ rfl;have d59:=hr 5 _ rfl;have d69:=hr 6 _ rfl;have d79:=hr 7 _ rfl;have HK:Hid (bU wr w.heap.size 128 8 n' (fun i=>pT (f i)) k/\True/\Below w.heap.size w wr/\Rd wr 0 (aw (f k).q.ws) (.slice a1 ((f k).q.ws.length) c1)/\Rd wr 0 (ai (f k).q.bs) (.slice a2 ((f k).q.bs.length) c2)):=⟨hrow,trivial,hb,r1,r2⟩
   clear hrow hb hr hb0 r1 r2;go_wp2_with fail
   refine (pU (f k) a1 ((f k).q.ws.length) c1 a2 ((f k).q.bs.length) c2 _ (HK.out.2.2.2.1.below (aa _ _)) (HK.out.2.2.2.2.below (aa _ _)) (HZ.out k hlt)).mono ?_;rintro e w1 ⟨b1,d1,b2,d2,rfl,q1,hb1⟩;have hb1:=af (aa wr _) hb1;have q1:=q1.mono (lo':=wr.heap.size) (by simp) Nl;obtain ⟨F1,R1⟩:=(HK.out.1.cg (Cg.ofBelow (S:=fun _=>False) hb1) (fun b h=>h.elim)).row;obtain ⟨rx0,ry0⟩:∃ v,w1.cell? ⟨w.heap.size,k*8,none⟩=some v:=R1.ex hlt (j:=0) (by decide);obtain ⟨rx1,ry1⟩:=R1.ex hlt (j:=1) (by decide);obtain ⟨rx2,ry2⟩:=R1.ex hlt (j:=2) (by decide);obtain ⟨rx3,ry3⟩:=R1.ex hlt (j:=3) (by decide);obtain ⟨rx4,ry4⟩:=R1.ex hlt (j:=4) (by decide);obtain ⟨rx5,ry5⟩:=R1.ex hlt (j:=5) (by decide);obtain ⟨rx6,ry6⟩:=R1.ex hlt (j:=6) (by decide);obtain ⟨rx7,ry7⟩:=R1.ex hlt (j:=7) (by decide);obtain ⟨W2,hW2⟩:∃ W2,W2=aF w1 w.heap.size (k*8) (pL (f k) b1 ((f k).q.ws.length) d1 b2 ((f k).q.bs.length) d2):=⟨_,rfl⟩
   have H2:Hid (bU W2 w.heap.size 128 8 n' (fun i=>pT (f i)) (k+1)/\Below w.heap.size w W2):=⟨by rw [hW2];exact HK.out.1.step (S:=fun _=>False) hlt (Cg.ofBelow hb1) (fun b h=>h.elim) q1 rfl,by rw [hW2];exact aD Nl _ _ _ (af HK.out.2.2.1 hb1)⟩
   have hW2':W2=((((((((w1.setCell ⟨w.heap.size,k*8,none⟩ (Vi (f k).p)).setCell ⟨w.heap.size,k*8+1,none⟩ (Vi (f k).t)).setCell ⟨w.heap.size,k*8+2,none⟩ (Vi (f k).q.kd)).setCell ⟨w.heap.size,k*8+3,none⟩ (Vi (f k).q.pl)).setCell ⟨w.heap.size,k*8+4,none⟩ (Vi (f k).q.n)).setCell ⟨w.heap.size,k*8+5,none⟩ (.slice b1 ((f k).q.ws.length) d1)).setCell ⟨w.heap.size,k*8+6,none⟩ (.slice b2 ((f k).q.bs.length) d2)).setCell ⟨w.heap.size,k*8+7,none⟩ (Vi (f k).q.wa)):=by rw [hW2];simp only [aF,Nat.reduceAdd,Nat.zero_add,Nat.add_zero,Nat.add_assoc]
   have HE:Hid (∀ j,w1.frozen? ⟨w.heap.size,j,none⟩=false):=R1.fro;have qf0:=HE.out (k*8);have qf1:=HE.out (k*8+1);have qf2:=HE.out (k*8+2);have qf3:=HE.out (k*8+3);have qf4:=HE.out (k*8+4);have qf5:=HE.out (k*8+5);have qf6:=HE.out (k*8+6);have qf7:=HE.out (k*8+7);clear R1 hb1 HK d09 d19 d29 d39 d49 d59 d69 d79 hW2 HE q1;go_wp2;rw [<- hW2'];clear hW2';go_roundw
   case rel=>
    exact ⟨k+1,by omega,by go_num,H2.out.1,H2.out.2⟩
   case measure=>simp [intOf];omega
  have hi:¬ (k:Int)<(n':Int):=by omega
  have e9:k=n':=by omega
  subst e9;have HR:Hid (bU wr w.heap.size 128 8 k (fun i=>pT (f i)) k/\Below w.heap.size w wr):=⟨hrow,hb⟩
  clear hrow hb;go_wp2;go_ret;exact ⟨_,_,rfl,HR.out.1.done Nl HS.out.2 (fun _ _=>rfl),HR.out.2⟩
theorem ng(n:Nat)(f:Nat->VA)(a:OA)(n' cap:Nat)(w:World)(hs:Rd w 0 (.list 6 n (fun k=>ac (aT (f k)))) (.slice a n' cap))(hz:(Tr.list 6 n (fun k=>ac (aT (f k)))).sz<= 1048576):
 Calls prog 140 #[.slice a n' cap,.func (.func 141) #[] #[]] w fun e w'=>∃ b d,e=.returned (.slice b n' d)/\dk w' w.heap.size (.list 6 n (fun k=>ac (aT (f k)))) (.slice b n' d)/\Below w.heap.size w w':=by
 obtain ⟨a9,c9,h9,-,hn⟩:=hs.shape;simp only [Value.slice.injEq] at h9;obtain ⟨-,rfl,-⟩:=h9;clear a9 c9;have hn1:n'<= 1048576:=by rw [Tr.sz_list] at hz;omega
 have HZ:Hid (∀ k,k<n'->ax 6 (ac (aT (f k)))<= 1048576):=by
  show ∀ k,k<n'->ax 6 (ac (aT (f k)))<= 1048576;intro k hk;rw [Tr.sz_list] at hz;have:=ci (fun k=>ax 6 (ac (aT (f k)))) hk;omega
 have hmk:=ct (P:=prog) 120 162 (.agg #[Vi 0,Vi 0,Vi 0,Vi 0,Zs,Zs]) 6 80 underlying120 (by kernel_rfl) .i64 .i64 n' (by omega) (by omega);have HS:Hid (Rd w 0 (.list 6 n' (fun k=>ac (aT (f k)))) (.slice a n' cap)/\n'<= maxLen):=⟨hs,hn⟩
 clear hs hz hn;go_enter func140,ntmps140
 go_wp2;clear hmk;go_loopw [13] (fun i wr=>∃ (k:Nat),k<= n'/\i=Vi k/\bU wr w.heap.size 162 6 n' (fun i=>aT (f i)) k/\Below w.heap.size w wr) (fun i _=>n'-(intOf i).toNat)
 case atStart=>exact ⟨0,Nat.zero_le _,rfl,bU.start (aM.made w (#[Vi 0,Vi 0,Vi 0,Vi 0,Zs,Zs]).toList n' _ (by simp)),Br.alloc Nl _⟩
 case round=>
  obtain ⟨k,hk,rfl,hrow,hb⟩:=hrel;by_cases hlt:k<n'
  ·have hi:(k:Int)<(n':Int):=by omega
   obtain ⟨b,off,vs,rfl,_,hb0,hlen,hr,hrd⟩:=(HS.out.1.below hb).at hlt;obtain ⟨a1,c1,a2,c2,rfl,r1,r2⟩:=VA.cells hrd hlen;clear hlen hrd;have d09:wr.cell? ⟨b,off+k*6,none⟩=_:=hr 0 _ rfl;have d19:=hr 1 _ rfl;have d29:=hr 2 _ rfl;have d39:=hr 3 _ rfl;have d49:=hr 4 _ rfl;have d59:=hr 5 _ rfl;have HK:Hid (bU wr w.heap.size 162 6 n' (fun i=>aT (f i)) k/\True/\Below w.heap.size w wr/\Rd wr 0 (aw (f k).ws) (.slice a1 ((f k).ws.length) c1)/\Rd wr 0 (ai (f k).bs) (.slice a2 ((f k).bs.length) c2)):=⟨hrow,trivial,hb,r1,r2⟩
   clear hrow hb hr hb0 r1 r2;go_wp2_with fail
   refine (pS (f k) a1 ((f k).ws.length) c1 a2 ((f k).bs.length) c2 _ (HK.out.2.2.2.1.below (aa _ _)) (HK.out.2.2.2.2.below (aa _ _)) (HZ.out k hlt)).mono ?_;rintro e w1 ⟨b1,d1,b2,d2,rfl,q1,hb1⟩;have hb1:=af (aa wr _) hb1;have q1:=q1.mono (lo':=wr.heap.size) (by simp) Nl;obtain ⟨F1,R1⟩:=(HK.out.1.cg (Cg.ofBelow (S:=fun _=>False) hb1) (fun b h=>h.elim)).row;obtain ⟨rx0,ry0⟩:∃ v,w1.cell? ⟨w.heap.size,k*6,none⟩=some v:=R1.ex hlt (j:=0) (by decide);obtain ⟨rx1,ry1⟩:=R1.ex hlt (j:=1) (by decide);obtain ⟨rx2,ry2⟩:=R1.ex hlt (j:=2) (by decide);obtain ⟨rx3,ry3⟩:=R1.ex hlt (j:=3) (by decide);obtain ⟨rx4,ry4⟩:=R1.ex hlt (j:=4) (by decide);obtain ⟨rx5,ry5⟩:=R1.ex hlt (j:=5) (by decide);obtain ⟨W2,hW2⟩:∃ W2,W2=aF w1 w.heap.size (k*6) (aL (f k) b1 ((f k).ws.length) d1 b2 ((f k).bs.length) d2):=⟨_,rfl⟩
   have H2:Hid (bU W2 w.heap.size 162 6 n' (fun i=>aT (f i)) (k+1)/\Below w.heap.size w W2):=⟨by rw [hW2];exact HK.out.1.step (S:=fun _=>False) hlt (Cg.ofBelow hb1) (fun b h=>h.elim) q1 rfl,by rw [hW2];exact aD Nl _ _ _ (af HK.out.2.2.1 hb1)⟩
   have hW2':W2=((((((w1.setCell ⟨w.heap.size,k*6,none⟩ (Vi (f k).kd)).setCell ⟨w.heap.size,k*6+1,none⟩ (Vi (f k).fl)).setCell ⟨w.heap.size,k*6+2,none⟩ (Vi (f k).pl)).setCell ⟨w.heap.size,k*6+3,none⟩ (Vi (f k).n)).setCell ⟨w.heap.size,k*6+4,none⟩ (.slice b1 ((f k).ws.length) d1)).setCell ⟨w.heap.size,k*6+5,none⟩ (.slice b2 ((f k).bs.length) d2)):=by rw [hW2];simp only [aF,Nat.reduceAdd,Nat.zero_add,Nat.add_zero,Nat.add_assoc]
   have HE:Hid (∀ j,w1.frozen? ⟨w.heap.size,j,none⟩=false):=R1.fro;have qf0:=HE.out (k*6);have qf1:=HE.out (k*6+1);have qf2:=HE.out (k*6+2);have qf3:=HE.out (k*6+3);have qf4:=HE.out (k*6+4);have qf5:=HE.out (k*6+5);clear R1 hb1 HK d09 d19 d29 d39 d49 d59 hW2 HE q1;go_wp2;rw [<- hW2'];clear hW2';go_roundw
   case rel=>
    exact ⟨k+1,by omega,by go_num,H2.out.1,H2.out.2⟩
   case measure=>simp [intOf];omega
  have hi:¬ (k:Int)<(n':Int):=by omega
  have e9:k=n':=by omega
  subst e9;have HR:Hid (bU wr w.heap.size 162 6 k (fun i=>aT (f i)) k/\Below w.heap.size w wr):=⟨hrow,hb⟩
  clear hrow hb;go_wp2;go_ret;exact ⟨_,_,rfl,HR.out.1.done Nl HS.out.2 (fun _ _=>rfl),HR.out.2⟩
theorem az.appD{w:World}{lo hi lo1 hi1 lo2 hi2:Nat}{ts us:List Tr}{vs xs:List Value}(h1:az w lo1 hi1 ts vs)(h2:az w lo2 hi2 us xs)(hd:hi1<= lo2\/hi2<= lo1)(e1:lo<= lo1)(e2:lo<= lo2)(e3:hi1<= hi)(e4:hi2<= hi):az w lo hi (ts++us) (vs++xs):=by
 obtain ⟨K,a1,a2,a3,a4⟩:=h1;obtain ⟨L,b1,b2,b3,b4⟩:=h2;refine ⟨fun i=>if i<ts.length then K i else L (i-ts.length),by simp [a1,b1],fun i v hv=>?_,fun i hi'=>?_,fun i i' hi' hj' hne b hb=>?_⟩
 ·by_cases e:i<ts.length
  ·have e':i<vs.length:=by omega
   rw [List.getElem?_append_left e'] at hv;simp only [if_pos e]
   have:ac (ts++us) i=ac ts i:=by
    unfold ac;simp [List.getD_eq_getElem?_getD,List.getElem?_append_left e]
   rw [this];exact a2 i v hv
  have e':vs.length<= i:=by omega
  rw [List.getElem?_append_right e',a1] at hv;simp only [if_neg e]
  have:ac (ts++us) i=ac us (i-ts.length):=by
   unfold ac;simp [List.getD_eq_getElem?_getD,List.getElem?_append_right (Nat.le_of_not_lt e)]
  rw [this];exact b2 _ v hv
 ·rw [List.length_append] at hi'
  by_cases e:i<ts.length
  ·simp only [if_pos e]
   exact ⟨(a3 i e).1,fun b hb=>by have:=(a3 i e).2 b hb;omega⟩
  simp only [if_neg e];have e':i-ts.length<us.length:=by omega
  exact ⟨(b3 _ e').1,fun b hb=>by have:=(b3 _ e').2 b hb;omega⟩
 rw [List.length_append] at hi' hj';by_cases e:i<ts.length
 ·simp only [if_pos e] at hb
  by_cases e2:i'<ts.length
  ·simp only [if_pos e2]
   exact a4 i i' e e2 hne b hb
  simp only [if_neg e2];intro hb';have r1:=(a3 i e).2 b hb;have r2:=(b3 _ (show i'-ts.length<us.length by omega)).2 b hb';omega
 simp only [if_neg e] at hb;by_cases e2:i'<ts.length
 ·simp only [if_pos e2]
  intro hb';have r1:=(a3 i' e2).2 b hb';have r2:=(b3 _ (show i-ts.length<us.length by omega)).2 b hb;omega
 simp only [if_neg e2];exact b4 _ _ (by omega) (by omega) (by omega) b hb
theorem oC(ws:List Bool)(a:OA)(l c:Nat)(w:World)(r:Rd w 0 (ai ws) (.slice a l c))(hz:ws.length<= 1048576):
 Calls prog 137 #[.slice a l c] w fun e w'=>∃ b d,e=.returned (.slice b l d)/\dk w' w.heap.size (ai ws) (.slice b l d)/\Below w.heap.size w w':=by
 obtain ⟨a9,c9,h9,-,hm,hs⟩:=r.bools;simp only [Value.slice.injEq] at h9;obtain ⟨rfl,rfl,rfl⟩:=h9;refine (kZ a _ c ws w rfl hs (by omega)).mono ?_;rintro e w' ⟨g,rfl,h1,h2⟩;obtain ⟨K,k1,k2,k3⟩:=bD.fit h1;exact ⟨_,_,rfl,⟨K,k1,k2,fun b hb=>(k3 b hb).1⟩,h2⟩
abbrev gi:Array Value:=sP
abbrev eZ(X:VD):Tr:=.list 8 X.np (fun i=>ac (pT (X.pt i)))
abbrev fP(X:VD):Tr:=.list 6 X.nt (fun i=>ac (aT (X.tl i)))
def tG(w:World)(B:Nat)(X:VD)(l1 l2 l3 l4 l5:Nat)(a3 a5:OA)(c3 c5:Nat)(u:World):Prop:=
 ∃ b1 d1 b2 d2 b4 d4 m,ae u B 122 (dL X b1 l1 d1 b2 l2 d2 a3 l3 c3 b4 l4 d4 a5 l5 c5).toArray/\ae u (B+1) 122 gi/\Below w.heap.size w u/\B+2<= m/\m<= u.heap.size/\az u (B+2) m (qT X.q) (qL X.q b1 l1 d1 b2 l2 d2)/\az u m u.heap.size [ai X.hs] [.slice b4 l4 d4]
def tH(w:World)(B:Nat)(X:VD)(l1 l2 l3 l4 l5:Nat)(u:World):Prop:=
 ∃ b1 d1 b2 d2 b3 d3 b4 d4 b5 d5 m1 m2 m3,ae u B 122 (dL X b1 l1 d1 b2 l2 d2 b3 l3 d3 b4 l4 d4 b5 l5 d5).toArray/\ae u (B+1) 122 gi/\Below w.heap.size w u/\B+2<= m1/\m1<= m2/\m2<= m3/\m3<= u.heap.size/\az u (B+2) m1 (qT X.q) (qL X.q b1 l1 d1 b2 l2 d2)/\az u m1 m2 [ai X.hs] [.slice b4 l4 d4]/\az u m2 m3 [eZ X] [.slice b3 l3 d3]/\az u m3 u.heap.size [fP X] [.slice b5 l5 d5]
theorem xD{w u:World}{B m:Nat}{X:VD}{l1 l2 l3 l4 l5:Nat}{a1 a2 a3 a4 a5 b1 b2 b4:OA}{c1 c2 c3 c4 c5 d1 d2 d4:Nat}(hB:ae u B 122 (dL X a1 l1 c1 a2 l2 c2 a3 l3 c3 a4 l4 c4 a5 l5 c5).toArray)(hR:ae u (B+1) 122 gi)(hb:Below w.heap.size w u)(hBw:w.heap.size<= B)(hm:B+2<= m)(hm2:m<= u.heap.size)(o1:az u (B+2) m (qT X.q) (qL X.q b1 l1 d1 b2 l2 d2))(o2:az u m u.heap.size [ai X.hs] [.slice b4 l4 d4]):
 tG w B X l1 l2 l3 l4 l5 a3 a5 c3 c5 (aF (aF u B 4 (qL X.q b1 l1 d1 b2 l2 d2)) B 11 [.slice b4 l4 d4])/\tG w B X l1 l2 l3 l4 l5 a3 a5 c3 c5 (aF (aF u B 11 [.slice b4 l4 d4]) B 4 (qL X.q b1 l1 d1 b2 l2 d2)):=by
 have K:∀ (v1 v2:List Value) (p1 p2:Nat),bO (bO (dL X a1 l1 c1 a2 l2 c2 a3 l3 c3 a4 l4 c4 a5 l5 c5).toArray p1 v1) p2 v2=(dL X b1 l1 d1 b2 l2 d2 a3 l3 c3 b4 l4 d4 a5 l5 c5).toArray->tG w B X l1 l2 l3 l4 l5 a3 a5 c3 c5 (aF (aF u B p1 v1) B p2 v2):=by
  intro v1 v2 p1 p2 he;have g1:u.grownBy (aF u B p1 v1) (some B):=bf _ _ _;have g2:(aF u B p1 v1).grownBy (aF (aF u B p1 v1) B p2 v2) (some B):=bf _ _ _;have s1:=g1.size;have s2:=g2.size;refine ⟨b1,d1,b2,d2,b4,d4,m,?_,ae.stNe (by omega) _ _ (ae.stNe (by omega) _ _ hR),aD hBw _ _ _ (aD hBw _ _ _ hb),hm,by omega,(o1.kept g1 (by omega) hm2).kept g2 (by omega) (by omega),((o2.kept g1 (by omega) Nl).kept g2 (by omega) s1).mono Nl (by omega)⟩
  have h9:=ae.stL v2 p2 (ae.stL v1 p1 hB);rw [he] at h9;exact h9
 exact ⟨K _ _ _ _ (by simp [bO]),K _ _ _ _ (by simp [bO])⟩
theorem xE{w u:World}{B m1 m2 m3:Nat}{X:VD}{l1 l2 l3 l4 l5:Nat}{a3 a5 b1 b2 b3 b4 b5:OA}{c3 c5 d1 d2 d3 d4 d5:Nat}(hB:ae u B 122 (dL X b1 l1 d1 b2 l2 d2 a3 l3 c3 b4 l4 d4 a5 l5 c5).toArray)(hR:ae u (B+1) 122 gi)(hb:Below w.heap.size w u)(hBw:w.heap.size<= B)(hm:B+2<= m1)(hm1:m1<= m2)(hm2:m2<= m3)(hm3:m3<= u.heap.size)(o1:az u (B+2) m1 (qT X.q) (qL X.q b1 l1 d1 b2 l2 d2))(o2:az u m1 m2 [ai X.hs] [.slice b4 l4 d4])(o3:az u m2 m3 [eZ X] [.slice b3 l3 d3])(o4:az u m3 u.heap.size [fP X] [.slice b5 l5 d5]):
 tH w B X l1 l2 l3 l4 l5 (aF (aF u B 10 [.slice b3 l3 d3]) B 12 [.slice b5 l5 d5])/\tH w B X l1 l2 l3 l4 l5 (aF (aF u B 12 [.slice b5 l5 d5]) B 10 [.slice b3 l3 d3]):=by
 have K:∀ (v1 v2:List Value) (p1 p2:Nat),bO (bO (dL X b1 l1 d1 b2 l2 d2 a3 l3 c3 b4 l4 d4 a5 l5 c5).toArray p1 v1) p2 v2=(dL X b1 l1 d1 b2 l2 d2 b3 l3 d3 b4 l4 d4 b5 l5 d5).toArray->tH w B X l1 l2 l3 l4 l5 (aF (aF u B p1 v1) B p2 v2):=by
  intro v1 v2 p1 p2 he;have g1:u.grownBy (aF u B p1 v1) (some B):=bf _ _ _;have g2:(aF u B p1 v1).grownBy (aF (aF u B p1 v1) B p2 v2) (some B):=bf _ _ _;have s1:=g1.size;have s2:=g2.size;refine ⟨b1,d1,b2,d2,b3,d3,b4,d4,b5,d5,m1,m2,m3,?_,ae.stNe (by omega) _ _ (ae.stNe (by omega) _ _ hR),aD hBw _ _ _ (aD hBw _ _ _ hb),hm,hm1,hm2,by omega,(o1.kept g1 (by omega) (by omega)).kept g2 (by omega) (by omega),(o2.kept g1 (by omega) (by omega)).kept g2 (by omega) (by omega),(o3.kept g1 (by omega) (by omega)).kept g2 (by omega) (by omega),((o4.kept g1 (by omega) Nl).kept g2 (by omega) s1).mono Nl (by omega)⟩
  have h9:=ae.stL v2 p2 (ae.stL v1 p1 hB);rw [he] at h9;exact h9
 exact ⟨K _ _ _ _ (by simp [bO]),K _ _ _ _ (by simp [bO])⟩
theorem qc(X:VD)(a1:OA)(l1 c1:Nat)(a2:OA)(l2 c2:Nat)(a3:OA)(l3 c3:Nat)(a4:OA)(l4 c4:Nat)(a5:OA)(l5 c5:Nat)(w:World)(r1:Rd w 0 (aw X.q.ws) (.slice a1 l1 c1))(r2:Rd w 0 (ai X.q.bs) (.slice a2 l2 c2))(r3:Rd w 0 (eZ X) (.slice a3 l3 c3))(r4:Rd w 0 (ai X.hs) (.slice a4 l4 c4))(r5:Rd w 0 (fP X) (.slice a5 l5 c5))(hz:ax 13 (ac (dT X))<= 1048576):
 Calls prog 91 #[.agg (dL X a1 l1 c1 a2 l2 c2 a3 l3 c3 a4 l4 c4 a5 l5 c5).toArray] w fun e w'=>∃ b1 d1 b2 d2 b3 d3 b4 d4 b5 d5,e=.returned (.agg (dL X b1 l1 d1 b2 l2 d2 b3 l3 d3 b4 l4 d4 b5 l5 d5).toArray)/\az w' w.heap.size w'.heap.size (dT X) (dL X b1 l1 d1 b2 l2 d2 b3 l3 d3 b4 l4 d4 b5 l5 d5)/\Below w.heap.size w w':=by
 obtain ⟨B,hB⟩:∃ B,B=w.heap.size:=⟨_,rfl⟩
 obtain ⟨W,hW⟩:∃ W,W=(w.alloc (.cells (dL X a1 l1 c1 a2 l2 c2 a3 l3 c3 a4 l4 c4 a5 l5 c5).toArray 122)).alloc (.cells gi 122):=⟨_,rfl⟩
 have bW:Below w.heap.size w W:=by rw [hW];exact af (aa w _) (aa _ _)
 have HZ:Hid (ax 6 (ac (qT X.q))<= 1048576/\(eZ X).sz<= 1048576/\X.hs.length<= 1048576/\(fP X).sz<= 1048576):=by
  rw [dd] at hz;show ax 6 (ac (qT X.q))<= 1048576/\(Tr.list 8 X.np (fun i=>ac (pT (X.pt i)))).sz<= 1048576/\X.hs.length<= 1048576/\(Tr.list 6 X.nt (fun i=>ac (aT (X.tl i)))).sz<= 1048576;try simp only [cC,db,dc,dd,cQ,true_and]
  omega
 have HW:Hid (Below w.heap.size w W/\ae W B 122 (dL X a1 l1 c1 a2 l2 c2 a3 l3 c3 a4 l4 c4 a5 l5 c5).toArray/\ae W (B+1) 122 gi/\w.heap.size<= B/\B+2<= W.heap.size/\Rd W 0 (aw X.q.ws) (.slice a1 l1 c1)/\Rd W 0 (ai X.q.bs) (.slice a2 l2 c2)/\Rd W 0 (eZ X) (.slice a3 l3 c3)/\Rd W 0 (ai X.hs) (.slice a4 l4 c4)/\Rd W 0 (fP X) (.slice a5 l5 c5)):=⟨bW,by rw [hW,hB];exact (ae.new w _ _).below (aa _ _),by rw [hW,hB];have:=ae.new (w.alloc (.cells (dL X a1 l1 c1 a2 l2 c2 a3 l3 c3 a4 l4 c4 a5 l5 c5).toArray 122)) gi 122;simpa using this,by omega,by rw [hW,hB];simp,r1.below bW,r2.below bW,r3.below bW,r4.below bW,r5.below bW⟩
 have HR:Hid (Rd w 0 (eZ X) (.slice a3 l3 c3)/\Rd w 0 (fP X) (.slice a5 l5 c5)):=⟨r3,r5⟩
 clear bW r1 r2 r3 r4 r5 hz;go_enter func91,ntmps91
 go_upto_region 1 with fail
 rw [<- hW];have hB1:w.heap.size+1=B+1:=by omega
 rw [hB1,<- hB];clear hW hB hB1;obtain ⟨⟨y0,y1,y2,y3,y4,y5,y6,y7,y8,y9,y10,y11,y12⟩,yf⟩:=HW.out.2.1.tc13;clear yf;go_cut [] (fun wx=>tG w B X l1 l2 l3 l4 l5 a3 a5 c3 c5 wx)
 case first=>
  go_region_with (first
   |(go_at_call 136;refine (jb X.q a1 l1 c1 a2 l2 c2 _ (HW.out.2.2.2.2.2.1.below (by first|exact Br|exact Br.drew|exact Br.drew.drew)) (HW.out.2.2.2.2.2.2.1.below (by first|exact Br|exact Br.drew|exact Br.drew.drew)) HZ.out.1).mono ?_;rintro e w1 ⟨b1,d1,b2,d2,rfl,O1',b1'⟩;have H1:Hid (Below W.heap.size W w1/\az w1 (B+2) w1.heap.size (qT X.q) (qL X.q b1 l1 d1 b2 l2 d2)):=(by have b9:Below W.heap.size W w1:=af (by first|exact Br|exact Br.drew|exact Br.drew.drew) b1';exact ⟨b9,O1'.mono HW.out.2.2.2.2.1 Nl⟩);clear O1' b1';obtain ⟨⟨z0,z1,z2,z3,z4,z5,z6,z7,z8,z9,bM,cx,z12⟩,zf⟩:=(HW.out.2.1.below H1.out.1).tc13;clear zf)
   |(go_at_call 137;refine (oC X.hs a4 l4 c4 _ (HW.out.2.2.2.2.2.2.2.2.1.below (by first|exact H1.out.1|exact H1.out.1.drew|exact H1.out.1.drew.drew)) HZ.out.2.2.1).mono ?_;rintro e w2 ⟨b4,d4,rfl,O2',b2'⟩;have H2:Hid (Below W.heap.size W w2/\az w2 (B+2) w1.heap.size (qT X.q) (qL X.q b1 l1 d1 b2 l2 d2)/\az w2 w1.heap.size w2.heap.size [ai X.hs] [.slice b4 l4 d4]/\B+2<= w1.heap.size/\w1.heap.size<= w2.heap.size):=(by have b8:Below w1.heap.size w1 w2:=af (by first|exact Br|exact Br.drew|exact Br.drew.drew) b2';have b9:=af H1.out.1 b8;exact ⟨b9,H1.out.2.below b8 Nl,az.one O2',Nat.le_trans HW.out.2.2.2.2.1 H1.out.1.size,b8.size⟩);clear O2' b2';obtain ⟨⟨x0,x1,x2,x3,x4,x5,x6,x7,x8,x9,x10,x11,x12⟩,xf⟩:=(HW.out.2.1.below H2.out.1).tc13;have xf4:=xf 4;have xf5:=xf 5;have xf6:=xf 6;have xf7:=xf 7;have xf8:=xf 8;have xf9:=xf 9;have xf11:=xf 11;clear xf))
  all_goals (go_wp2_with fail;go_meet;first|exact (xD (HW.out.2.1.below H2.out.1) (HW.out.2.2.1.below H2.out.1) (af HW.out.1 H2.out.1) HW.out.2.2.2.1 H2.out.2.2.2.1 H2.out.2.2.2.2 H2.out.2.1 H2.out.2.2.1).1|exact (xD (HW.out.2.1.below H2.out.1) (HW.out.2.2.1.below H2.out.1) (af HW.out.1 H2.out.1) HW.out.2.2.2.1 H2.out.2.2.2.1 H2.out.2.2.2.2 H2.out.2.1 H2.out.2.2.1).2)
 case rest=>
 obtain ⟨b1,d1,b2,d2,b4,d4,m,X1,R1,q1,q2,q3,o1,o2⟩:=hcut;rename World=>u
 have HX:Hid (ae u B 122 (dL X b1 l1 d1 b2 l2 d2 a3 l3 c3 b4 l4 d4 a5 l5 c5).toArray/\ae u (B+1) 122 gi/\Below w.heap.size w u/\B+2<= m/\m<= u.heap.size/\az u (B+2) m (qT X.q) (qL X.q b1 l1 d1 b2 l2 d2)/\az u m u.heap.size [ai X.hs] [.slice b4 l4 d4]/\Rd u 0 (eZ X) (.slice a3 l3 c3)/\Rd u 0 (fP X) (.slice a5 l5 c5)):=⟨X1,R1,q1,q2,q3,o1,o2,HR.out.1.below q1,HR.out.2.below q1⟩
 clear X1 R1 q1 q2 q3 o1 o2 y0 y1 y2 y3 y4 y5 y6 y7 y8 y9 y10 y11 y12;obtain ⟨⟨y0,y1,y2,y3,y4,y5,y6,y7,y8,y9,y10,y11,y12⟩,yf⟩:=HX.out.1.tc13;clear yf;go_upto_region 2 with fail
 go_cut [] (fun wx=>tH w B X l1 l2 l3 l4 l5 wx)
 case first=>
  go_region_with (first
   |(go_at_call 138;refine (nf X.np X.pt a3 l3 c3 _ (HX.out.2.2.2.2.2.2.2.1.below (by first|exact Br|exact Br.drew|exact Br.drew.drew)) HZ.out.2.1).mono ?_;rintro e w1 ⟨b3,d3,rfl,O1',b1'⟩;have H1:Hid (Below u.heap.size u w1/\az w1 u.heap.size w1.heap.size [eZ X] [.slice b3 l3 d3]):=(by have b9:Below u.heap.size u w1:=af (by first|exact Br|exact Br.drew|exact Br.drew.drew) b1';exact ⟨b9,az.one O1'⟩);clear O1' b1';obtain ⟨⟨z0,z1,z2,z3,z4,z5,z6,z7,z8,z9,bM,cx,z12⟩,zf⟩:=(HX.out.1.below H1.out.1).tc13;clear zf)
   |(go_at_call 140;refine (ng X.nt X.tl a5 l5 c5 _ (HX.out.2.2.2.2.2.2.2.2.below (by first|exact H1.out.1|exact H1.out.1.drew|exact H1.out.1.drew.drew)) HZ.out.2.2.2).mono ?_;rintro e w2 ⟨b5,d5,rfl,O2',b2'⟩;have H2:Hid (Below u.heap.size u w2/\az w2 u.heap.size w1.heap.size [eZ X] [.slice b3 l3 d3]/\az w2 w1.heap.size w2.heap.size [fP X] [.slice b5 l5 d5]/\u.heap.size<= w1.heap.size/\w1.heap.size<= w2.heap.size):=(by have b8:Below w1.heap.size w1 w2:=af (by first|exact Br|exact Br.drew|exact Br.drew.drew) b2';have b9:=af H1.out.1 b8;exact ⟨b9,H1.out.2.below b8 Nl,az.one O2',H1.out.1.size,b8.size⟩);clear O2' b2';obtain ⟨⟨x0,x1,x2,x3,x4,x5,x6,x7,x8,x9,x10,x11,x12⟩,xf⟩:=(HX.out.1.below H2.out.1).tc13;have xf10:=xf 10;have xf12:=xf 12;clear xf))
  all_goals (go_wp2_with fail;go_meet;first|exact (xE (HX.out.1.below H2.out.1) (HX.out.2.1.below H2.out.1) (af HX.out.2.2.1 H2.out.1) HW.out.2.2.2.1 HX.out.2.2.2.1 HX.out.2.2.2.2.1 H2.out.2.2.2.1 H2.out.2.2.2.2 (HX.out.2.2.2.2.2.1.below H2.out.1 HX.out.2.2.2.2.1) (HX.out.2.2.2.2.2.2.1.below H2.out.1 Nl) H2.out.2.1 H2.out.2.2.1).1|exact (xE (HX.out.1.below H2.out.1) (HX.out.2.1.below H2.out.1) (af HX.out.2.2.1 H2.out.1) HW.out.2.2.2.1 HX.out.2.2.2.1 HX.out.2.2.2.2.1 H2.out.2.2.2.1 H2.out.2.2.2.2 (HX.out.2.2.2.2.2.1.below H2.out.1 HX.out.2.2.2.2.1) (HX.out.2.2.2.2.2.2.1.below H2.out.1 Nl) H2.out.2.1 H2.out.2.2.1).2)
 case rest=>
 obtain ⟨b1,d1,b2,d2,b3,d3,b4,d4,b5,d5,m1,m2,m3,X1,R1,q1,q2,q3,q4,q5,o1,o2,o3,o4⟩:=hcut;clear HX y0 y1 y2 y3 y4 y5 y6 y7 y8 y9 y10 y11 y12;rename World=>v
 obtain ⟨W9,hW9⟩:∃ W9,W9=aF v (B+1) 0 (dL X b1 l1 d1 b2 l2 d2 b3 l3 d3 b4 l4 d4 b5 l5 d5):=⟨_,rfl⟩
 have H9:Hid (az W9 w.heap.size W9.heap.size (dT X) (dL X b1 l1 d1 b2 l2 d2 b3 l3 d3 b4 l4 d4 b5 l5 d5)/\Below w.heap.size w W9/\ae W9 (B+1) 122 (dL X b1 l1 d1 b2 l2 d2 b3 l3 d3 b4 l4 d4 b5 l5 d5).toArray):=by
  have hg:v.grownBy W9 (some (B+1)):=by rw [hW9];exact bf _ _ _
  have hs7:=hg.size;have hbw:=HW.out.2.2.2.1;have p1:=o1.kept hg (by omega) (by omega);have p2:=o2.kept hg (by omega) (by omega);have p3:=o3.kept hg (by omega) (by omega);have p4:=o4.kept hg (by omega) Nl;have j1:=p3.appD (lo:=m1) (hi:=m3) p2 (.inr Nl) (by omega) (by omega) (by omega) (by omega);have j2:=j1.app p4 (by omega) (by omega);have j3:=(p1.app j2 (by omega) (by omega)).mono (lo':=w.heap.size) (hi':=W9.heap.size) (by omega) (by omega);exact ⟨az.leaf (Vi X.id) (az.leaf (Vi X.so) (az.leaf (Vi X.ta) (az.leaf (Vi X.un) j3 (by omega)) (by omega)) (by omega)) (by omega),by rw [hW9];exact aD (by omega) _ _ _ q1,by rw [hW9,show (dL X b1 l1 d1 b2 l2 d2 b3 l3 d3 b4 l4 d4 b5 l5 d5).toArray=bO gi 0 (dL X b1 l1 d1 b2 l2 d2 b3 l3 d3 b4 l4 d4 b5 l5 d5) from (by simp [bO])];exact ae.stL _ _ R1⟩
 have hr:=X1.all;have ht:=R1.there 0 13 (by simp);clear X1 R1 q1 q2 q3 q4 q5 o1 o2 o3 o4 HW;go_upto_region 3 with fail
 refine wp_region_lit ?_;refine wpList_load_mid rfl 122 (.tmp 1) rfl B 0 rfl (dL X b1 l1 d1 b2 l2 d2 b3 l3 d3 b4 l4 d4 b5 l5 d5) _ hr underlying122 rfl (by kernel_rfl) ?_;refine wpList_store_mid rfl 122 (.tmp 2) (.tmp 19) rfl (B+1) 0 (dL X b1 l1 d1 b2 l2 d2 b3 l3 d3 b4 l4 d4 b5 l5 d5).toArray rfl rfl ht (by kernel_rfl) (by simp [Value.oneCell']) ?_;rw [bm,<- hW9];clear hW9 hr ht;refine wpList_nil ?_;go_wp2;obtain ⟨⟨y0,y1,y2,y3,y4,y5,y6,y7,y8,y9,y10,y11,y12⟩,yf⟩:=H9.out.2.2.tc13;refine bodyPost_ret (v:=.agg (dL X b1 l1 d1 b2 l2 d2 b3 l3 d3 b4 l4 d4 b5 l5 d5).toArray) (by simp [results,results91,go_sem,y0,y1,y2,y3,y4,y5,y6,y7,y8,y9,y10,y11,y12]) rfl ⟨b1,d1,b2,d2,b3,d3,b4,d4,b5,d5,rfl,H9.out.1,H9.out.2.1⟩
theorem nh(n:Nat)(f:Nat->VD)(a:OA)(n' cap:Nat)(w:World)(hs:Rd w 0 (.list 13 n (fun k=>ac (dT (f k)))) (.slice a n' cap))(hz:(Tr.list 13 n (fun k=>ac (dT (f k)))).sz<= 1048576):
 Calls prog 90 #[.slice a n' cap,.func (.func 91) #[] #[]] w fun e w'=>∃ b d,e=.returned (.slice b n' d)/\dk w' w.heap.size (.list 13 n (fun k=>ac (dT (f k)))) (.slice b n' d)/\Below w.heap.size w w':=by
 obtain ⟨a9,c9,h9,-,hn⟩:=hs.shape;simp only [Value.slice.injEq] at h9;obtain ⟨-,rfl,-⟩:=h9;clear a9 c9;have hn1:n'<= 1048576:=by rw [Tr.sz_list] at hz;omega
 have HZ:Hid (∀ k,k<n'->ax 13 (ac (dT (f k)))<= 1048576):=by
  show ∀ k,k<n'->ax 13 (ac (dT (f k)))<= 1048576;intro k hk;rw [Tr.sz_list] at hz;have:=ci (fun k=>ax 13 (ac (dT (f k)))) hk;omega
 have hmk:=ct (P:=prog) 36 122 (.agg sP) 13 184 underlying36 (by kernel_rfl) .i64 .i64 n' (by omega) (by omega);have HS:Hid (Rd w 0 (.list 13 n' (fun k=>ac (dT (f k)))) (.slice a n' cap)/\n'<= maxLen):=⟨hs,hn⟩
 clear hs hz hn;go_enter func90,ntmps90
 go_wp2;clear hmk;go_loopw [13] (fun i wr=>∃ (k:Nat),k<= n'/\i=Vi k/\bU wr w.heap.size 122 13 n' (fun i=>dT (f i)) k/\Below w.heap.size w wr) (fun i _=>n'-(intOf i).toNat)
 case atStart=>exact ⟨0,Nat.zero_le _,rfl,bU.start (aM.made w (sP).toList n' _ (by simp)),Br.alloc Nl _⟩
 case round=>
  obtain ⟨k,hk,rfl,hrow,hb⟩:=hrel;by_cases hlt:k<n'
  ·have hi:(k:Int)<(n':Int):=by omega
   obtain ⟨b,off,vs,rfl,_,hb0,hlen,hr,hrd⟩:=(HS.out.1.below hb).at hlt;obtain ⟨a1,c1,a2,c2,a3,c3,a4,c4,a5,c5,rfl,r1,r2,r3,r4,r5⟩:=VD.cells hrd hlen;clear hlen hrd;have d09:wr.cell? ⟨b,off+k*13,none⟩=_:=hr 0 _ rfl;have d19:=hr 1 _ rfl;have d29:=hr 2 _ rfl;have d39:=hr 3 _ rfl;have d49:=hr 4 _ rfl;have d59:=hr 5 _ rfl;have d69:=hr 6 _ rfl;have d79:=hr 7 _ rfl;have d89:=hr 8 _ rfl;have d99:=hr 9 _ rfl;have d109:=hr 10 _ rfl;have d119:=hr 11 _ rfl;have d129:=hr 12 _ rfl;have HK:Hid (bU wr w.heap.size 122 13 n' (fun i=>dT (f i)) k/\True/\Below w.heap.size w wr/\Rd wr 0 (aw (f k).q.ws) (.slice a1 ((f k).q.ws.length) c1)/\Rd wr 0 (ai (f k).q.bs) (.slice a2 ((f k).q.bs.length) c2)/\Rd wr 0 (.list 8 (f k).np (fun i=>ac (pT ((f k).pt i)))) (.slice a3 ((f k).np) c3)/\Rd wr 0 (ai (f k).hs) (.slice a4 ((f k).hs.length) c4)/\Rd wr 0 (.list 6 (f k).nt (fun i=>ac (aT ((f k).tl i)))) (.slice a5 ((f k).nt) c5)):=⟨hrow,trivial,hb,r1,r2,r3,r4,r5⟩
   clear hrow hb hr hb0 r1 r2 r3 r4 r5;go_wp2_with fail
   refine (qc (f k) a1 ((f k).q.ws.length) c1 a2 ((f k).q.bs.length) c2 a3 ((f k).np) c3 a4 ((f k).hs.length) c4 a5 ((f k).nt) c5 _ (HK.out.2.2.2.1.below (aa _ _)) (HK.out.2.2.2.2.1.below (aa _ _)) (HK.out.2.2.2.2.2.1.below (aa _ _)) (HK.out.2.2.2.2.2.2.1.below (aa _ _)) (HK.out.2.2.2.2.2.2.2.below (aa _ _)) (HZ.out k hlt)).mono ?_;rintro e w1 ⟨b1,d1,b2,d2,b3,d3,b4,d4,b5,d5,rfl,q1,hb1⟩;have hb1:=af (aa wr _) hb1;have q1:=q1.mono (lo':=wr.heap.size) (by simp) Nl;obtain ⟨F1,R1⟩:=(HK.out.1.cg (Cg.ofBelow (S:=fun _=>False) hb1) (fun b h=>h.elim)).row;obtain ⟨rx0,ry0⟩:∃ v,w1.cell? ⟨w.heap.size,k*13,none⟩=some v:=R1.ex hlt (j:=0) (by decide);obtain ⟨rx1,ry1⟩:=R1.ex hlt (j:=1) (by decide);obtain ⟨rx2,ry2⟩:=R1.ex hlt (j:=2) (by decide);obtain ⟨rx3,ry3⟩:=R1.ex hlt (j:=3) (by decide);obtain ⟨rx4,ry4⟩:=R1.ex hlt (j:=4) (by decide);obtain ⟨rx5,ry5⟩:=R1.ex hlt (j:=5) (by decide);obtain ⟨rx6,ry6⟩:=R1.ex hlt (j:=6) (by decide);obtain ⟨rx7,ry7⟩:=R1.ex hlt (j:=7) (by decide);obtain ⟨rx8,ry8⟩:=R1.ex hlt (j:=8) (by decide);obtain ⟨rx9,ry9⟩:=R1.ex hlt (j:=9) (by decide);obtain ⟨rx10,ry10⟩:=R1.ex hlt (j:=10) (by decide);obtain ⟨rx11,ry11⟩:=R1.ex hlt (j:=11) (by decide);obtain ⟨rx12,ry12⟩:=R1.ex hlt (j:=12) (by decide);obtain ⟨W2,hW2⟩:∃ W2,W2=aF w1 w.heap.size (k*13) (dL (f k) b1 ((f k).q.ws.length) d1 b2 ((f k).q.bs.length) d2 b3 ((f k).np) d3 b4 ((f k).hs.length) d4 b5 ((f k).nt) d5):=⟨_,rfl⟩
   have H2:Hid (bU W2 w.heap.size 122 13 n' (fun i=>dT (f i)) (k+1)/\Below w.heap.size w W2):=⟨by rw [hW2];exact HK.out.1.step (S:=fun _=>False) hlt (Cg.ofBelow hb1) (fun b h=>h.elim) q1 rfl,by rw [hW2];exact aD Nl _ _ _ (af HK.out.2.2.1 hb1)⟩
   have hW2':W2=(((((((((((((w1.setCell ⟨w.heap.size,k*13,none⟩ (Vi (f k).id)).setCell ⟨w.heap.size,k*13+1,none⟩ (Vi (f k).so)).setCell ⟨w.heap.size,k*13+2,none⟩ (Vi (f k).ta)).setCell ⟨w.heap.size,k*13+3,none⟩ (Vi (f k).un)).setCell ⟨w.heap.size,k*13+4,none⟩ (Vi (f k).q.kd)).setCell ⟨w.heap.size,k*13+5,none⟩ (Vi (f k).q.pl)).setCell ⟨w.heap.size,k*13+6,none⟩ (Vi (f k).q.n)).setCell ⟨w.heap.size,k*13+7,none⟩ (.slice b1 ((f k).q.ws.length) d1)).setCell ⟨w.heap.size,k*13+8,none⟩ (.slice b2 ((f k).q.bs.length) d2)).setCell ⟨w.heap.size,k*13+9,none⟩ (Vi (f k).q.wa)).setCell ⟨w.heap.size,k*13+10,none⟩ (.slice b3 ((f k).np) d3)).setCell ⟨w.heap.size,k*13+11,none⟩ (.slice b4 ((f k).hs.length) d4)).setCell ⟨w.heap.size,k*13+12,none⟩ (.slice b5 ((f k).nt) d5)):=by rw [hW2];simp only [aF,Nat.reduceAdd,Nat.zero_add,Nat.add_zero,Nat.add_assoc]
   have HE:Hid (∀ j,w1.frozen? ⟨w.heap.size,j,none⟩=false):=R1.fro;have qf0:=HE.out (k*13);have qf1:=HE.out (k*13+1);have qf2:=HE.out (k*13+2);have qf3:=HE.out (k*13+3);have qf4:=HE.out (k*13+4);have qf5:=HE.out (k*13+5);have qf6:=HE.out (k*13+6);have qf7:=HE.out (k*13+7);have qf8:=HE.out (k*13+8);have qf9:=HE.out (k*13+9);have qf10:=HE.out (k*13+10);have qf11:=HE.out (k*13+11);have qf12:=HE.out (k*13+12);clear R1 hb1 HK d09 d19 d29 d39 d49 d59 d69 d79 d89 d99 d109 d119 d129 hW2 HE q1;go_wp2;rw [<- hW2'];clear hW2';go_roundw
   case rel=>
    exact ⟨k+1,by omega,by go_num,H2.out.1,H2.out.2⟩
   case measure=>simp [intOf];omega
  have hi:¬ (k:Int)<(n':Int):=by omega
  have e9:k=n':=by omega
  subst e9;have HR:Hid (bU wr w.heap.size 122 13 k (fun i=>dT (f i)) k/\Below w.heap.size w wr):=⟨hrow,hb⟩
  clear hrow hb;go_wp2;go_ret;exact ⟨_,_,rfl,HR.out.1.done Nl HS.out.2 (fun _ _=>rfl),HR.out.2⟩
def xF(w:World)(B:Nat)(X:VT)(l1:Nat)(u:World):Prop:=
 ∃ b1 d1,ae u (B+1) 38 (tL X b1 l1 d1).toArray/\Below w.heap.size w u/\az u w.heap.size u.heap.size (tT X) (tL X b1 l1 d1)
theorem yx{w u:World}{B:Nat}{X:VT}{l1:Nat}{b1:OA}{d1:Nat}(hR:ae u (B+1) 38 #[Vi 0,Zs])(hb:Below w.heap.size w u)(hBw:w.heap.size<= B)(hs:B+2<= u.heap.size)(o1:az u (B+2) u.heap.size [.list 13 X.m (fun i=>ac (dT (X.f i)))] [.slice b1 l1 d1]):
 xF w B X l1 (aF u (B+1) 0 (tL X b1 l1 d1)):=by
 have g1:u.grownBy (aF u (B+1) 0 (tL X b1 l1 d1)) (some (B+1)):=bf _ _ _;have s1:=g1.size;refine ⟨b1,d1,?_,aD (by omega) _ _ _ hb,az.leaf (Vi X.nx) ((o1.kept g1 (by omega) Nl).mono (by omega) s1) (by omega)⟩
 have h9:=ae.stL (tL X b1 l1 d1) 0 hR;rw [show bO #[Vi 0,Zs] 0 (tL X b1 l1 d1)=(tL X b1 l1 d1).toArray from (by simp [bO])] at h9;exact h9
theorem oD(X:VT)(a1:OA)(l1 c1:Nat)(w:World)(r1:Rd w 0 (.list 13 X.m (fun i=>ac (dT (X.f i)))) (.slice a1 l1 c1))(hz:ax 2 (ac (tT X))<= 1048576):
 Calls prog 55 #[.agg (tL X a1 l1 c1).toArray] w fun e w'=>∃ b1 d1,e=.returned (.agg (tL X b1 l1 d1).toArray)/\az w' w.heap.size w'.heap.size (tT X) (tL X b1 l1 d1)/\Below w.heap.size w w':=by
 obtain ⟨B,hB⟩:∃ B,B=w.heap.size:=⟨_,rfl⟩
 obtain ⟨W,hW⟩:∃ W,W=(w.alloc (.cells (tL X a1 l1 c1).toArray 38)).alloc (.cells #[Vi 0,Zs] 38):=⟨_,rfl⟩
 have bW:Below w.heap.size w W:=by rw [hW];exact af (aa w _) (aa _ _)
 have HZ:Hid ((Tr.list 13 X.m (fun i=>ac (dT (X.f i)))).sz<= 1048576):=by
  rw [cQ] at hz;exact hz
 have HW:Hid (Below w.heap.size w W/\ae W B 38 (tL X a1 l1 c1).toArray/\ae W (B+1) 38 #[Vi 0,Zs]/\w.heap.size<= B/\B+2<= W.heap.size/\Rd W 0 (.list 13 X.m (fun i=>ac (dT (X.f i)))) (.slice a1 l1 c1)):=⟨bW,by rw [hW,hB];exact (ae.new w _ _).below (aa _ _),by rw [hW,hB];have:=ae.new (w.alloc (.cells (tL X a1 l1 c1).toArray 38)) #[Vi 0,Zs] 38;simpa using this,by omega,by rw [hW,hB];simp,r1.below bW⟩
 clear bW r1 hz;go_enter func55,ntmps55
 go_upto_region 1 with fail
 rw [<- hW];have hB1:w.heap.size+1=B+1:=by omega
 rw [hB1,<- hB];clear hW hB hB1;obtain ⟨⟨y0,y1⟩,yf⟩:=HW.out.2.1.tc2;clear yf;go_cut [] (fun wx=>xF w B X l1 wx)
 case first=>
  go_region_with (go_at_call 90;refine (nh X.m X.f a1 l1 c1 _ (HW.out.2.2.2.2.2.below (by first|exact Br|exact Br.drew|exact Br.drew.drew)) HZ.out).mono ?_;rintro e w1 ⟨b1,d1,rfl,O1',b1'⟩;have H1:Hid (Below W.heap.size W w1/\az w1 (B+2) w1.heap.size [.list 13 X.m (fun i=>ac (dT (X.f i)))] [.slice b1 l1 d1]):=(by have b9:Below W.heap.size W w1:=af (by first|exact Br|exact Br.drew|exact Br.drew.drew) b1';exact ⟨b9,(az.one O1').mono HW.out.2.2.2.2.1 Nl⟩);clear O1' b1';obtain ⟨⟨z0,z1⟩,zf⟩:=(HW.out.2.1.below H1.out.1).tc2;clear zf;obtain ⟨⟨x0,x1⟩,xf⟩:=(HW.out.2.2.1.below H1.out.1).tc2;have xf0:=xf 0;have xf1:=xf 1;clear xf)
  all_goals (go_wp2_with fail;go_meet;exact yx (HW.out.2.2.1.below H1.out.1) (af HW.out.1 H1.out.1) HW.out.2.2.2.1 (Nat.le_trans HW.out.2.2.2.2.1 H1.out.1.size) H1.out.2)
 case rest=>
 obtain ⟨b1,d1,R1,q1,o1⟩:=hcut;have H9:Hid _:=And.intro o1 q1;clear o1 q1;obtain ⟨⟨x0,x1⟩,xf⟩:=R1.tc2;clear xf R1 y0 y1;go_wp2;refine bodyPost_ret (v:=.agg (tL X b1 l1 d1).toArray) (by simp [results,results55,go_sem,x0,x1]) rfl ⟨b1,d1,rfl,H9.out.1,H9.out.2⟩
end Go.Proofs.YtohikbpolofklaaGreat
