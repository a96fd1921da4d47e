/- Texts that the proof needs, joined: Fo4 Mp1 Mp2 Tb1 Fo5 Fo6 P3. -/
import Derived.Test.YtohikbpolofklaaGreatY35
import Derived.Test.YtohikbpolofklaaGreatY4
import Derived.Maps.RangeRun
import Derived.Carry
import Derived.Laws.StructEq
import Derived.Test.YtohikbpolofklaaGreatY25
import Derived.Test.YtohikbpolofklaaGreatY2
import Derived.Test.YtohikbpolofklaaGreatY26
import Derived.Maps.OwnSet
import Derived.Test.YtohikbpolofklaaGreatY34
set_option linter.unusedVariables false
set_option linter.unusedSimpArgs false
set_option maxHeartbeats 8000000
set_option maxRecDepth 20000
namespace Go.Proofs.YtohikbpolofklaaGreat
open Go.RowKit Go.Joins Go.Proofs.Tryz
def tg(w:World)(g o:Nat)(N:VN):Prop:=g<w.heap.size/\∃ vs,vs.length=17/\w.rangeAt g o vs/\aV w 0 (ac (aN N)) vs
def aU(N:VN)(k:Nat):VL:=(dp N).getD k default
theorem nH{N:VN}(h:N.bz=true){i:Nat}(hi:i<1+N.nq):(if i<1 then aJ N.c else aJ (N.qf (i-1)))=aJ (aU N i):=by
 unfold aU;rw [List.getD_eq_getElem?_getD];by_cases e:i<1
 ·have e0:i=0:=by omega
  subst e0;rw [gp h];rfl
 obtain ⟨j,rfl⟩:∃ j,i=j+1:=⟨i-1,by omega⟩
 rw [if_neg e,ij h (by omega)];rfl
theorem nI{N:VN}(h:N.bz=false){i:Nat}(hi:i<N.nq):aJ (N.qf i)=aJ (aU N i):=by
 unfold aU;rw [List.getD_eq_getElem?_getD,ik h hi];rfl
theorem VL.back9{w:World}{lo:Nat}{X:VL}{a1:OA}{l1 c1:Nat}{a2:OA}{l2 c2:Nat}(r1:Rd w lo (aw X.q.ws) (.slice a1 l1 c1))(r2:Rd w lo (ai X.q.bs) (.slice a2 l2 c2)):aV w lo (ac (aJ X)) (bh X a1 l1 c1 a2 l2 c2):=VL.back r1 r2
theorem ry(N:VN)(g o:Nat)(w0 w:World)(hb:Below w0.heap.size w0 w)(h:tg w0 g o N)(hn:N.nq<= 2000000):
 Calls prog 101 #[Vp g o] w fun e w'=>∃ v,e=.returned v/\ed w0 w.heap.size w' 9 v (dp N).length (fun i=>aJ (aU N i))/\Below w.heap.size w w':=by
 obtain ⟨hg,vs,hl,hr,hd⟩:=h;obtain ⟨a1,c1,e1,k1,e2,k2,rfl,q1,q2,q3⟩:=VN.cells hd hl;have hg2:=Nat.lt_of_lt_of_le hg hb.size;have hr2:=ay hr hg hb;have y0:w.cell? ⟨g,o,none⟩=some (.slice a1 N.nq c1):=hr2 0 _ rfl;have y1:w.cell? ⟨g,o+1,none⟩=some (.bool N.bz):=hr2 1 _ rfl;have HE:Hid (Below w0.heap.size w0 w/\g<w.heap.size/\w.rangeAt g o (bj N a1 N.nq c1 e1 N.c.q.ws.length k1 e2 N.c.q.bs.length k2)/\Rd w0 0 (.list 9 N.nq (fun i=>ac (aJ (N.qf i)))) (.slice a1 N.nq c1)/\aV w0 0 (ac (aJ N.c)) (bh N.c e1 N.c.q.ws.length k1 e2 N.c.q.bs.length k2)/\N.nq<= 2000000):=⟨hb,hg2,hr2,q1,VL.back9 q2 q3,hn⟩
 clear hd hl q1 q2 q3 hr hr2 hg hg2 hb;obtain ⟨bz,hbz⟩:∃ b,N.bz=b:=⟨_,rfl⟩
 cases bz
 case false=>
  rw [hbz] at y1;have HN:Hid (N.bz=false):=hbz;clear hbz;go_enter func101,ntmps101
  go_wp2;go_ret;exact ⟨_,rfl,(by rw [eV,HN.out];exact ed.old (by simpa using HE.out.2.2.2.1.congr (fun i hi=>by rw [nI HN.out hi])) HE.out.1),Br⟩
 rw [hbz] at y1;go_enter func101,ntmps101
 go_upto_region 3 with fail
 clear y0 y1;try go_simp
 refine wp_region_any (by kernel_rfl) ?_
 refine fm 9 (fun u=>Below w.heap.size w u) (fun j σ u=>match j with
  |9=>∃ v,σ 21=v/\cI w0 u 88 9 v (1+N.nq) (fun i=>if i<1 then aJ N.c else aJ (N.qf (i-1)))/\(∀ k,v.ownBlock=some k->w.heap.size<= k)/\Below w.heap.size w u
  |_=>∃ v,σ 2=v/\cI w0 u 88 9 v (1+N.nq) (fun i=>if i<1 then aJ N.c else aJ (N.qf (i-1)))/\(∀ k,v.ownBlock=some k->w.heap.size<= k)/\Below w.heap.size w u) (fun i v u=>match i with
  |0=>v=Vp g o
  |1=>v=Vp g o
  |2=>v=Vp g (o+2)
  |3=>v=.agg ([Vi N.c.id,Vi N.c.pa,Vi N.c.un,Vi N.c.q.kd,Vi N.c.q.pl,Vi N.c.q.n,.slice e1 N.c.q.ws.length k1,.slice e2 N.c.q.bs.length k2,Vi N.c.q.wa]).toArray
  |4=>cI w0 u 88 9 v 1 (fun _=>aJ N.c)/\∀ k,v.ownBlock=some k->w.heap.size<= k
  |5=>v=Vp g o
  |6=>v=Vp g o
  |7=>v=Vp g o
  |8=>v=.slice a1 N.nq c1
  |_=>True) (by kernel_rfl) (by kernel_rfl) (by decide) (by kernel_rfl) (fun u u' h hb=>af h hb) ?_ (by first|exact Br|exact Br.drew) ?_ ?_ ?_ ?_ _ _ rfl (by decide) (fun i=>by simp [Array.getD];try (split <;> rfl))
 ·intro i v u u' h hb
  match i,h with
  |0,h=>exact h
  |1,h=>exact h
  |2,h=>exact h
  |3,h=>exact h
  |4,⟨h1,h2⟩=>exact ⟨h1.below hb,h2⟩
  |5,h=>exact h
  |6,h=>exact h
  |7,h=>exact h
  |8,h=>exact h
  |_+9,_=>trivial
 rotate_left
 ·intro u i o ρ hi hR ho hρ hc hf hd
  obtain rfl|rfl|rfl|rfl|rfl|rfl|rfl|rfl|rfl:i=0\/i=1\/i=2\/i=3\/i=4\/i=5\/i=6\/i=7\/i=8:=by omega
  all_goals (simp only [List.getElem?_toArray,List.getElem?_cons_zero,List.getElem?_cons_succ,Option.some.injEq] at ho;subst ho)
  ·have s0:ρ (.tmp 0)=Vp g o:=(hρ 0 (by kernel_rfl)).trans rfl
   exact .inl ⟨rfl,.inl ⟨_,u,rfl,s0,Br⟩⟩
  ·have h0:ρ (.tmp 12)=Vp g o:=dq hd 0 12
   exact .inl ⟨rfl,.inl ⟨Vp g o,u,cE rfl h0,rfl,Br⟩⟩
  ·have h1:ρ (.tmp 13)=Vp g o:=dq hd 1 13
   exact .inl ⟨rfl,.inl ⟨Vp g (o+2),u,ao rfl h1 (by go_simp),rfl,Br⟩⟩
  ·have h2:ρ (.tmp 14)=Vp g (o+2):=dq hd 2 14
   have hr:(Instr.loadAt 88 (Vp g (o+2))).run prog u=.ok (.agg ([Vi N.c.id,Vi N.c.pa,Vi N.c.un,Vi N.c.q.kd,Vi N.c.q.pl,Vi N.c.q.n,.slice e1 N.c.q.ws.length k1,.slice e2 N.c.q.bs.length k2,Vi N.c.q.wa]).toArray) u:=run_loadAt_mid u g (o+2) 88 ([Vi N.c.id,Vi N.c.pa,Vi N.c.un,Vi N.c.q.kd,Vi N.c.q.pl,Vi N.c.q.n,.slice e1 N.c.q.ws.length k1,.slice e2 N.c.q.bs.length k2,Vi N.c.q.wa]) _ (er [.slice a1 N.nq c1,.bool N.bz] [Vi N.c.id,Vi N.c.pa,Vi N.c.un,Vi N.c.q.kd,Vi N.c.q.pl,Vi N.c.q.n,.slice e1 N.c.q.ws.length k1,.slice e2 N.c.q.bs.length k2,Vi N.c.q.wa] [Vi N.nu,Vi N.du,Vi N.le,Vi N.nx,Vi N.wt,Vi N.tr] (ay HE.out.2.2.1 HE.out.2.1 hR) rfl) underlying88 rfl (by kernel_rfl);exact .inl ⟨rfl,.inl ⟨.agg ([Vi N.c.id,Vi N.c.pa,Vi N.c.un,Vi N.c.q.kd,Vi N.c.q.pl,Vi N.c.q.n,.slice e1 N.c.q.ws.length k1,.slice e2 N.c.q.bs.length k2,Vi N.c.q.wa]).toArray,u,ah rfl h2 hr,rfl,Br⟩⟩
  ·have h3:ρ (.tmp 15)=.agg ([Vi N.c.id,Vi N.c.pa,Vi N.c.un,Vi N.c.q.kd,Vi N.c.q.pl,Vi N.c.q.n,.slice e1 N.c.q.ws.length k1,.slice e2 N.c.q.bs.length k2,Vi N.c.q.wa]).toArray:=dq hd 3 15
   exact .inl ⟨rfl,.inl ⟨_,_,dN rfl (qs:=#[(0,.agg (bh N.c e1 N.c.q.ws.length k1 e2 N.c.q.bs.length k2).toArray)]) (by simp [h3]) (nz N.c e1 _ k1 e2 _ k2 u),⟨cI.one (vs:=bh N.c e1 N.c.q.ws.length k1 e2 N.c.q.bs.length k2) (f:=fun _=>aJ N.c) rfl HE.out.2.2.2.2.1 (Nat.le_trans HE.out.1.size hR.size),fun k hk=>by obtain rfl:=Option.some.inj hk;exact hR.size⟩,aa _ _⟩⟩
  ·have s0:ρ (.tmp 0)=Vp g o:=(hρ 0 (by kernel_rfl)).trans rfl
   exact .inl ⟨rfl,.inl ⟨_,u,rfl,s0,Br⟩⟩
  ·have h5:ρ (.tmp 17)=Vp g o:=dq hd 5 17
   exact .inl ⟨rfl,.inl ⟨Vp g o,u,cE rfl h5,rfl,Br⟩⟩
  ·have h6:ρ (.tmp 18)=Vp g o:=dq hd 6 18
   exact .inl ⟨rfl,.inl ⟨Vp g o,u,ao rfl h6 (by go_simp),rfl,Br⟩⟩
  have h7:ρ (.tmp 19)=Vp g o:=dq hd 7 19;have y9:u.cell? ⟨g,o,none⟩=some (.slice a1 N.nq c1):=(ay HE.out.2.2.1 HE.out.2.1 hR) 0 _ rfl;have hr:(Instr.loadAt 85 (Vp g o)).run prog u=.ok (.slice a1 N.nq c1) u:=by go_simp
  exact .inl ⟨rfl,.inl ⟨.slice a1 N.nq c1,u,ah rfl h7 hr,rfl,Br⟩⟩
 ·intro u o ρ hR ho hρ hc hf hv
  simp only [List.getElem?_toArray,List.getElem?_cons_zero,List.getElem?_cons_succ,Option.some.injEq] at ho;subst ho;obtain ⟨o1,o2⟩:cI w0 u 88 9 (ρ (.tmp 16)) 1 (fun _=>aJ N.c)/\∀ k,(ρ (.tmp 16)).ownBlock=some k->w.heap.size<= k:=hv 4 16 (by decide) rfl;have h8:ρ (.tmp 20)=.slice a1 N.nq c1:=hv 8 20 (by decide) rfl;have bb:=af HE.out.1 hR;obtain ⟨v',w',hrun,l1,l2,l3,l4⟩:=o1.app 85 85 104 (.agg #[Vi 0,Vi 0,Vi 0,Vi 0,Vi 0,Vi 0,Zs,Zs,Vi 0]) underlying85 (by kernel_rfl) rfl (by decide) (by decide) a1 N.nq c1 (fun i=>aJ (N.qf i)) HE.out.2.2.2.1 bb (fun k hk vs h1 h2=>jp (w:=w0) h1 h2) (by decide) HE.out.2.2.2.2.2;exact ⟨rfl,.inl ⟨_,w',rv rfl rfl h8 hrun,v',nG,l1,(fun k hk=>by rcases l4 with l4|l4 <;> rw [l4] at hk;exact o2 k hk;obtain rfl:=Option.some.inj hk;exact hR.size),hR.grown l3 hR.size o2⟩⟩
 ·intro u i o ρ hi ho hE hρ hc hf
  have hi2:i+1<11:=by
   have:=(Array.getElem?_eq_some_iff.1 ho).1;simpa using this
  obtain rfl:i=9:=by omega
  all_goals (simp only [List.getElem?_toArray,List.getElem?_cons_zero,List.getElem?_cons_succ,Option.some.injEq] at ho;subst ho)
  obtain ⟨v,e1,L'⟩:=hE;have e1':ρ (.tmp 21)=v:=e1;exact ⟨rfl,.inl ⟨_,u,rx rfl e1',v,nG,L'⟩⟩
 intro vs σ u hE hvs;obtain ⟨v,e3,L'⟩:∃ v,σ 2=v/\cI w0 u 88 9 v (1+N.nq) (fun i=>if i<1 then aJ N.c else aJ (N.qf (i-1)))/\(∀ k,v.ownBlock=some k->w.heap.size<= k)/\Below w.heap.size w u:=hE;have e9:vs 10=v:=(hvs 10 2 rfl).trans e3;simp only [bI];rw [e9];have H2:Hid (cI w0 u 88 9 v (1+N.nq) (fun i=>if i<1 then aJ N.c else aJ (N.qf (i-1)))/\(∀ k,v.ownBlock=some k->w.heap.size<= k)/\Below w.heap.size w u):=L';have HN:Hid (N.bz=true):=hbz;clear e9 e3 hvs L' hbz HE;try go_simp
 go_wp2;go_ret;exact ⟨v,rfl,(by rw [eV,HN.out];exact ed.own (H2.out.1.congr (fun i hi=>nH HN.out hi)) H2.out.2.1),H2.out.2.2⟩
end Go.Proofs.YtohikbpolofklaaGreat
namespace Go.Proofs.YtohikbpolofklaaGreat
open Go.RowKit Go.Joins Go.ChangeMaps Go.Proofs.Tryz
def xU(ks:Nat->Int)(vs:Nat->Value)(n:Nat):List MapEntry:=(List.range n).map (fun j=>⟨Vi (ks j),vs j,j⟩)
def MapI(w:World)(b n:Nat)(ks:Nat->Int)(vs:Nat->Value):Prop:=w.heap[b]? = some (.map (xU ks vs n).toArray n)
theorem io(w:World)(b:Nat)(o:Obj):w.grownBy (setBlock w b o) (some b):=
 ⟨rfl,rfl,rfl,by simp [setBlock],fun k hk hne=>by
  unfold setBlock;simp only;rw [Array.getElem?_setIfInBounds];split
  ·rename_i e;subst e;exact absurd rfl hne
  rfl⟩
abbrev gU(a b:Int):Value:=.agg #[Vi a,Vi b]
def jq{α:Type}(e:Int × Int × (α × List Value × Nat)):MapEntry:=⟨gU e.1 e.2.1,.agg e.2.2.2.1.toArray,e.2.2.2.2⟩
def cZ{α:Type}(w:World)(b:Nat)(l:List (Int × Int × (α × List Value × Nat)))(c:Nat):Prop:=w.heap[b]? = some (.map (l.map jq).toArray c)
section
variable {α:Type} {w w':World} {b c:Nat} {l:List (Int × Int × (α × List Value × Nat))}
theorem cZ.lt(h:cZ w b l c):b<w.heap.size:=(Array.getElem?_eq_some_iff.1 h).1
theorem cZ.below(h:cZ w b l c)(hb:Below w.heap.size w w'):cZ w' b l c:=(hb.block b h.lt).trans h
theorem cZ.new(w:World):cZ (w.alloc (.map #[] 0)) w.heap.size ([]:List (Int × Int × (α × List Value × Nat))) 0:=heap_alloc_new w (.map #[] 0)
theorem cZ.set(hlt:b<w.heap.size):cZ (setBlock w b (.map (l.map jq).toArray c)) b l c:=by
 unfold cZ setBlock;simp [hlt]
end
def il(P:Program)(K:TypeId):Prop:=(∃ fs,P.underlying K=some (.struct fs))/\(∀ (a b c d:Int) (w:World),(Op.equal K (gU a b) (gU c d)).run P w=.ok (decide (a=c/\b=d)) w)/\∀ (e:Bool) (a b:Int) (w:World),(Instr.checkKey e 10000 K (gU a b)).run P w=.ok () w
section
variable {α:Type} {P:Program} {w:World} {b c:Nat} {l:List (Int × Int × (α × List Value × Nat))} {K:TypeId}
theorem il.ask(hK:il P K)(x y:Int):∀ (l:List (Int × Int × (α × List Value × Nat))) (i:Nat),(Instr.findAsking K (gU x y) (l.map jq) i).run P w=.ok ((b6 x y l i).map (fun r=>(r.1,.agg r.2.2.1.toArray))) w
 | [],i=>by simp [Instr.findAsking,b6]
 |e:: es,i=>by
  rw [List.map_cons];unfold Instr.findAsking b6;rw [Sem.run_bind];rw [show (jq e).key=gU e.1 e.2.1 from rfl,hK.2.1];rw [Result.andThen_ok];by_cases q:e.1=x/\e.2.1=y
  ·rw [if_pos q,decide_eq_true (⟨q.1.symm,q.2.symm⟩:x=e.1/\y=e.2.1)]
   simp [jq]
  rw [if_neg q,decide_eq_false (fun h:x=e.1/\y=e.2.1=>q ⟨h.1.symm,h.2.symm⟩)];simp only [Bool.false_eq_true,if_false];exact il.ask hK x y es (i+1)
theorem il.find(hK:il P K)(x y:Int)(l:List (Int × Int × (α × List Value × Nat))):(Instr.findKey K (gU x y) (l.map jq)).run P w=.ok ((b6 x y l 0).map (fun r=>(r.1,.agg r.2.2.1.toArray))) w:=by
 obtain ⟨fs,hf⟩:=hK.1;unfold Instr.findKey;rw [Sem.run_bind,run_underlying hf,Result.andThen_ok];cases l with
 |nil=>simp [Instr.findNow,b6]
 |cons e es=>
  rw [show Instr.findNow (.struct fs) (gU x y) ((e:: es).map jq) 0=none from rfl];exact hK.ask x y (e:: es) 0
theorem gh{β γ:Type}(g:β->γ):∀ (l:List β) (i:Nat),(l.map g).eraseIdx i=(l.eraseIdx i).map g
 | [],_=>rfl
 |_:: _,0=>rfl
 |x:: l,i+1=>by
  show g x:: (l.map g).eraseIdx i=g x:: (l.eraseIdx i).map g;rw [gh g l i]
theorem cZ.look{T E:TypeId}{z:Value}(h:cZ w b l c)(hT:P.underlying T=some (.map K E))(hK:il P K)(hz:(zeroValue E).run P w=.ok z w)(x y:Int):
 (Instr.lookup T (.map (some b)) (gU x y) true).run P w=.ok (.tuple #[((b6 x y l 0).map (fun r=>Value.agg r.2.2.1.toArray)).getD z,.bool (b6 x y l 0).isSome]) w:=by
 unfold cZ at h;unfold Instr.lookup;simp only [run_underlying (P:=P) hT,Sem.run_bind,Result.andThen_ok,getObj,Sem.run,h,hK.2.2,hK.find x y l,Sem.run_pure];cases b6 x y l 0 with
 |none=>simp [hz]
 |some r=>simp
theorem cZ.put{T E:TypeId}(h:cZ w b l c)(hT:P.underlying T=some (.map K E))(hK:il P K)(x y:Int)(p:α)(vs:List Value)(hx:b6 x y l 0=none):
 (Instr.mapUpdate T (.map (some b)) (gU x y) (.agg vs.toArray)).run P w=.ok () (setBlock w b (.map ((l++[(x,y,p,vs,c)]).map jq).toArray (c+1))):=by
 unfold cZ at h;unfold Instr.mapUpdate;simp only [run_underlying (P:=P) hT,Sem.run_bind,Result.andThen_ok,getObj,Sem.run,h,hK.2.2,hK.find x y l,hx,Option.map_none];simp only [setObj,Sem.run,h,setBlock];congr 3
 simp [jq]
theorem cZ.del{T E ty:TypeId}{A:Array TypeId}{r:Nat × (α × List Value × Nat)}(h:cZ w b l c)(hA:A[0]? = some T)(hT:P.underlying T=some (.map K E))(hK:il P K)(x y:Int)(hx:b6 x y l 0=some r):
 (Builtin.delete_ A ty #[.map (some b),gU x y]).run P w=.ok (.tuple #[]) (setBlock w b (.map ((l.eraseIdx r.1).map jq).toArray c)):=by
 obtain ⟨k,e,k1,k2,_⟩:=fS hx;have hlt:r.1<l.length:=by have:=(List.getElem?_eq_some_iff.1 k2).1;omega
 unfold cZ at h;unfold Builtin.delete_;simp only [hA,List.getElem?_toArray,List.getElem?_cons_zero,List.getElem?_cons_succ,run_underlying (P:=P) hT,Sem.run_bind,Result.andThen_ok,getObj,Sem.run,h,hK.2.2,hK.find x y l,hx,Option.map_some,Sem.run_pure];simp only [setObj,Sem.run,h,setBlock,Result.andThen_ok];congr 4
 rw [Array.eraseIdxIfInBounds,dif_pos (by simpa using hlt)];simp only [List.eraseIdx_toArray];congr 1
 exact gh jq l r.1
theorem cZ.len{T E ty:TypeId}(h:cZ w b l c)(hT:P.underlying T=some (.map K E)):(Builtin.len_ #[T] ty #[.map (some b)]).run P w=.ok (Vi (l.length:Int)) w:=by
 unfold cZ at h;simp [Builtin.len_,run_underlying (P:=P) hT,getObj,Sem.run,h,goInt]
end
end Go.Proofs.YtohikbpolofklaaGreat
namespace Go.Proofs.YtohikbpolofklaaGreat
open Go.RowKit Go.Joins Go.Proofs.Tryz
theorem Rd.int3{w:World}{lo n c:Nat}{a:OA}{ws:List Int}(h:Rd w lo (aw ws) (.slice a n c)):n=ws.length/\n<= c/\aZ w a ws:=by
 obtain ⟨a',c',h1,h2,h3,h4⟩:=h.ints;simp only [Value.slice.injEq] at h1;obtain ⟨rfl,rfl,rfl⟩:=h1;exact ⟨rfl,h2,h4⟩
theorem Rd.bool3{w:World}{lo n c:Nat}{a:OA}{ws:List Bool}(h:Rd w lo (ai ws) (.slice a n c)):n=ws.length/\n<= c/\be w a ws:=by
 obtain ⟨a',c',h1,h2,h3,h4⟩:=h.bools;simp only [Value.slice.injEq] at h1;obtain ⟨rfl,rfl,rfl⟩:=h1;exact ⟨rfl,h2,h4⟩
theorem Rd.bit{w:World}{lo n m c:Nat}{a:OA}{bs:List Bool}{k:Nat}(h:Rd w lo (ai bs) (.slice a m c))(hk:k<bs.length):∃ b off,a=some ⟨b,off,none⟩/\b<w.heap.size/\w.cell? ⟨b,off+k,none⟩=some (.bool (bs.getD k false)):=by
 rcases h.bool3.2.2 with h0|⟨b,off,ha,hb,hc⟩
 ·subst h0;simp at hk
 exact ⟨b,off,ha,hb,hc k hk⟩
theorem rz(x hi:Int)(w:World)(b:Bool)(hb:aB x 1 hi=b):Calls prog 142 #[Vi x,Vi hi] w fun e w'=>e=.returned (.bool b)/\w'=w:=by
 subst hb;unfold aB;by_cases h1:1<= x
 ·by_cases h2:x<= hi
  ·rw [decide_eq_true (show 1<= x/\x<= hi from ⟨h1,h2⟩)]
   go_enter func142,ntmps142
   go_wp2;go_ret;exact ⟨rfl,rfl⟩
  rw [decide_eq_false (show ¬ (1<= x/\x<= hi) from fun h=>h2 h.2)];go_enter func142,ntmps142
  go_wp2;go_ret;exact ⟨rfl,rfl⟩
 rw [decide_eq_false (show ¬ (1<= x/\x<= hi) from fun h=>h1 h.1)];go_enter func142,ntmps142
 go_wp2;go_ret;exact ⟨rfl,rfl⟩
theorem uW(x:Int)(w:World)(b:Bool)(hb:aB x 1 247=b):Calls prog 103 #[Vi x] w fun e w'=>e=.returned (.bool b)/\w'=w:=by
 go_enter func103,ntmps103
 go_wp2_with fail
 refine (rz _ _ _ _ hb).mono ?_;rintro e wx ⟨rfl,rfl⟩;go_wp2;go_ret;exact ⟨rfl,rfl⟩
theorem qj(x:Int)(w:World)(b:Bool)(hb:aB x 0 1000000000=b):Calls prog 97 #[Vi x] w fun e w'=>e=.returned (.bool b)/\w'=w:=by
 subst hb;unfold aB;by_cases h1:0<= x
 ·by_cases h2:x<= 1000000000
  ·rw [decide_eq_true ⟨h1,h2⟩]
   have h3:x<1000000000+1:=by omega
   simp only [Int.reduceAdd] at h3;go_enter func97,ntmps97
   go_wp2;go_ret;exact ⟨rfl,rfl⟩
  rw [decide_eq_false (fun h=>h2 h.2)];have h3:¬ x<1000000000+1:=by omega
  simp only [Int.reduceAdd] at h3;go_enter func97,ntmps97
  go_wp2;go_ret;exact ⟨rfl,rfl⟩
 rw [decide_eq_false (fun h=>h1 h.1)];go_enter func97,ntmps97
 go_wp2;go_ret;exact ⟨rfl,rfl⟩
theorem uX(x:Int)(w:World)(b:Bool)(hb:aB x 0 5=b):Calls prog 105 #[Vi x] w fun e w'=>e=.returned (.bool b)/\w'=w:=by
 subst hb;unfold aB;by_cases h1:0<= x
 ·by_cases h2:x<= 5
  ·rw [decide_eq_true ⟨h1,h2⟩]
   have h3:x<5+1:=by omega
   simp only [Int.reduceAdd] at h3;go_enter func105,ntmps105
   go_wp2;go_ret;exact ⟨rfl,rfl⟩
  rw [decide_eq_false (fun h=>h2 h.2)];have h3:¬ x<5+1:=by omega
  simp only [Int.reduceAdd] at h3;go_enter func105,ntmps105
  go_wp2;go_ret;exact ⟨rfl,rfl⟩
 rw [decide_eq_false (fun h=>h1 h.1)];go_enter func105,ntmps105
 go_wp2;go_ret;exact ⟨rfl,rfl⟩
theorem pF(X:VQ)(a1:OA)(l1 c1:Nat)(a2:OA)(l2 c2:Nat)(w:World)(r1:Rd w 0 (aw X.ws) (.slice a1 l1 c1))(r2:Rd w 0 (ai X.bs) (.slice a2 l2 c2))(hb:cV X):
 Calls prog 143 #[.agg (qL X a1 l1 c1 a2 l2 c2).toArray] w fun e w'=>e=.returned (.bool (gR X))/\Below w.heap.size w w':=by
 obtain ⟨e1,_,s1⟩:=r1.int3;obtain ⟨e2,_,s2⟩:=r2.bool3;unfold gR;rw [<- e1,<- e2];exact ic X.kd X.pl X.n X.wa a1 a2 l1 l2 c1 c2 X.ws X.bs w e1 e2 s1 s2 hb.1 hb.2
theorem pG(X:VQ)(a1:OA)(l1 c1:Nat)(a2:OA)(l2 c2:Nat)(w:World)(r1:Rd w 0 (aw X.ws) (.slice a1 l1 c1))(r2:Rd w 0 (ai X.bs) (.slice a2 l2 c2))(hb:cV X):
 Calls prog 125 #[.agg (qL X a1 l1 c1 a2 l2 c2).toArray] w fun e w'=>e=.returned (.bool (gR X))/\Below w.heap.size w w':=by
 obtain ⟨e1,_,s1⟩:=r1.int3;obtain ⟨e2,_,s2⟩:=r2.bool3;unfold gR;rw [<- e1,<- e2];exact ib X.kd X.pl X.n X.wa a1 a2 l1 l2 c1 c2 X.ws X.bs w e1 e2 s1 s2 hb.1 hb.2
theorem nJ(X:VP)(a1:OA)(c1:Nat)(a2:OA)(c2:Nat)(w:World)(r1:Rd w 0 (aw X.q.ws) (.slice a1 X.q.ws.length c1))(r2:Rd w 0 (ai X.q.bs) (.slice a2 X.q.bs.length c2))(hb:cV X.q):
 Calls prog 172 #[.agg (pL X a1 X.q.ws.length c1 a2 X.q.bs.length c2).toArray] w fun e w'=>e=.returned (.bool (cr X))/\Below w.heap.size w w':=by
 obtain ⟨x0,hx0⟩:∃ x,aB X.p 0 5=x:=⟨_,rfl⟩
 obtain ⟨x1,hx1⟩:∃ x,aB X.t 1 247=x:=⟨_,rfl⟩
 obtain ⟨x2,hx2⟩:∃ x,gR X.q=x:=⟨_,rfl⟩
 obtain ⟨W,hW⟩:∃ W,W=w.alloc (.cells (pL X a1 X.q.ws.length c1 a2 X.q.bs.length c2).toArray 128):=⟨_,rfl⟩
 have HE:Hid (cr X=(x0 && (x1 && x2))/\aB X.p 0 5=x0/\aB X.t 1 247=x1/\gR X.q=x2/\Rd W 0 (aw X.q.ws) (.slice a1 X.q.ws.length c1)/\Rd W 0 (ai X.q.bs) (.slice a2 X.q.bs.length c2)/\Below w.heap.size w W):=⟨by unfold cr;rw [hx0,hx1,hx2],hx0,hx1,hx2,r1.below (by rw [hW];exact aa _ _),r2.below (by rw [hW];exact aa _ _),by rw [hW];exact aa _ _⟩
 have A0:ae W w.heap.size 128 (pL X a1 X.q.ws.length c1 a2 X.q.bs.length c2).toArray:=by rw [hW];exact ae.new _ _ _
 obtain ⟨⟨y0,y1,y2,y3,y4,y5,y6,y7⟩,yf⟩:=A0.tc8;rw [HE.out.1];clear hx0 hx1 hx2 r1 r2 yf A0;go_enter func172,ntmps172
 go_upto_region 1 with fail
 rw [<- hW];clear hW;go_wp2_with fail
 refine (uX _ _ _ HE.out.2.1).mono ?_;rintro e w1 ⟨rfl,hw⟩;have hw:=hw.symm;subst hw;cases x0
 case false=>
  go_wp2;go_ret;exact ⟨rfl,HE.out.2.2.2.2.2.2⟩
 go_wp2_with fail
 refine (uW _ _ _ HE.out.2.2.1).mono ?_;rintro e w1 ⟨rfl,hw⟩;have hw:=hw.symm;subst hw;cases x1
 case false=>
  go_wp2;go_ret;exact ⟨rfl,HE.out.2.2.2.2.2.2⟩
 go_wp2_with fail
 refine (pF X.q a1 _ c1 a2 _ c2 _ HE.out.2.2.2.2.1 HE.out.2.2.2.2.2.1 hb).mono ?_;rintro e w1 ⟨rfl,b1⟩;rw [HE.out.2.2.2.1];have B1:=af HE.out.2.2.2.2.2.2 b1;clear b1 y0 y1 y2 y3 y4 y5 y6 y7;go_wp2;go_ret;exact ⟨rfl,B1⟩
theorem nK(X:VP)(a1:OA)(c1:Nat)(a2:OA)(c2:Nat)(w:World)(r1:Rd w 0 (aw X.q.ws) (.slice a1 X.q.ws.length c1))(r2:Rd w 0 (ai X.q.bs) (.slice a2 X.q.bs.length c2))(hb:cV X.q):
 Calls prog 126 #[.agg (pL X a1 X.q.ws.length c1 a2 X.q.bs.length c2).toArray] w fun e w'=>e=.returned (.bool (cr X))/\Below w.heap.size w w':=by
 obtain ⟨x0,hx0⟩:∃ x,aB X.p 0 5=x:=⟨_,rfl⟩
 obtain ⟨x1,hx1⟩:∃ x,aB X.t 1 247=x:=⟨_,rfl⟩
 obtain ⟨x2,hx2⟩:∃ x,gR X.q=x:=⟨_,rfl⟩
 obtain ⟨W,hW⟩:∃ W,W=w.alloc (.cells (pL X a1 X.q.ws.length c1 a2 X.q.bs.length c2).toArray 128):=⟨_,rfl⟩
 have HE:Hid (cr X=(x0 && (x1 && x2))/\aB X.p 0 5=x0/\aB X.t 1 247=x1/\gR X.q=x2/\Rd W 0 (aw X.q.ws) (.slice a1 X.q.ws.length c1)/\Rd W 0 (ai X.q.bs) (.slice a2 X.q.bs.length c2)/\Below w.heap.size w W):=⟨by unfold cr;rw [hx0,hx1,hx2],hx0,hx1,hx2,r1.below (by rw [hW];exact aa _ _),r2.below (by rw [hW];exact aa _ _),by rw [hW];exact aa _ _⟩
 have A0:ae W w.heap.size 128 (pL X a1 X.q.ws.length c1 a2 X.q.bs.length c2).toArray:=by rw [hW];exact ae.new _ _ _
 obtain ⟨⟨y0,y1,y2,y3,y4,y5,y6,y7⟩,yf⟩:=A0.tc8;rw [HE.out.1];clear hx0 hx1 hx2 r1 r2 yf A0;go_enter func126,ntmps126
 go_upto_region 1 with fail
 rw [<- hW];clear hW;go_wp2_with fail
 refine (aI _ _ _ _ _ HE.out.2.1).mono ?_;rintro e w1 ⟨rfl,hw⟩;have hw:=hw.symm;subst hw;cases x0
 case false=>
  go_wp2;go_ret;exact ⟨rfl,HE.out.2.2.2.2.2.2⟩
 go_wp2_with fail
 refine (aI _ _ _ _ _ HE.out.2.2.1).mono ?_;rintro e w1 ⟨rfl,hw⟩;have hw:=hw.symm;subst hw;cases x1
 case false=>
  go_wp2;go_ret;exact ⟨rfl,HE.out.2.2.2.2.2.2⟩
 go_wp2_with fail
 refine (pG X.q a1 _ c1 a2 _ c2 _ HE.out.2.2.2.2.1 HE.out.2.2.2.2.2.1 hb).mono ?_;rintro e w1 ⟨rfl,b1⟩;rw [HE.out.2.2.2.1];have B1:=af HE.out.2.2.2.2.2.2 b1;clear b1 y0 y1 y2 y3 y4 y5 y6 y7;go_wp2;go_ret;exact ⟨rfl,B1⟩
theorem qk(X:VP)(a1:OA)(c1:Nat)(a2:OA)(c2:Nat)(w:World)(r1:Rd w 0 (aw X.q.ws) (.slice a1 X.q.ws.length c1))(r2:Rd w 0 (ai X.q.bs) (.slice a2 X.q.bs.length c2))(hb:cV X.q)(x:Bool)(hx:cr X=x):
 Calls prog 171 #[.agg (pL X a1 X.q.ws.length c1 a2 X.q.bs.length c2).toArray] w fun e w'=>e=.returned (.bool (!x))/\Below w.heap.size w w':=by
 obtain ⟨W,hW⟩:∃ W,W=w.alloc (.cells (pL X a1 X.q.ws.length c1 a2 X.q.bs.length c2).toArray 128):=⟨_,rfl⟩
 have HE:Hid (cr X=x/\Rd W 0 (aw X.q.ws) (.slice a1 X.q.ws.length c1)/\Rd W 0 (ai X.q.bs) (.slice a2 X.q.bs.length c2)/\Below w.heap.size w W):=⟨hx,r1.below (by rw [hW];exact aa _ _),r2.below (by rw [hW];exact aa _ _),by rw [hW];exact aa _ _⟩
 have A0:ae W w.heap.size 128 (pL X a1 X.q.ws.length c1 a2 X.q.bs.length c2).toArray:=by rw [hW];exact ae.new _ _ _
 obtain ⟨⟨y0,y1,y2,y3,y4,y5,y6,y7⟩,yf⟩:=A0.tc8;clear hx r1 r2 yf A0;go_enter func171,ntmps171
 go_upto_region 1 with fail
 rw [<- hW];clear hW;go_wp2_with fail
 refine (nJ X a1 c1 a2 c2 _ HE.out.2.1 HE.out.2.2.1 hb).mono ?_;rintro e w1 ⟨rfl,b1⟩;rw [HE.out.1];have B1:=af HE.out.2.2.2 b1;clear b1 y0 y1 y2 y3 y4 y5 y6 y7;go_wp2;go_ret;exact ⟨rfl,B1⟩
def xH(n:Nat)(f:Nat->VP)(r:Int):Prop:=(r = -1/\aO (fun i=>cr (f i)) n=true)\/(0<= r/\aO (fun i=>cr (f i)) n=false)
theorem oN(n:Nat)(f:Nat->VP)(a:OA)(c:Nat)(w:World)(hs:Rd w 0 (.list 8 n (fun i=>ac (pT (f i)))) (.slice a n c))(hn:n<= 2000000)(hb:∀ i,i<n->cV (f i).q):
 Calls prog 188 #[.slice a n c,.func (.func 171) #[] #[]] w fun e w'=>∃ r,e=.returned (Vi r)/\xH n f r/\Below w.heap.size w w':=by
 have HS:Hid (Rd w 0 (.list 8 n (fun i=>ac (pT (f i)))) (.slice a n c)/\∀ i,i<n->cV (f i).q):=⟨hs,hb⟩
 clear hs hb;go_enter func188,ntmps188
 go_wp2;go_loopw [8] (fun i wr=>∃ k:Nat,k<= n/\i=Vi k/\aO (fun i=>cr (f i)) k=true/\Below w.heap.size w wr) (fun i _=>n-(intOf i).toNat)
 case atStart=>exact ⟨0,Nat.zero_le _,rfl,rfl,Br⟩
 case round=>
  obtain ⟨k,hk,rfl,hall,hbl⟩:=hrel;by_cases hlt:k<n
  ·have hi:(k:Int)<(n:Int):=by omega
   obtain ⟨b,off,vs,rfl,_,hb0,hlen,hr,hrd⟩:=(HS.out.1.below hbl).at hlt;obtain ⟨a1,c1,a2,c2,rfl,r1,r2⟩:=VP.cells hrd hlen;clear hlen hrd hb0;have d0:wr.cell? ⟨b,off+k*8,none⟩=_:=hr 0 _ rfl;have d1:=hr 1 _ rfl;have d2:=hr 2 _ rfl;have d3:=hr 3 _ rfl;have d4:=hr 4 _ rfl;have d5:=hr 5 _ rfl;have d6:=hr 6 _ rfl;have d7:=hr 7 _ rfl;obtain ⟨x,hx⟩:∃ x,cr (f k)=x:=⟨_,rfl⟩
   have HK:Hid (Rd wr 0 (aw (f k).q.ws) (.slice a1 (f k).q.ws.length c1)/\Rd wr 0 (ai (f k).q.bs) (.slice a2 (f k).q.bs.length c2)/\cr (f k)=x/\aO (fun i=>cr (f i)) k=true/\Below w.heap.size w wr):=⟨r1,r2,hx,hall,hbl⟩
   clear r1 r2 hx hall hbl hr;go_wp2_with fail
   refine (qk (f k) a1 c1 a2 c2 _ HK.out.1 HK.out.2.1 (HS.out.2 k hlt) x HK.out.2.2.1).mono ?_;rintro e w1 ⟨rfl,b1⟩;have B1:=af HK.out.2.2.2.2 b1;clear b1 d0 d1 d2 d3 d4 d5 d6 d7;cases x with
   |true=>
    have HF:Hid (aO (fun i=>cr (f i)) (k+1)=true):=cL HK.out.2.2.2.1 HK.out.2.2.1;clear HK;go_wp2;go_roundw
    case rel=>exact ⟨k+1,by omega,by go_num,HF.out,B1⟩
    case measure=>simp [intOf];omega
   |false=>
    have HF:Hid (aO (fun i=>cr (f i)) n=false):=cT hlt HK.out.2.2.1;clear HK;go_wp2;go_ret;exact ⟨_,rfl,.inr ⟨by omega,HF.out⟩,B1⟩
  have hi:¬ (k:Int)<(n:Int):=by omega
  have e9:k=n:=by omega
  subst e9;have HF:Hid (aO (fun i=>cr (f i)) k=true):=hall;clear hall;go_wp2;go_ret;exact ⟨_,rfl,.inl ⟨rfl,HF.out⟩,hbl⟩
theorem lB(n:Nat)(f:Nat->VP)(a:OA)(c:Nat)(w:World)(hs:Rd w 0 (.list 8 n (fun i=>ac (pT (f i)))) (.slice a n c))(hn:n<= 2000000)(hb:∀ i,i<n->cV (f i).q)(x:Bool)(hx:aO (fun i=>cr (f i)) n=x):
 Calls prog 170 #[.slice a n c,.func (.func 171) #[] #[]] w fun e w'=>e=.returned (.bool (!x))/\Below w.heap.size w w':=by
 have HX:Hid (aO (fun i=>cr (f i)) n=x):=hx;clear hx;go_enter func170,ntmps170
 go_wp2_with fail
 refine (oN n f a c _ hs hn hb).mono ?_;rintro e w1 ⟨r,rfl,hr,b1⟩;have HR:Hid (xH n f r):=hr;clear hr;cases x with
 |true=>
  have h0:¬ (0<= r):=by
   rcases HR.out with h|h
   ·omega
   have:=HX.out;rw [h.2] at this;cases this
  have HD:Hid (decide (0<= r)=false):=decide_eq_false h0;go_wp2;go_ret;exact ⟨by show Ending.returned (.bool (decide (0<= r)))=_;rw [HD.out];rfl,b1⟩
 |false=>
  have h0:0<= r:=by
   rcases HR.out with h|h
   ·have:=HX.out;rw [h.2] at this;cases this
   exact h.1
  have HD:Hid (decide (0<= r)=true):=decide_eq_true h0;go_wp2;go_ret;exact ⟨rfl,b1⟩
theorem lC(D:VD)(g o:Nat)(w:World)(h:fR w g o D)(hb:gS D):
 Calls prog 144 #[Vp g o] w fun e w'=>e=.returned (.bool (decide (1<= D.np/\D.np<= 8) && aO (fun i=>cr (D.pt i)) D.np))/\Below w.heap.size w w':=by
 obtain ⟨hg,a1,c1,a2,c2,a3,c3,a4,c4,a5,c5,hr,r1,r2,r3,r4,r5⟩:=h.cells;obtain ⟨x0,hx0⟩:∃ x,aB (D.np:Int) 1 8=x:=⟨_,rfl⟩
 obtain ⟨x1,hx1⟩:∃ x,aO (fun i=>cr (D.pt i)) D.np=x:=⟨_,rfl⟩
 have hx2:decide (1<= D.np/\D.np<= 8)=x0:=by rw [<- hx0];unfold aB;exact decide_eq_decide.2 (by omega)
 rw [hx2];have HX:Hid (aB (D.np:Int) 1 8=x0/\aO (fun i=>cr (D.pt i)) D.np=x1/\Rd w 0 (.list 8 D.np (fun i=>ac (pT (D.pt i)))) (.slice a3 D.np c3)/\gS D):=⟨hx0,hx1,r3,hb⟩
 rw [hx1];have hn2:D.np<= 2000000:=hb.2.1;have y10:=hr 10 _ rfl;clear hr r1 r2 r3 r4 r5 hx0 hx1 hx2 hb;go_enter func144,ntmps144
 go_wp2_with fail
 refine (rz _ _ _ _ HX.out.1).mono ?_;rintro e w1 ⟨rfl,hw⟩;have hw:=hw.symm;subst hw;cases x0
 case false=>
  go_wp2;go_ret;exact ⟨rfl,Br⟩
 go_wp2_with fail
 refine (lB D.np D.pt a3 c3 _ HX.out.2.2.1 hn2 HX.out.2.2.2.2.2.2.2.1 x1 HX.out.2.1).mono ?_;rintro e w1 ⟨rfl,b1⟩;clear y10;cases x1
 case false=>
  go_wp2;go_ret;exact ⟨rfl,b1⟩
 go_wp2;go_ret;exact ⟨rfl,b1⟩
theorem rA(D:VD)(g o:Nat)(w:World)(h:fR w g o D)(hb:gS D):
 Calls prog 146 #[Vp g o] w fun e w'=>e=.returned (Vi (cN D.hs D.hs.length:Int))/\w'=w:=by
 obtain ⟨hg,a1,c1,a2,c2,a3,c3,a4,c4,a5,c5,hr,r1,r2,r3,r4,r5⟩:=h.cells;obtain ⟨n,hn⟩:∃ n,n=D.hs.length:=⟨_,rfl⟩
 have y11:=hr 11 _ rfl;rw [<- hn] at y11 r4 ⊢;have HX:Hid (Rd w 0 (ai D.hs) (.slice a4 n c4)/\n=D.hs.length):=⟨r4,hn⟩
 have hn2:n<= 2000000:=by rw [hn];exact hb.2.2.1
 clear hr r1 r2 r3 r4 r5 hb hn;go_enter func146,ntmps146
 go_wp2;go_loopw [3,11] (fun c i wr=>∃ k:Nat,k<= n/\i=Vi k/\c=Vi (cN D.hs k:Int)/\wr=w) (fun _ i _=>n-(intOf i).toNat)
 case atStart=>exact ⟨0,Nat.zero_le _,rfl,rfl,rfl⟩
 case round=>
  obtain ⟨k,hk,rfl,rfl,hw⟩:=hrel;subst hw;have hc:=jA D.hs k;obtain ⟨m,hm⟩:∃ m,m=cN D.hs k:=⟨_,rfl⟩
  rw [<- hm] at hc ⊢;have HM:Hid (m=cN D.hs k):=hm;clear hm;by_cases hlt:k<n
  ·have hi:(k:Int)<(n:Int):=by omega
   obtain ⟨b,off,rfl,hb0,d0⟩:=HX.out.1.bit (k:=k) (n:=n) (by rw [<- HX.out.2];exact hlt);obtain ⟨x,hx⟩:∃ x,D.hs.getD k false=x:=⟨_,rfl⟩
   rw [hx] at d0;have HK:Hid (cN D.hs (k+1)=m+(if x then 0 else 1)):=by show cN D.hs (k+1)=_;simp only [cN];rw [hx,HM.out]
   clear hx;cases x with
   |true=>
    go_wp2;go_roundw
    case rel=>exact ⟨k+1,by omega,by go_num,by rw [HK.out];rfl,trivial⟩
    case measure=>simp [intOf];omega
   |false=>
    go_wp2;go_roundw
    case rel=>exact ⟨k+1,by omega,by go_num,by rw [HK.out];go_num,trivial⟩
    case measure=>simp [intOf];omega
  have hi:¬ (k:Int)<(n:Int):=by omega
  have e9:k=n:=by omega
  subst e9;go_wp2;go_ret;exact ⟨by rw [HM.out];rfl,rfl⟩
end Go.Proofs.YtohikbpolofklaaGreat
namespace Go.Proofs.YtohikbpolofklaaGreat
open Go.RowKit Go.Joins Go.ChangeMaps Go.Proofs.Tryz
theorem th(e:Bool)(a b:Int)(w:World):(Instr.checkKey e 10000 142 (gU a b)).run prog w=.ok () w:=by
 have h9:∀ (z:Int),(Instr.checkKey e 9999 3 (Vi z)).run prog w=.ok () w:=fun z=>MapKept.run_checkKey (k:=Vi z) underlying3 (show IntKind.i64=IntKind.i64 from rfl) e 9998
 rw [show (10000:Nat)=9998+1+1 from rfl];unfold Instr.checkKey;go_simp
theorem ql:il prog 142:=by
 refine ⟨⟨_,underlying142⟩,fun a b c d w=>?_,th⟩
 have h:(Op.equal 142 (gU a b) (gU c d)).run prog w=.ok ((a == c) && (b == d)) w:=by
  show (Op.equalIn 10000 142 (.agg #[Vi a,Vi b]) (.agg #[Vi c,Vi d])).run prog w=_;go_simp;cases h1:(a == c) <;> cases h2:(b == d) <;> simp_all
 have e:((a == c) && (b == d))=decide (a=c/\b=d):=by
  by_cases h1:a=c <;> by_cases h2:b=d <;> simp [h1,h2]
 rw [<- e];exact h
def cb(w0 w:World)(M:Nat)(O:List (Int × Int × VP)):Prop:=
 ∃ (l:List (Int × Int × (VP × List Value × Nat))) (c:Nat),cZ w M l c/\w0.heap.size<= M/\l.map (fun e=>(e.1,e.2.1,e.2.2.1))=O/\∀ e ∈ l,e.2.2.2.1.length=8/\aV w0 0 (ac (pT e.2.2.1)) e.2.2.2.1
theorem cb.below{w0 w w':World}{M:Nat}{O:List (Int × Int × VP)}(h:cb w0 w M O)(hb:Below w.heap.size w w'):cb w0 w' M O:=by
 obtain ⟨l,c,h1,h2⟩:=h;exact ⟨l,c,h1.below hb,h2⟩
theorem cb.lt{w0 w:World}{M:Nat}{O:List (Int × Int × VP)}(h:cb w0 w M O):w0.heap.size<= M/\M<w.heap.size:=by
 obtain ⟨l,c,h1,h2,_⟩:=h;exact ⟨h2,h1.lt⟩
theorem cb.ix{O:List (Int × Int × VP)}{l:List (Int × Int × (VP × List Value × Nat))}(h:l.map (fun e=>(e.1,e.2.1,e.2.2.1))=O)(x y:Int):b6 x y O 0=(b6 x y l 0).map (fun r=>(r.1,r.2.1)):=by
 rw [<- h];exact pz (fun a=>a.1) x y l 0
theorem cb.put{P:Program}{K:TypeId}{w0 w:World}{M:Nat}{O:List (Int × Int × VP)}{T E:TypeId}(h:cb w0 w M O)(hK:il P K)(hT:P.underlying T=some (.map K E))(x y:Int)(p:VP)(vs:List Value)(hx:b6 x y O 0=none)(hl:vs.length=8)(hr:aV w0 0 (ac (pT p)) vs):
 ∃ w',(Instr.mapUpdate T (.map (some M)) (.agg #[Vi x,Vi y]) (.agg vs.toArray)).run P w=.ok () w'/\cb w0 w' M (O++[(x,y,p)])/\w.grownBy w' (some M):=by
 obtain ⟨l,c,h1,h2,h3,h4⟩:=h
 have hx':b6 x y l 0=none:=by
  have:=cb.ix h3 x y;rw [hx] at this;cases e:b6 x y l 0 with
  |none=>rfl
  |some r=>rw [e] at this;cases this
 refine ⟨_,h1.put hT hK x y p vs hx',⟨_,_,cZ.set h1.lt,h2,by rw [List.map_append,h3];rfl,fun e he=>?_⟩,io w M _⟩
 rcases List.mem_append.1 he with he|he
 ·exact h4 e he
 obtain rfl:=List.mem_singleton.1 he;exact ⟨hl,hr⟩
theorem ti{X:VT}(h:aO (bQ X) X.m=true){k j:Nat}(hk:k<X.m):b6 (X.f k).id (j:Int) (cW X k++eD (X.f k) j) 0=none:=by
 rw [gE];intro e he q;rcases List.mem_append.1 he with he|he
 ·obtain ⟨k',hk',hm⟩:=ft.1 he
  obtain ⟨i,_,_,rfl⟩:=et.1 hm;have:=gF h (i:=k') (j:=k) hk' hk;have:=q.1;simp only at this;omega
 obtain ⟨i,hi,_,rfl⟩:=et.1 he;have:=q.2;simp only at this;omega
theorem mC(X:VT)(a:OA)(c:Nat)(w:World)(hs:Rd w 0 (.list 13 X.m (fun i=>ac (dT (X.f i)))) (.slice a X.m c))(hrow:aO (bQ X) X.m=true)(hm:X.m<= 16):
 Calls prog 100 #[.agg (tL X a X.m c).toArray] w fun e w'=>∃ M,e=.returned (.map (some M))/\cb w w' M (cW X X.m)/\Below w.heap.size w w':=by
 have HS:Hid (Rd w 0 (.list 13 X.m (fun i=>ac (dT (X.f i)))) (.slice a X.m c)/\aO (bQ X) X.m=true):=⟨hs,hrow⟩
 have hmm:=@run_makeMap prog;obtain ⟨W,hW⟩:∃ W,W=(w.alloc (.cells (tL X a X.m c).toArray 38)).alloc (.map #[] 0):=⟨_,rfl⟩
 obtain ⟨M,hM⟩:∃ M,M=w.heap.size+1:=⟨_,rfl⟩
 obtain ⟨B,hB⟩:∃ B,B=w.heap.size:=⟨_,rfl⟩
 have G0:Hid (cb w W M (cW X 0)/\Below w.heap.size w W):=by
  rw [hW,hM];have:=cZ.new (α:=VP) (w.alloc (.cells (tL X a X.m c).toArray 38));exact ⟨⟨[],0,by simpa using this,by omega,rfl,fun e he=>by cases he⟩,af (aa _ _) (aa _ _)⟩
 obtain ⟨⟨y0,y1⟩,yf⟩:=((by rw [hW,hB];exact (ae.new _ _ _).below (aa _ _):ae W B 38 (tL X a X.m c).toArray)).tc2;clear hs yf hrow;go_enter func100,ntmps100
 go_upto_region 2 with fail
 rw [<- hW,<- hM,<- hB];clear hW hM hmm hB;go_wp2;clear y0 y1;go_loopw [12] (fun i wr=>∃ (k:Nat),k<= X.m/\i=Vi k/\cb w wr M (cW X k)/\Below w.heap.size w wr) (fun i _=>X.m-(intOf i).toNat)
 case atStart=>exact ⟨0,Nat.zero_le _,rfl,G0.out⟩
 case round=>
  obtain ⟨k,hk,rfl,HH⟩:=hrel;by_cases hlt:k<X.m
  ·have hi:(k:Int)<(X.m:Int):=by omega
   obtain ⟨b,off,vs,rfl,_,hb0,hlen,hr,hrd⟩:=HS.out.1.at hlt;obtain ⟨a1,c1,a2,c2,a3,c3,a4,c4,a5,c5,rfl,r1,r2,r3,r4,r5⟩:=VD.cells hrd hlen;have hr9:=ay hr hb0 HH.2;have d09:wr.cell? ⟨b,off+k*13,none⟩=_:=hr9 0 _ rfl;have d19:=hr9 1 _ rfl;have d29:=hr9 2 _ rfl;have d39:=hr9 3 _ rfl;have d49:=hr9 4 _ rfl;have d59:=hr9 5 _ rfl;have d69:=hr9 6 _ rfl;have d79:=hr9 7 _ rfl;have d89:=hr9 8 _ rfl;have d99:=hr9 9 _ rfl;have d109:=hr9 10 _ rfl;have d119:=hr9 11 _ rfl;have d129:=hr9 12 _ rfl;have hnp:(X.f k).hs.length=(X.f k).np:=jo HS.out.2 hlt;have hn3:(X.f k).hs.length<= 8:=rt HS.out.2 hlt;have HE:Hid (Rd w 0 (.list 8 (X.f k).np (fun i=>ac (pT ((X.f k).pt i)))) (.slice a3 (X.f k).np c3)/\Rd w 0 (ai (X.f k).hs) (.slice a4 (X.f k).hs.length c4)/\(X.f k).hs.length=(X.f k).np):=⟨r3,r4,hnp⟩
   obtain ⟨W5,hW5⟩:∃ W5,W5=wr.alloc (.cells (dL (X.f k) a1 ((X.f k).q.ws.length) c1 a2 ((X.f k).q.bs.length) c2 a3 ((X.f k).np) c3 a4 ((X.f k).hs.length) c4 a5 ((X.f k).nt) c5).toArray 122):=⟨_,rfl⟩
   obtain ⟨G,hG⟩:∃ G,G=wr.heap.size:=⟨_,rfl⟩
   have bW:Below wr.heap.size wr W5:=by rw [hW5];exact aa _ _
   have HP:Hid (cb w W5 M (cW X k++eD (X.f k) 0)/\ae W5 G 122 (dL (X.f k) a1 ((X.f k).q.ws.length) c1 a2 ((X.f k).q.bs.length) c2 a3 ((X.f k).np) c3 a4 ((X.f k).hs.length) c4 a5 ((X.f k).nt) c5).toArray/\Below w.heap.size w W5):=⟨by rw [show eD (X.f k) 0=[] from rfl,List.append_nil];exact HH.1.below bW,by rw [hW5,hG];exact ae.new _ _ _,af HH.2 bW⟩
   have HG:Hid (M≠G/\w.heap.size<= M):=⟨by have:=HH.1.lt;omega,HH.1.lt.1⟩
   have cx:W5.cell? ⟨G,11,none⟩=some (.slice a4 (X.f k).hs.length c4):=HP.out.2.1.rng 11 _ rfl;clear HH hr hb0 r1 r2 r3 r4 r5 hlen hrd G0 bW hr9 hnp;go_upto_region 5 with fail
   rw [<- hW5,<- hG];clear hW5 hG d09 d19 d29 d39 d49 d59 d69 d79 d89 d99 d109 d119 d129;try go_simp
   go_wp2;clear cx;go_loopw [19] (fun i wr=>∃ (j:Nat),j<= (X.f k).hs.length/\i=Vi j/\cb w wr M (cW X k++eD (X.f k) j)/\ae wr G 122 (dL (X.f k) a1 ((X.f k).q.ws.length) c1 a2 ((X.f k).q.bs.length) c2 a3 ((X.f k).np) c3 a4 ((X.f k).hs.length) c4 a5 ((X.f k).nt) c5).toArray/\Below w.heap.size w wr) (fun i _=>(X.f k).hs.length-(intOf i).toNat)
   case atStart=>exact ⟨0,Nat.zero_le _,rfl,HP.out⟩
   case round=>
    obtain ⟨j,hj,rfl,HH⟩:=hrel;clear HP;by_cases hlj:j<(X.f k).hs.length
    ·have hi2:(j:Int)<((X.f k).hs.length:Int):=by omega
     have hi3:(j:Int)<((X.f k).np:Int):=by have:=HE.out.2.2;omega
     obtain ⟨b4,o4,rfl,hb4,d0⟩:=(HE.out.2.1.below HH.2.2).bit (n:=0) (k:=j) hlj;obtain ⟨b3,o3,vs,rfl,_,hb3,hlen,hr3,hrd⟩:=HE.out.1.at (k:=j) (by have:=HE.out.2.2;omega);obtain ⟨p1,k1,p2,k2,rfl,rp1,rp2⟩:=VP.cells hrd hlen;have HQ:Hid (b3<wr.heap.size/\wr.rangeAt b3 (o3+j*8) (pL ((X.f k).pt j) p1 ((X.f k).pt j).q.ws.length k1 p2 ((X.f k).pt j).q.bs.length k2)/\aV w 0 (ac (pT ((X.f k).pt j))) (pL ((X.f k).pt j) p1 ((X.f k).pt j).q.ws.length k1 p2 ((X.f k).pt j).q.bs.length k2)/\b6 (X.f k).id (j:Int) (cW X k++eD (X.f k) j) 0=none):=⟨Nat.lt_of_lt_of_le hb3 HH.2.2.size,ay hr3 hb3 HH.2.2,hrd,ti HS.out.2 hlt⟩
     clear hb4 hb3 hlen hr3 hrd rp1 rp2;obtain ⟨x,hx⟩:∃ x,(X.f k).hs.getD j false=x:=⟨_,rfl⟩
     rw [hx] at d0;have HB:Hid ((X.f k).hs.getD j false=x):=hx;have HK:Hid (cb w wr M (cW X k++eD (X.f k) j)/\ae wr G 122 (dL (X.f k) a1 ((X.f k).q.ws.length) c1 a2 ((X.f k).q.bs.length) c2 (some ⟨b3,o3,none⟩) ((X.f k).np) c3 (some ⟨b4,o4,none⟩) ((X.f k).hs.length) c4 a5 ((X.f k).nt) c5).toArray/\Below w.heap.size w wr):=HH;clear hx HH;cases x with
     |true=>
      go_wp2;go_roundw
      case rel=>exact ⟨j+1,by omega,by go_num,by rw [show eD (X.f k) (j+1)=eD (X.f k) j from by rw [eD,HB.out];simp];exact HK.out.1,HK.out.2⟩
      case measure=>simp [intOf];omega
     |false=>
     go_upto_region 9 with fail
     clear d0;try go_simp
     refine wp_region_any (by kernel_rfl) ?_
     refine fm 10 (fun u=>Below wr.heap.size wr u) (fun j' σ u=>cb w u M (cW X k++eD (X.f k) (j+1))/\ae u G 122 (dL (X.f k) a1 ((X.f k).q.ws.length) c1 a2 ((X.f k).q.bs.length) c2 (some ⟨b3,o3,none⟩) ((X.f k).np) c3 (some ⟨b4,o4,none⟩) ((X.f k).hs.length) c4 a5 ((X.f k).nt) c5).toArray/\Below w.heap.size w u) (fun i v u=>match i with
      |0=>v=.map (some M)
      |1=>v=Vp G 0
      |2=>v=Vi (X.f k).id
      |3=>v=Vi (j:Int)
      |4=>v=.agg #[Vi (X.f k).id,Vi (j:Int)]
      |5=>v=Vp G 10
      |6=>v=.slice (some ⟨b3,o3,none⟩) ((X.f k).np) c3
      |7=>v=Vi (j:Int)
      |8=>v=Vp b3 (o3+j*8)
      |9=>v=.agg (pL ((X.f k).pt j) p1 ((X.f k).pt j).q.ws.length k1 p2 ((X.f k).pt j).q.bs.length k2).toArray
      |_=>True) (by kernel_rfl) (by kernel_rfl) (by decide) (by kernel_rfl) (fun u u' h hb=>af h hb) ?_ (by first|exact Br|exact Br.drew) ?_ ?_ ?_ ?_ _ _ rfl (by decide) (fun i=>by simp [Array.getD];try (split <;> rfl))
     ·intro i v u u' h hb
      match i,h with
      |0,h=>exact h
      |1,h=>exact h
      |2,h=>exact h
      |3,h=>exact h
      |4,h=>exact h
      |5,h=>exact h
      |6,h=>exact h
      |7,h=>exact h
      |8,h=>exact h
      |9,h=>exact h
      |_+10,_=>trivial
     rotate_left
     ·intro u i o ρ hi hR ho hρ hc hf hd
      obtain rfl|rfl|rfl|rfl|rfl|rfl|rfl|rfl|rfl|rfl:i=0\/i=1\/i=2\/i=3\/i=4\/i=5\/i=6\/i=7\/i=8\/i=9:=by omega
      all_goals (simp only [List.getElem?_toArray,List.getElem?_cons_zero,List.getElem?_cons_succ,Option.some.injEq] at ho;subst ho)
      ·have s3:ρ (.tmp 3)=.map (some M):=(hρ 3 (by kernel_rfl)).trans rfl
       exact .inl ⟨rfl,.inl ⟨_,u,rfl,s3,Br⟩⟩
      ·have s5:ρ (.tmp 5)=Vp G 0:=(hρ 5 (by kernel_rfl)).trans rfl
       exact .inl ⟨rfl,.inl ⟨Vp G 0,u,ao rfl s5 (by go_simp),rfl,Br⟩⟩
      ·have h1:ρ (.tmp 27)=Vp G 0:=dq hd 1 27
       have y9:u.cell? ⟨G,0,none⟩=some (Vi (X.f k).id):=(HK.out.2.1.below hR).rng 0 _ rfl;have hr:(Instr.loadAt 3 (Vp G 0)).run prog u=.ok (Vi (X.f k).id) u:=by go_simp
       exact .inl ⟨rfl,.inl ⟨Vi (X.f k).id,u,ah rfl h1 hr,rfl,Br⟩⟩
      ·have s6:ρ (.tmp 6)=Vi (j:Int):=(hρ 6 (by kernel_rfl)).trans rfl
       exact .inl ⟨rfl,.inl ⟨_,u,rfl,s6,Br⟩⟩
      ·have h2:ρ (.tmp 28)=Vi (X.f k).id:=dq hd 2 28
       have h3:ρ (.tmp 29)=Vi (j:Int):=dq hd 3 29;exact .inl ⟨rfl,.inl ⟨_,u,jX rfl (qs:=#[(0,Vi (X.f k).id),(1,Vi (j:Int))]) (by simp [h2,h3]) (by kernel_rfl),rfl,Br⟩⟩
      ·have s5:ρ (.tmp 5)=Vp G 0:=(hρ 5 (by kernel_rfl)).trans rfl
       exact .inl ⟨rfl,.inl ⟨Vp G 10,u,ao rfl s5 (by go_simp),rfl,Br⟩⟩
      ·have h5:ρ (.tmp 31)=Vp G 10:=dq hd 5 31
       have y9:u.cell? ⟨G,10,none⟩=some (.slice (some ⟨b3,o3,none⟩) ((X.f k).np) c3):=(HK.out.2.1.below hR).rng 10 _ rfl;have hr:(Instr.loadAt 119 (Vp G 10)).run prog u=.ok (.slice (some ⟨b3,o3,none⟩) ((X.f k).np) c3) u:=by go_simp
       exact .inl ⟨rfl,.inl ⟨.slice (some ⟨b3,o3,none⟩) ((X.f k).np) c3,u,ah rfl h5 hr,rfl,Br⟩⟩
      ·have s6:ρ (.tmp 6)=Vi (j:Int):=(hρ 6 (by kernel_rfl)).trans rfl
       exact .inl ⟨rfl,.inl ⟨_,u,rfl,s6,Br⟩⟩
      ·have h6:ρ (.tmp 32)=.slice (some ⟨b3,o3,none⟩) ((X.f k).np) c3:=dq hd 6 32
       have h7:ρ (.tmp 33)=Vi (j:Int):=dq hd 7 33;exact .inl ⟨rfl,.inl ⟨Vp b3 (o3+j*8),u,au rfl h6 h7 (by go_simp),rfl,Br⟩⟩
      have h8:ρ (.tmp 34)=Vp b3 (o3+j*8):=dq hd 8 34;have hr:(Instr.loadAt 128 (Vp b3 (o3+j*8))).run prog u=.ok (.agg (pL ((X.f k).pt j) p1 ((X.f k).pt j).q.ws.length k1 p2 ((X.f k).pt j).q.bs.length k2).toArray) u:=run_loadAt_mid u b3 (o3+j*8) 128 (pL ((X.f k).pt j) p1 ((X.f k).pt j).q.ws.length k1 p2 ((X.f k).pt j).q.bs.length k2) _ (ay HQ.out.2.1 HQ.out.1 hR) underlying128 rfl (by kernel_rfl);exact .inl ⟨rfl,.inl ⟨.agg (pL ((X.f k).pt j) p1 ((X.f k).pt j).q.ws.length k1 p2 ((X.f k).pt j).q.bs.length k2).toArray,u,ah rfl h8 hr,rfl,Br⟩⟩
     ·intro u o ρ hR ho hρ hc hf hv
      simp only [List.getElem?_toArray,List.getElem?_cons_zero,List.getElem?_cons_succ,Option.some.injEq] at ho;subst ho;have h0:ρ (.tmp 26)=.map (some M):=hv 0 26 (by decide) rfl;have h4:ρ (.tmp 30)=.agg #[Vi (X.f k).id,Vi (j:Int)]:=hv 4 30 (by decide) rfl;have h9:ρ (.tmp 35)=.agg (pL ((X.f k).pt j) p1 ((X.f k).pt j).q.ws.length k1 p2 ((X.f k).pt j).q.bs.length k2).toArray:=hv 9 35 (by decide) rfl;have bb:=af HK.out.2.2 hR;obtain ⟨w',hrun,hM,hg⟩:=(HK.out.1.below hR).put ql underlying138 (X.f k).id (j:Int) ((X.f k).pt j) (pL ((X.f k).pt j) p1 ((X.f k).pt j).q.ws.length k1 p2 ((X.f k).pt j).q.bs.length k2) HQ.out.2.2.2 rfl HQ.out.2.2.1;exact ⟨rfl,.inr (.inr ⟨rfl,w',tf rfl h0 h4 h9 hrun,(by rw [show eD (X.f k) (j+1)=eD (X.f k) j++[((X.f k).id,(j:Int),(X.f k).pt j)] from by rw [eD,HB.out];rfl,<- List.append_assoc];exact hM),(HK.out.2.1.below hR).grown hg (fun e=>HG.out.1 (Option.some.inj e)),bb.grown hg bb.size (fun j hj=>by obtain rfl:=Option.some.inj hj;exact HG.out.2)⟩)⟩
     ·intro u i o ρ hi ho hE hρ hc hf
      have hi2:i+1<11:=by
       have:=(Array.getElem?_eq_some_iff.1 ho).1;simpa using this
      omega
     intro vs σ u hE hvs;have H2:Hid (cb w u M (cW X k++eD (X.f k) (j+1))/\ae u G 122 (dL (X.f k) a1 ((X.f k).q.ws.length) c1 a2 ((X.f k).q.bs.length) c2 (some ⟨b3,o3,none⟩) ((X.f k).np) c3 (some ⟨b4,o4,none⟩) ((X.f k).hs.length) c4 a5 ((X.f k).nt) c5).toArray/\Below w.heap.size w u):=hE;simp only [bI];clear hvs hE HK HQ HB;try go_simp
     go_wp2;go_roundw
     case rel=>exact ⟨j+1,by omega,by go_num,H2.out⟩
     case measure=>simp [intOf];omega
    have hi2:¬ (j:Int)<((X.f k).hs.length:Int):=by omega
    have e9:j=(X.f k).hs.length:=by omega
    have HK:Hid (cb w wr M (cW X (k+1))/\Below w.heap.size w wr):=⟨by rw [e9] at HH;exact HH.1,HH.2.2⟩
    clear HH e9;go_wp2;go_roundw
    case rel=>exact ⟨k+1,by omega,by go_num,HK.out⟩
    case measure=>simp [intOf];omega
  have hi:¬ (k:Int)<(X.m:Int):=by omega
  have e9:k=X.m:=by omega
  have HK:Hid (cb w wr M (cW X X.m)/\Below w.heap.size w wr):=by rw [<- e9];exact HH
  clear HH G0 e9;go_wp2;go_ret;exact ⟨M,rfl,HK.out⟩
def tK(w:World)(M:Nat)(x y:Int)(v:Value):Prop:=(Instr.lookup 138 (.map (some M)) (.agg #[Vi x,Vi y]) true).run prog w=.ok v w
def yy(w:World)(M:Nat)(x y:Int)(w':World):Prop:=∀ ty,(Builtin.delete_ #[138,142] ty #[.map (some M),.agg #[Vi x,Vi y]]).run prog w=.ok (.tuple #[]) w'
theorem rB(w:World):(zeroValue 128).run prog w=.ok (.agg #[Vi 0,Vi 0,Vi 0,Vi 0,Vi 0,Zs,Zs,Vi 0]) w:=by kernel_rfl
theorem cb.lkN{w0 w:World}{M:Nat}{O:List (Int × Int × VP)}(h:cb w0 w M O){x y:Int}(hx:b6 x y O 0=none):tK w M x y (.tuple #[.agg #[Vi 0,Vi 0,Vi 0,Vi 0,Vi 0,Zs,Zs,Vi 0],.bool false]):=by
 obtain ⟨l,c,h1,h2,h3,h4⟩:=h;have h5:=cb.ix h3 x y;rw [hx] at h5;have h6:=h1.look underlying138 ql (rB w) x y;unfold tK;cases e:b6 x y l 0 with
 |none=>rw [e] at h6;exact h6
 |some r=>rw [e] at h5;cases h5
theorem cb.lkS{w0 w:World}{M:Nat}{O:List (Int × Int × VP)}(h:cb w0 w M O){x y:Int}{r:Nat × VP}(hx:b6 x y O 0=some r):∃ vs,vs.length=8/\aV w0 0 (ac (pT r.2)) vs/\tK w M x y (.tuple #[.agg vs.toArray,.bool true]):=by
 obtain ⟨l,c,h1,h2,h3,h4⟩:=h;have h5:=cb.ix h3 x y;rw [hx] at h5;have h6:=h1.look underlying138 ql (rB w) x y;unfold tK;cases e:b6 x y l 0 with
 |none=>rw [e] at h5;cases h5
 |some r'=>
  rw [e] at h5 h6;obtain rfl:=Option.some.inj h5;obtain ⟨k,e',_,k2,_,_,k5⟩:=fS e;have h9:=h4 e' (List.mem_of_getElem? k2);rw [k5] at h9;exact ⟨r'.2.2.1,h9.1,h9.2,h6⟩
theorem cb.dl{w0 w:World}{M:Nat}{O:List (Int × Int × VP)}(h:cb w0 w M O){x y:Int}{r:Nat × VP}(hx:b6 x y O 0=some r):∃ w',yy w M x y w'/\cb w0 w' M (O.eraseIdx r.1)/\w.grownBy w' (some M):=by
 obtain ⟨l,c,h1,h2,h3,h4⟩:=h;have h5:=cb.ix h3 x y;rw [hx] at h5;cases e:b6 x y l 0 with
 |none=>rw [e] at h5;cases h5
 |some r'=>
  rw [e] at h5;obtain rfl:=Option.some.inj h5;refine ⟨_,fun ty=>h1.del (ty:=ty) (A:=#[138,142]) rfl underlying138 ql x y e,⟨_,_,cZ.set h1.lt,h2,?_,fun e' he=>h4 e' (List.mem_of_mem_eraseIdx he)⟩,io w M _⟩
  rw [<- h3];exact (gh _ _ _).symm
theorem cb.len{w0 w:World}{M:Nat}{O:List (Int × Int × VP)}(h:cb w0 w M O)(ty:TypeId):(Builtin.len_ #[138] ty #[.map (some M)]).run prog w=.ok (Vi (O.length:Int)) w:=by
 obtain ⟨l,c,h1,h2,h3,h4⟩:=h;rw [<- h3,List.length_map];exact h1.len underlying138
theorem kM{P:Program}{ops:Array Oper}{rest:List Oper}{o:Oper}{a:Act}{w:World}{Q:Exit->Act->World->Prop}(hgd:o.guard=none)(m x:Operand)(t:TypeId)(hop:o.op=.lookup t m x true)(vm vk v:Value)(hm:a.eval m=vm)(hk:a.eval x=vk)(hr:(Instr.lookup t vm vk true).run P w=.ok v w)(h:wpList P ops Q rest (a.put o.dst v) w):wpList P ops Q (o:: rest) a w:=by
 refine wpList_plain hgd fun K hK=>?_
 unfold Oper.wp execOp;simp only [hop,hm,hk];rw [Sem.run_bind,hr];exact hK _ _ h
theorem qm{P:Program}{ops:Array Oper}{rest:List Oper}{o:Oper}{a:Act}{w w':World}{Q:Exit->Act->World->Prop}(hgd:o.guard=none)(m x:Operand)(A:Array TypeId)(hop:o.op=.call { callee:=.builtin .delete,args:=#[m,x],argTypes:=A })(vm vk v:Value)(hm:a.eval m=vm)(hk:a.eval x=vk)(hr:∀ ty,(Builtin.delete_ A ty #[vm,vk]).run P w=.ok v w')(h:wpList P ops Q rest (a.put o.dst v) w'):wpList P ops Q (o:: rest) a w:=by
 refine wpList_plain hgd fun K hK=>?_
 unfold Oper.wp execOp;simp only [hop,resolve,invoke,builtin,Sem.run_bind,Sem.run_pure,Result.andThen_ok,List.map_toArray,List.map_cons,List.map_nil,hm,hk,hr];exact hK _ _ h
theorem kN{P:Program}{ops:Array Oper}{rest:List Oper}{o:Oper}{a:Act}{w:World}{Q:Exit->Act->World->Prop}(hgd:o.guard=none)(m:Operand)(t:TypeId)(hop:o.op=.call { callee:=.builtin .len,args:=#[m],argTypes:=#[t] })(vm v:Value)(hm:a.eval m=vm)(hr:∀ ty,(Builtin.len_ #[t] ty #[vm]).run P w=.ok v w)(h:wpList P ops Q rest (a.put o.dst v) w):wpList P ops Q (o:: rest) a w:=by
 refine wpList_plain hgd fun K hK=>?_
 unfold Oper.wp execOp;simp only [hop,resolve,invoke,builtin,Sem.run_bind,Sem.run_pure,Result.andThen_ok,List.map_toArray,List.map_cons,List.map_nil,hm,hr];exact hK _ _ h
def eC(X:VF)(k i:Nat):List (Int × Int × (VP->Bool)):=((dp (X.lf k)).map (gH k)).drop i++gT X.lf (k+1) (X.nl-(k+1))
theorem rC{X:VF}{k:Nat}(h:k<X.nl):eC X k 0=gT X.lf k (X.nl-k):=by
 unfold eC gT;rw [show X.nl-k=(X.nl-(k+1))+1 by omega];rfl
theorem nL{X:VF}{k:Nat}:eC X k (dp (X.lf k)).length=gT X.lf (k+1) (X.nl-(k+1)):=by
 unfold eC;rw [List.drop_eq_nil_of_le (by simp),List.nil_append]
theorem jr{X:VF}{k i:Nat}(h:i<(dp (X.lf k)).length):eC X k i=gH k (aU (X.lf k) i):: eC X k (i+1):=by
 unfold eC;rw [List.drop_eq_getElem_cons (by simpa using h),List.cons_append,List.getElem_map];congr 2
 unfold aU;rw [List.getD_eq_getElem?_getD,List.getElem?_eq_getElem h];rfl
theorem tj{R:List (Int × Int × VP)}{c:Int × Int × (VP->Bool)}{cs:List (Int × Int × (VP->Bool))}(h:b6 c.1 c.2.1 R 0=none):fI R (c:: cs)=false:=by
 unfold fI;rw [h]
theorem tk{R:List (Int × Int × VP)}{c:Int × Int × (VP->Bool)}{cs:List (Int × Int × (VP->Bool))}{r:Nat × VP}(h:b6 c.1 c.2.1 R 0=some r):fI R (c:: cs)=(c.2.2 r.2 && fI (R.eraseIdx r.1) cs):=by
 conv=>lhs;unfold fI
 rw [h]
theorem rD{N:VN}(h:jF N){i:Nat}(hi:i<(dp N).length):cV (aU N i).q:=by
 unfold aU;rw [List.getD_eq_getElem?_getD];cases hb:N.bz with
 |true=>
  cases i with
  |zero=>rw [gp hb];exact ⟨h.2.2.1,h.2.2.2⟩
  |succ j=>
   rw [eV,hb] at hi;simp only [if_true] at hi;rw [ij hb (by omega)];exact h.2.1 j (by omega)
 |false=>
  rw [eV,hb] at hi;simp only [Bool.false_eq_true,if_false] at hi;rw [ik hb (by omega)];exact h.2.1 i (by omega)
theorem wQ{X:VT}(h:kK X)(hrow:aO (bQ X) X.m=true){n:Nat}(hn:n<= X.m){e:Int × Int × VP}(he:e ∈ cW X n):cV e.2.2.q:=by
 obtain ⟨k,hk,hm⟩:=ft.1 he;obtain ⟨i,hi,_,rfl⟩:=et.1 hm;rw [jo hrow (by omega)] at hi;exact (h.2 k (by omega)).2.2.2.2.1 i hi
theorem eP.ln{w w':World}{g o k:Nat}{X:VF}(h:eP w g o X)(hk:k<X.nl)(hb:Below w.heap.size w w'){a:OA}{n c:Nat}(hc:w'.cell? ⟨g,o+6,none⟩=some (.slice a n c)):∃ (g0 f0:Nat) (cc:Nat) (ss:Unit),a=some ⟨g0,f0,none⟩/\True/\True/\True/\True/\True/\tg w g0 (f0+k*17) (X.lf k):=by
 obtain ⟨a1,c1,a2,c2,a3,c3,⟨y0,y1,y2,y3,y4,y5,y6,y7,y8,y9,y10⟩,r1,r2,r3⟩:=h.tc;have e:=(hb.cell (p:=⟨g,o+6,none⟩) h.1).trans y6;rw [hc] at e;simp only [Option.some.injEq,Value.slice.injEq] at e;obtain ⟨rfl,-,-⟩:=e;obtain ⟨b,off,vs,rfl,_,hb0,hlen,hr,hrd⟩:=r3.at hk;exact ⟨b,off,0,(),rfl,trivial,trivial,trivial,trivial,trivial,hb0,vs,hlen,hr,hrd⟩
theorem lD(X:VF)(g o:Nat)(w:World)(h:eP w g o X)(hrow:aO (bQ X.op) X.op.m=true)(hm:X.op.m<= 16)(hn:X.nl<= 6)(hb:∀ k,k<X.nl->jF (X.lf k))(hbt:kK X.op)(hq:∀ k,k<X.nl->(dp (X.lf k)).length<= 41):
 Calls prog 63 #[Vp g o] w fun e w'=>e=.returned (.bool (cw X))/\Below w.heap.size w w':=by
 have HP:Hid (eP w g o X/\(∀ k,k<X.nl->jF (X.lf k))/\kK X.op/\aO (bQ X.op) X.op.m=true/\(∀ k,k<X.nl->(dp (X.lf k)).length<= 41)):=⟨h,hb,hbt,hrow,hq⟩
 obtain ⟨a1,c1,a2,c2,a3,c3,⟨y0,y1,y2,y3,y4,y5,y6,y7,y8,y9,y10⟩,r1,r2,r3⟩:=h.tc;have HR:Hid (Rd w 0 (.list 13 X.op.m (fun i=>ac (dT (X.op.f i)))) (.slice a2 X.op.m c2)):=r2;clear r1 r2 r3 h hb hbt hrow hq;go_enter func63,ntmps63
 go_wp2_with fail
 refine (mC X.op a2 c2 _ HR.out HP.out.2.2.2.1 hm).mono ?_;rintro e w1 ⟨M,rfl,hM,b1⟩;have G0:Hid (cb w w1 M (cW X.op X.op.m)/\Below w.heap.size w w1):=⟨hM,b1⟩
 clear hM b1 y0 y1 y2 y3 y4 y5 y6 y7 y8 y9 y10;obtain ⟨f1,k1,f2,k2,f3,k3,⟨y0,y1,y2,y3,y4,y5,y6,y7,y8,y9,y10⟩,r1,r2,r3⟩:=(HP.out.1.below G0.out.2).tc;clear r1 r2 r3 HR;go_wp2;clear y0 y1 y2 y3 y4 y5 y6 y7 y8 y9 y10;go_loopw [20] (fun i wr=>∃ (k:Nat) (R:List (Int × Int × VP)),k<= X.nl/\i=Vi k/\cb w wr M R/\cw X=fI R (gT X.lf k (X.nl-k))/\(∀ e ∈ R,cV e.2.2.q)/\Below w.heap.size w wr) (fun i _=>X.nl-(intOf i).toNat)
 case atStart=>exact ⟨0,_,Nat.zero_le _,rfl,G0.out.1,rfl,fun e he=>wQ HP.out.2.2.1 HP.out.2.2.2.1 Nl he,G0.out.2⟩
 case round=>
  clear G0;obtain ⟨k,R,hk,rfl,HH⟩:=hrel;obtain ⟨f1,k1,f2,k2,f3,k3,⟨y0,y1,y2,y3,y4,y5,y6,y7,y8,y9,y10⟩,r1,r2,r3⟩:=(HP.out.1.below HH.2.2.2).tc;clear r1 r2;by_cases hlt:k<X.nl
  ·have hi:(k:Int)<(X.nl:Int):=by omega
   obtain ⟨g0,ff,cc,ss,hh1,hh2,hh3,hh4,hh5,hh6,hLn⟩:=eP.ln HP.out.1 hlt HH.2.2.2 y6;subst hh1;have HK:Hid (cb w wr M R/\cw X=fI R (eC X k 0)/\(∀ e ∈ R,cV e.2.2.q)/\Below w.heap.size w wr/\tg w g0 (ff+k*17) (X.lf k)):=⟨HH.1,by rw [rC hlt];exact HH.2.1,HH.2.2.1,HH.2.2.2,hLn⟩
   clear HH r3 hLn hh2 hh3 hh4 hh5 hh6;go_wp2_with fail
   refine (ry (X.lf k) g0 (ff+k*17) w _ HK.out.2.2.2.1 HK.out.2.2.2.2 (HP.out.2.1 k hlt).1).mono ?_;rintro e w2 ⟨v,rfl,hC,b2⟩;obtain ⟨av,cv,rfl,hle,_⟩:=id hC;have hq41:(dp (X.lf k)).length<= 41:=HP.out.2.2.2.2 k hlt;have HS:Hid (cb w w2 M R/\cw X=fI R (eC X k 0)/\(∀ e ∈ R,cV e.2.2.q)/\ed w wr.heap.size w2 9 (.slice av (dp (X.lf k)).length cv) (dp (X.lf k)).length (fun i=>aJ (aU (X.lf k) i))/\Below w.heap.size w w2):=⟨HK.out.1.below b2,HK.out.2.1,HK.out.2.2.1,hC,af HK.out.2.2.2.1 b2⟩
   have HM:Hid (w.heap.size<= M/\M<wr.heap.size):=HK.out.1.lt;clear hC b2 y0 y1 y2 y3 y4 y5 y6 y7 y8 y9 y10 HK;obtain ⟨LO,hLO⟩:∃ n,n=wr.heap.size:=⟨_,rfl⟩
   rw [<- hLO] at HS HM;clear hLO;obtain ⟨nc,hnc⟩:∃ n,n=(dp (X.lf k)).length:=⟨_,rfl⟩
   rw [<- hnc] at HS hq41 hle;have HN:Hid (nc=(dp (X.lf k)).length):=hnc;rw [<- hnc];clear hnc;go_wp2;go_loopw [31] (fun i wr=>∃ (i':Nat) (R:List (Int × Int × VP)),i'<= nc/\i=Vi i'/\cb w wr M R/\cw X=fI R (eC X k i')/\(∀ e ∈ R,cV e.2.2.q)/\ed w LO wr 9 (.slice av nc cv) nc (fun i=>aJ (aU (X.lf k) i))/\Below w.heap.size w wr) (fun i _=>nc-(intOf i).toNat)
   case atStart=>exact ⟨0,R,Nat.zero_le _,rfl,HS.out⟩
   case round=>
    clear HS;obtain ⟨i,R,hk2,rfl,HH⟩:=hrel;by_cases hlj:i<nc
    ·have hi2:(i:Int)<(nc:Int):=by omega
     obtain ⟨g1,o1,vs,rfl,hg1,hvl,hr,hrd⟩:=HH.2.2.2.1.at hlj;obtain ⟨e1,k1,e2,k2,rfl,q1,q2⟩:=VL.cells hrd hvl;have HQ:Hid (aV w 0 (ac (aJ (aU (X.lf k) i))) (bh (aU (X.lf k) i) e1 (aU (X.lf k) i).q.ws.length k1 e2 (aU (X.lf k) i).q.bs.length k2)/\cV (aU (X.lf k) i).q):=⟨hrd,rD (HP.out.2.1 k hlt) (by have:=HN.out;omega)⟩
     have HK:Hid (_):=HH;have d09:wr.cell? ⟨g1,o1+i*9,none⟩=_:=hr 0 _ rfl;have d19:=hr 1 _ rfl;have d29:=hr 2 _ rfl;have d39:=hr 3 _ rfl;have d49:=hr 4 _ rfl;have d59:=hr 5 _ rfl;have d69:=hr 6 _ rfl;have d79:=hr 7 _ rfl;have d89:=hr 8 _ rfl;obtain ⟨W1,hW1⟩:∃ W,W=wr.alloc (.cells (bh (aU (X.lf k) i) e1 (aU (X.lf k) i).q.ws.length k1 e2 (aU (X.lf k) i).q.bs.length k2).toArray 88):=⟨_,rfl⟩
     obtain ⟨G1,hG1⟩:∃ G,G=wr.heap.size:=⟨_,rfl⟩
     obtain ⟨W2,hW2⟩:∃ W,W=W1.alloc (.cells #[Vi (aU (X.lf k) i).id,Vi (aU (X.lf k) i).pa] 142):=⟨_,rfl⟩
     obtain ⟨G2,hG2⟩:∃ G,G=W1.heap.size:=⟨_,rfl⟩
     have bW1:Below wr.heap.size wr W1:=by rw [hW1];exact aa _ _
     have bW2:Below W1.heap.size W1 W2:=by rw [hW2];exact aa _ _
     have HW:Hid (ae W1 G1 88 (bh (aU (X.lf k) i) e1 (aU (X.lf k) i).q.ws.length k1 e2 (aU (X.lf k) i).q.bs.length k2).toArray/\ae W2 G1 88 (bh (aU (X.lf k) i) e1 (aU (X.lf k) i).q.ws.length k1 e2 (aU (X.lf k) i).q.bs.length k2).toArray/\ae W2 G2 142 #[Vi (aU (X.lf k) i).id,Vi (aU (X.lf k) i).pa]/\Below wr.heap.size wr W2):=by
      have q:ae W1 G1 88 (bh (aU (X.lf k) i) e1 (aU (X.lf k) i).q.ws.length k1 e2 (aU (X.lf k) i).q.bs.length k2).toArray:=by rw [hW1,hG1];exact ae.new _ _ _
      exact ⟨q,q.below bW2,by rw [hW2,hG2];exact ae.new _ _ _,af bW1 bW2⟩
     clear HH hg1 hvl hr hrd q1 q2 bW1 bW2;go_upto_region 8 with fail
     rw [<- hW1,<- hG1];clear d09 d19 d29 d39 d49 d59 d69 d79 d89;have d0:W1.cell? ⟨G1,0,none⟩=some (Vi (aU (X.lf k) i).id):=HW.out.1.cell 0 rfl;have d1:W1.cell? ⟨G1,1,none⟩=some (Vi (aU (X.lf k) i).pa):=HW.out.1.cell 1 rfl;clear hW1 hG1;try go_simp
     go_upto_region 9 with fail
     rw [<- hW2,<- hG2];clear d0 d1 hW2 hG2;have d0:W2.cell? ⟨G2,0,none⟩=some (Vi (aU (X.lf k) i).id):=HW.out.2.2.1.cell 0 rfl;have d1:W2.cell? ⟨G2,1,none⟩=some (Vi (aU (X.lf k) i).pa):=HW.out.2.2.1.cell 1 rfl;have HM2:Hid (cb w W2 M R/\eC X k i=gH k (aU (X.lf k) i):: eC X k (i+1)):=⟨HK.out.1.below HW.out.2.2.2,jr (by have:=HN.out;omega)⟩
     cases hx:b6 (aU (X.lf k) i).id (aU (X.lf k) i).pa R 0 with
     |none=>
      have HL:=HM2.out.1.lkN hx;have HF:Hid (cw X=false/\Below w.heap.size w W2):=⟨by rw [HK.out.2.1,HM2.out.2];exact tj hx,af HK.out.2.2.2.2 HW.out.2.2.2⟩
      clear hx;go_upto_region 10 with (first|(at_lookup;refine kM rfl _ _ _ rfl _ _ _ rfl rfl HL ?_))
      clear d0 d1;go_wp2;go_ret;exact ⟨by rw [HF.out.1];rfl,af HF.out.2 (aa _ _)⟩
     |some r=>
      obtain ⟨ri,p⟩:=r;obtain ⟨vs,hvl,hrd,HL⟩:=HM2.out.1.lkS hx;obtain ⟨b1,d1',b2,d2',rfl,q1,q2⟩:=VP.cells hrd hvl
      have hmem:cV p.q:=by
       obtain ⟨k9,e9,_,m2,_,_,m5⟩:=fS hx;have:=HK.out.2.2.1 e9 (List.mem_of_getElem? m2);rw [m5] at this;exact this
      obtain ⟨W3,hW3⟩:∃ W,W=W2.alloc (.cells (pL p b1 p.q.ws.length d1' b2 p.q.bs.length d2').toArray 128):=⟨_,rfl⟩
      obtain ⟨G3,hG3⟩:∃ G,G=W2.heap.size:=⟨_,rfl⟩
      have bW3:Below W2.heap.size W2 W3:=by rw [hW3];exact aa _ _
      have HX:Hid (b6 (aU (X.lf k) i).id (aU (X.lf k) i).pa R 0=some (ri,p)):=hx
      have HV:Hid (ae W3 G1 88 (bh (aU (X.lf k) i) e1 (aU (X.lf k) i).q.ws.length k1 e2 (aU (X.lf k) i).q.bs.length k2).toArray/\ae W3 G2 142 #[Vi (aU (X.lf k) i).id,Vi (aU (X.lf k) i).pa]/\ae W3 G3 128 (pL p b1 p.q.ws.length d1' b2 p.q.bs.length d2').toArray/\Below w.heap.size w W3/\Below wr.heap.size wr W3/\Rd w 0 (aw p.q.ws) (.slice b1 p.q.ws.length d1')/\Rd w 0 (ai p.q.bs) (.slice b2 p.q.bs.length d2')/\cV p.q):=
       ⟨HW.out.2.1.below bW3,HW.out.2.2.1.below bW3,by rw [hW3,hG3];exact ae.new _ _ _,af (af HK.out.2.2.2.2 HW.out.2.2.2) bW3,af HW.out.2.2.2 bW3,q1,q2,hmem⟩
      clear hvl hrd q1 q2 hmem bW3 hx;go_upto_region 10 with (first|(at_lookup;refine kM rfl _ _ _ rfl _ _ _ rfl rfl HL ?_))
      rw [<- hW3,<- hG3];clear d0 d1 hW3 hG3 HL HW;try go_simp
      have z0:W3.cell? ⟨G3,0,none⟩=_:=HV.out.2.2.1.cell 0 rfl;have z1:W3.cell? ⟨G3,1,none⟩=_:=HV.out.2.2.1.cell 1 rfl;have z2:W3.cell? ⟨G3,2,none⟩=_:=HV.out.2.2.1.cell 2 rfl;have z3:W3.cell? ⟨G3,3,none⟩=_:=HV.out.2.2.1.cell 3 rfl;have z4:W3.cell? ⟨G3,4,none⟩=_:=HV.out.2.2.1.cell 4 rfl;have z5:W3.cell? ⟨G3,5,none⟩=_:=HV.out.2.2.1.cell 5 rfl;have z6:W3.cell? ⟨G3,6,none⟩=_:=HV.out.2.2.1.cell 6 rfl;have z7:W3.cell? ⟨G3,7,none⟩=_:=HV.out.2.2.1.cell 7 rfl;go_wp2_with fail
      refine (te (aU (X.lf k) i) p k G1 0 b1 d1' b2 d2' _ ⟨HV.out.1.lt,_,rfl,HV.out.1.rng,HQ.out.1.below HV.out.2.2.2.1⟩ (HV.out.2.2.2.2.2.1.below HV.out.2.2.2.1) (HV.out.2.2.2.2.2.2.1.below HV.out.2.2.2.1) HV.out.2.2.2.2.2.2.2 HQ.out.2).mono ?_;rintro e w4 ⟨rfl,b4⟩;obtain ⟨x,hxx⟩:∃ x,gG k (aU (X.lf k) i) p=x:=⟨_,rfl⟩
      rw [hxx]
      have HT:Hid (cw X=(x && fI (R.eraseIdx ri) (eC X k (i+1)))):=by
       rw [HK.out.2.1,HM2.out.2,tk (r:=(ri,p)) HX.out,<- hxx];rfl
      have B4:Hid (Below w.heap.size w w4/\Below wr.heap.size wr w4/\ae w4 G2 142 #[Vi (aU (X.lf k) i).id,Vi (aU (X.lf k) i).pa]):=⟨af HV.out.2.2.2.1 b4,af HV.out.2.2.2.2.1 b4,HV.out.2.1.below b4⟩
      clear b4 hxx z0 z1 z2 z3 z4 z5 z6 z7;cases x
      case false=>
       go_wp2;go_ret;exact ⟨by rw [HT.out];rfl,B4.out.1⟩
      have d0:w4.cell? ⟨G2,0,none⟩=some (Vi (aU (X.lf k) i).id):=B4.out.2.2.cell 0 rfl;have d1:w4.cell? ⟨G2,1,none⟩=some (Vi (aU (X.lf k) i).pa):=B4.out.2.2.cell 1 rfl;obtain ⟨w5,HD,hM5,hg5⟩:=(HK.out.1.below B4.out.2.1).dl HX.out
      have H5:Hid (cb w w5 M (R.eraseIdx ri)/\cw X=fI (R.eraseIdx ri) (eC X k (i+1))/\(∀ e ∈ R.eraseIdx ri,cV e.2.2.q)/\ed w LO w5 9 (.slice (some ⟨g1,o1,none⟩) nc cv) nc (fun i=>aJ (aU (X.lf k) i))/\Below w.heap.size w w5):=
       ⟨hM5,by rw [HT.out,Bool.true_and],fun e he=>HK.out.2.2.1 e (List.mem_of_mem_eraseIdx he),(HK.out.2.2.2.1.below B4.out.2.1).kept hg5 (fun j hj=>by obtain rfl:=Option.some.inj hj;exact HM.out),B4.out.1.grown hg5 B4.out.1.size (fun j hj=>by obtain rfl:=Option.some.inj hj;exact HM.out.1)⟩
      clear hM5 hg5;go_wp2_with (first|(at_delete;refine qm rfl _ _ _ rfl _ _ _ rfl rfl HD ?_))
      go_roundw
      case rel=>exact ⟨i+1,R.eraseIdx ri,by omega,by go_num,H5.out⟩
      case measure=>simp [intOf];omega
    have hi2:¬ (i:Int)<(nc:Int):=by omega
    have e9:i=(dp (X.lf k)).length:=by have:=HN.out;omega
    have HK:Hid (cb w wr M R/\cw X=fI R (gT X.lf (k+1) (X.nl-(k+1)))/\(∀ e ∈ R,cV e.2.2.q)/\Below w.heap.size w wr):=⟨HH.1,by rw [HH.2.1,e9,nL],HH.2.2.1,HH.2.2.2.2⟩
    clear HH e9;go_wp2;go_roundw
    case rel=>exact ⟨k+1,R,by omega,by go_num,HK.out⟩
    case measure=>simp [intOf];omega
  have hi:¬ (k:Int)<(X.nl:Int):=by omega
  have e9:X.nl-k=0:=by omega
  have HK:Hid (cb w wr M R/\cw X=R.isEmpty/\Below w.heap.size w wr):=⟨HH.1,by rw [HH.2.1,e9];rfl,HH.2.2.2⟩
  have hR:R.length<= 1000\/1000<R.length:=by omega
  clear HH e9 r3 hR;obtain ⟨nr,hnr⟩:∃ n,n=R.length:=⟨_,rfl⟩
  have HL:=HK.out.1.len;rw [<- hnr] at HL;have HE:Hid (cw X=(nr == 0)):=by rw [HK.out.2.1,hnr];cases R <;> rfl
  clear hnr;cases nr with
  |zero=>
   go_wp2_with (first|(at_len;refine kN rfl _ _ rfl _ _ rfl HL ?_))
   go_ret;exact ⟨by rw [HE.out];rfl,HK.out.2.2⟩
  |succ n=>
   have h0:((n:Int)+1 == 0)=false:=by simp;omega
   have HE':Hid (cw X=false):=HE.out;go_wp2_with (first|(at_len;refine kN rfl _ _ rfl _ _ rfl HL ?_))
   go_ret;exact ⟨by rw [HE'.out];first|rfl|simp [h0]|(simp;omega),HK.out.2.2⟩
end Go.Proofs.YtohikbpolofklaaGreat
namespace Go.Proofs.YtohikbpolofklaaGreat
open Go.RowKit Go.Proofs.Tryz
theorem jG(x most:Int)(w:World)(b:Bool)(hb:aB x 1 most=b):Calls prog 142 #[Vi x,Vi most] w fun e w'=>e=.returned (.bool b)/\w'=w:=by
 subst hb;unfold aB;by_cases h1:1<= x
 ·by_cases h2:x<= most
  ·rw [decide_eq_true (show 1<= x/\x<= most from ⟨h1,h2⟩)]
   go_enter func142,ntmps142
   go_wp2;go_ret;exact ⟨rfl,rfl⟩
  rw [decide_eq_false (show ¬ (1<= x/\x<= most) from fun h=>h2 h.2)];go_enter func142,ntmps142
  go_wp2;go_ret;exact ⟨rfl,rfl⟩
 rw [decide_eq_false (show ¬ (1<= x/\x<= most) from fun h=>h1 h.1)];go_enter func142,ntmps142
 go_wp2;go_ret;exact ⟨rfl,rfl⟩
theorem oO(x:Int)(w:World)(b:Bool)(hb:aB x 1 255=b):Calls prog 205 #[Vi x] w fun e w'=>e=.returned (.bool b)/\w'=w:=by
 go_enter func205,ntmps205
 go_wp2_with fail
 refine (jG _ _ _ _ hb).mono ?_;rintro e wx ⟨rfl,rfl⟩;go_wp2;go_ret;exact ⟨rfl,rfl⟩
def tB(kd fl pl nn:Int)(ws:List Int)(l1 l2:Nat):Bool:=
 if fl=0 then
  if kd=1\/kd=2 then aB l2 1 2000 && decide (l2 % 8=0)
  else if kd=3\/kd=4\/kd=23 then aB l1 1 125 && ce ws
  else if kd=5 then aB pl 0 65535 && decide (l2=1)
  else if kd=6 then aB pl 0 65535 && (decide (l1=1) && ce ws)
  else if kd=22 then aB pl 0 65535 && (decide (l1=2) && ce ws)
  else if kd=15 then aB pl 0 65535 && aB nn 1 1968
  else aB pl 0 65535 && aB nn 1 123
 else aB fl 1 255
def gV(kd fl pl nn:Int)(l1 l2:Nat):Bool:=
 if fl=0 then
  if kd=1\/kd=2 then bF false false false true pl nn l1 l2
  else if kd=3\/kd=4\/kd=23 then bF false false true false pl nn l1 l2
  else if kd=5 then bF true false false true pl nn l1 l2
  else if kd=6\/kd=22 then bF true false true false pl nn l1 l2
  else bF true true false false pl nn l1 l2
 else bF false false false false pl nn l1 l2
theorem tm{ws:List Int}{l1:Nat}(h1:l1=ws.length)(h:l1=0):ce ws=true:=by
 rw [h] at h1;rw [List.eq_nil_of_length_eq_zero h1.symm];rfl
theorem tn(kd fl pl nn:Int)(ws:List Int)(l1 l2:Nat)(h1:l1=ws.length)(hk:cR kd=true):dK kd fl pl nn ws l1 l2=(tB kd fl pl nn ws l1 l2 && gV kd fl pl nn l1 l2):=by
 have hnil:=tm h1;clear h1;have hk':=of_decide_eq_true hk;rw [Bool.eq_iff_iff];by_cases hf:fl=0
 ·subst hf
  obtain rfl|rfl|rfl|rfl|rfl|rfl|rfl|rfl|rfl|rfl:=hk'
  all_goals (
   simp [dK,ig,tB,gV,cR,aB,bF];cases hW:ce ws
   ·rw [hW] at hnil;simp at hnil;simp <;> omega
   simp;omega)
 by_cases hp:0<fl
 ·simp [dK,tB,gV,hk,aB,bF,hf,hp]
  cases hW:ce ws
  ·rw [hW] at hnil;simp at hnil;simp <;> omega
  simp;omega
 have e1:aB fl 0 255=false:=decide_eq_false (by omega);have e2:aB fl 1 255=false:=decide_eq_false (by omega);simp [dK,tB,hk,e1,e2,hf]
theorem kO(kd fl pl nn:Int)(a1 a2:OA)(l1 l2 c1 c2:Nat)(ws:List Int)(w:World)(h1:l1=ws.length)(s1:aZ w a1 ws)(hl1:ws.length<= 2000000)(hl2:l2<= 20000000)(hk:cR kd=true)(b:Bool)(hb:tB kd fl pl nn ws l1 l2=b):
 Calls prog 201 #[rp kd fl pl nn a1 a2 l1 l2 c1 c2] w fun e w'=>e=.returned (.bool b)/\Below w.heap.size w w':=by
 have H1:Hid (l1=ws.length):=h1;have B0:=aa w (.cells #[Vi kd,Vi fl,Vi pl,Vi nn,.slice a1 l1 c1,.slice a2 l2 c2] 162);have S1:=dM (s1.below B0);clear h1 s1;subst hb;by_cases h0:fl=0
 rotate_left
 ·go_enter func201,ntmps201
  go_wp2_with (go_at_call 205;refine (oO _ _ _ rfl).mono ?_;rintro e wx ⟨rfl,rfl⟩)
  go_ret;exact ⟨by simp [tB,h0],B0⟩
 subst h0;rcases of_decide_eq_true hk with rfl|rfl|rfl|rfl|rfl|rfl|rfl|rfl|rfl|rfl
 all_goals
  go_enter func201,ntmps201
  go_wp2_with (first
   |(go_at_call 142;refine (bo (jG _ _ _ _ rfl)).mono ?_;rintro e wx ⟨rfl,⟨hN,rfl⟩|⟨hN,rfl⟩⟩)
   |(go_at_call 106;refine (bo (bH _ _ _ rfl)).mono ?_;rintro e wx ⟨rfl,⟨hN,rfl⟩|⟨hN,rfl⟩⟩)
   |(go_at_call 195;refine (bo (eI _ _ _ ws _ H1.out S1.out hl1 _ rfl)).mono ?_;rintro e wx ⟨rfl,⟨hN,rfl⟩|⟨hN,rfl⟩⟩))
  all_goals
   go_ret;refine ⟨?_,B0⟩
   first|(simp [tB, *];done)|(simp [tB, *];omega)|(simp [tB, *];intro;omega)|(simp [tB, *];rw [Bool.eq_iff_iff];simp;omega)
end Go.Proofs.YtohikbpolofklaaGreat
