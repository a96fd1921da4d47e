/- Texts that the proof needs, joined: Mk0 Mk1 Mk4 Mk5 Tr7. -/
import Derived.Test.YtohikbpolofklaaGreatY2
set_option linter.unusedVariables false
set_option linter.unusedSimpArgs false
set_option maxHeartbeats 2000000
set_option maxRecDepth 20000
namespace Go.Proofs.YtohikbpolofklaaGreat
open Go.RowKit Go.Joins Go.Proofs.Tryz
inductive Sk where
 |leaf
 |row (g off s n:Nat) (K:Nat->Nat->Sk)
def Sk.bl:Sk->Nat->Prop
 | .leaf,_=>False
 | .row g _ s n K,b=>b=g\/∃ k j,k<n/\j<s/\(K k j).bl b
def Sk.ok:Sk->Prop
 | .leaf=>True
 | .row g _ s n K=>(∀ k j,k<n->j<s->(K k j).ok/\¬ (K k j).bl g)/\∀ k j k' j',k<n->j<s->k'<n->j'<s->(k≠k'\/j≠j')->∀ b,(K k j).bl b->¬ (K k' j').bl b
def aQ(w:World):Tr->Sk->Value->Prop
 | .leaf u,K,v=>K=.leaf/\v=u
 | .list s n f,.leaf,v=>n=0/\∃ a c,v=.slice a 0 c
 | .list s n f,.row g off s' n' K,v=>s'=s/\n'=n/\∃ c,v=.slice (some ⟨g,off,none⟩) n c/\n<= c/\n<= maxLen/\g<w.heap.size/\(∀ j,w.frozen? ⟨g,j,none⟩=false)/\
  ∀ k j,k<n->j<s->∃ u,w.cell? ⟨g,off+k*s+j,none⟩=some u/\aQ w (f k j) (K k j) u
theorem aQ.lt{w:World}{b:Nat}:∀ {t:Tr} {K:Sk} {v:Value},aQ w t K v->K.bl b->b<w.heap.size:=by
 intro t;induction t with
 |leaf u=>intro K v h hb;obtain ⟨rfl,_⟩:=h;exact hb.elim
 |list s n f ih=>
  intro K v h hb;cases K with
  |leaf=>exact hb.elim
  |row g off s' n' K=>
   obtain ⟨rfl,rfl,c,_,_,_,hg,_,hc⟩:=h;rcases hb with rfl|⟨k,j,hk,hj,hb⟩
   ·exact hg
   obtain ⟨u,_,hf⟩:=hc k j hk hj;exact ih k j hf hb
theorem aQ.same{w w':World}(hs:w.heap.size<= w'.heap.size):∀ {t:Tr} {K:Sk} {v:Value},aQ w t K v->(∀ b,K.bl b->w'.heap[b]? = w.heap[b]?)->aQ w' t K v:=by
 intro t;induction t with
 |leaf u=>intro K v h _;exact h
 |list s n f ih=>
  intro K v h hb;cases K with
  |leaf=>exact h
  |row g off s' n' K=>
   obtain ⟨rfl,rfl,c,h1,h2,h3,hg,hz,hc⟩:=h;have e:=hb g (.inl rfl);refine ⟨rfl,rfl,c,h1,h2,h3,Nat.lt_of_lt_of_le hg hs,fun j=>(World.frozen?_of_block (a:=⟨g,j,none⟩) e).trans (hz j),fun k j hk hj=>?_⟩
   obtain ⟨u,hu,hf⟩:=hc k j hk hj;exact ⟨u,(World.cell?_of_block (a:=⟨g,off+k*s'+j,none⟩) e).trans hu,ih k j hf (fun b hb'=>hb b (.inr ⟨k,j,hk,hj,hb'⟩))⟩
theorem aQ.below{w w':World}{t:Tr}{K:Sk}{v:Value}(h:aQ w t K v)(hb:Below w.heap.size w w'):aQ w' t K v:=h.same hb.size (fun b hb'=>hb.block b (h.lt hb'))
theorem aQ.rd{w:World}{lo:Nat}:∀ {t:Tr} {K:Sk} {v:Value},aQ w t K v->(∀ b,K.bl b->lo<= b)->Rd w lo t v:=by
 intro t;induction t with
 |leaf u=>intro K v h _;exact h.2
 |list s n f ih=>
  intro K v h hb;cases K with
  |leaf=>
   obtain ⟨rfl,a,c,rfl⟩:=h;exact ⟨a,c,rfl,Nat.zero_le _,Nat.zero_le _,.inl rfl⟩
  |row g off s' n' K=>
   obtain ⟨rfl,rfl,c,rfl,h2,h3,hg,hz,hc⟩:=h;refine ⟨_,c,rfl,h2,h3,.inr ⟨g,off,fun k=>(List.range s').map (fun j=>(w.cell? ⟨g,off+k*s'+j,none⟩).getD undef),rfl,hb g (.inl rfl),hg,fun k hk=>⟨by simp,fun j v hv=>?_⟩⟩⟩
   have hj:j<s':=by have:=(List.getElem?_eq_some_iff.1 hv).1;simpa using this
   obtain ⟨u,hu,hf⟩:=hc k j hk hj
   have e:v=u:=by
    rw [List.getElem?_map,List.getElem?_range hj] at hv;simp only [Option.map_some,Option.some.injEq] at hv;rw [<- hv,hu];rfl
   subst e;exact ⟨hu,ih k j hf (fun b hb'=>hb b (.inr ⟨k,j,hk,hj,hb'⟩))⟩
structure Cg(w w':World)(S:Nat->Prop):Prop where
 os:w'.os=w.os
 tape:w'.tape=w.tape
 output:w'.output=w.output
 size:w.heap.size<= w'.heap.size
 block:∀ g,g<w.heap.size->¬ S g->w'.heap[g]? = w.heap[g]?
theorem Cg.refl(w:World)(S:Nat->Prop):Cg w w S:=⟨rfl,rfl,rfl,Nl,fun _ _ _=>rfl⟩
theorem Cg.trans{a b c:World}{S:Nat->Prop}(h:Cg a b S)(k:Cg b c S):Cg a c S:=
 ⟨k.os.trans h.os,k.tape.trans h.tape,k.output.trans h.output,Nat.le_trans h.size k.size,fun g hg hn=>(k.block g (Nat.lt_of_lt_of_le hg h.size) hn).trans (h.block g hg hn)⟩
theorem Cg.mono{w w':World}{S S':Nat->Prop}(h:Cg w w' S)(hs:∀ g,S g->S' g):Cg w w' S':=⟨h.os,h.tape,h.output,h.size,fun g hg hn=>h.block g hg (fun q=>hn (hs g q))⟩
theorem Cg.ofBelow{w w':World}{S:Nat->Prop}(h:Below w.heap.size w w'):Cg w w' S:=⟨h.os,h.tape,h.output,h.size,fun g hg _=>h.block g hg⟩
theorem Cg.set{w w':World}{S:Nat->Prop}(h:Cg w w' S){p:Addr}(hp:S p.block)(u:Value):Cg w (w'.setCell p u) S:=
 h.trans ⟨rfl,rfl,rfl,by simp [World.setCell],fun g hg hn=>Below.heap_setCell _ _ _ _ (fun e=>hn (by rw [e];exact hp))⟩
theorem Cg.below{B:Nat}{W w w':World}{S:Nat->Prop}(hb:Below B W w)(hc:Cg w w' S)(hs:∀ g,S g->B<= g)(hB:B<= w.heap.size):Below B W w':=
 hb.trans ⟨hc.os,hc.tape,hc.output,hc.size,fun k hk=>hc.block k (by omega) (fun q=>by have:=hs k q;omega)⟩
theorem aQ.cg{w w':World}{S:Nat->Prop}{t:Tr}{K:Sk}{v:Value}(h:aQ w t K v)(hc:Cg w w' S)(hd:∀ b,K.bl b->¬ S b):aQ w' t K v:=h.same hc.size (fun b hb=>hc.block b (h.lt hb) (hd b hb))
theorem aQ.congr{w:World}{s n:Nat}{f f':Nat->Nat->Tr}{K:Sk}{v:Value}(h:aQ w (.list s n f) K v)(he:∀ k j,k<n->j<s->f k j=f' k j):aQ w (.list s n f') K v:=by
 cases K with
 |leaf=>exact h
 |row g off s' n' K=>
  obtain ⟨rfl,rfl,c,h1,h2,h3,hg,hz,hc⟩:=h;exact ⟨rfl,rfl,c,h1,h2,h3,hg,hz,fun k j hk hj=>by rw [<- he k j hk hj];exact hc k j hk hj⟩
theorem aQ.row{w:World}{s n m c:Nat}{a:OA}{f:Nat->Nat->Tr}{K:Sk}(h:aQ w (.list s n f) K (.slice a m c))(h0:0<n):∃ g off K',K=.row g off s n K'/\a=some ⟨g,off,none⟩/\m=n/\n<= c/\n<= maxLen/\g<w.heap.size/\∀ j,w.frozen? ⟨g,j,none⟩=false:=by
 cases K with
 |leaf=>obtain ⟨e,_⟩:=h;omega
 |row g off s' n' K=>
  obtain ⟨rfl,rfl,c',h1,h2,h3,hg,hz,hc⟩:=h;simp only [Value.slice.injEq] at h1;obtain ⟨rfl,rfl,rfl⟩:=h1;exact ⟨g,off,K,rfl,rfl,rfl,h2,h3,hg,hz⟩
theorem aQ.len{w:World}{s n m c:Nat}{a:OA}{f:Nat->Nat->Tr}{K:Sk}(h:aQ w (.list s n f) K (.slice a m c)):m=n/\n<= c/\n<= maxLen:=by
 cases K with
 |leaf=>
  obtain ⟨rfl,a',c',h1⟩:=h;simp only [Value.slice.injEq] at h1;exact ⟨h1.2.1,Nat.zero_le _,Nat.zero_le _⟩
 |row g off s' n' K=>
  obtain ⟨rfl,rfl,c',h1,h2,h3,_⟩:=h;simp only [Value.slice.injEq] at h1;obtain ⟨-,rfl,rfl⟩:=h1;exact ⟨rfl,h2,h3⟩
theorem tq{s k j k' j':Nat}(hj:j<s)(hj':j'<s)(h:k≠k'\/j≠j')(off:Nat):off+k*s+j≠off+k'*s+j':=by
 intro e;have e':k*s+j=k'*s+j':=by omega
 have h1:(k*s+j) / s=k:=by rw [Nat.mul_comm,Nat.mul_add_div (by omega),Nat.div_eq_of_lt hj,Nat.add_zero]
 have h2:(k'*s+j') / s=k':=by rw [Nat.mul_comm,Nat.mul_add_div (by omega),Nat.div_eq_of_lt hj',Nat.add_zero]
 have e1:k=k':=by rw [<- h1,<- h2,e']
 subst e1;rcases h with h|h
 ·exact h rfl
 omega
def gW(z:Nat)(L:List Tr)(T0:Nat->Nat->Tr):Nat->Nat->Tr:=fun i=>if i=z then ac L else T0 i
theorem fZ(z:Nat)(L:List Tr)(T0:Nat->Nat->Tr):gW z L T0 z=ac L:=by simp [gW]
theorem kQ{z i:Nat}(L:List Tr)(T0:Nat->Nat->Tr)(h:i≠z):gW z L T0 i=T0 i:=by simp [gW,h]
theorem jB{L:List Tr}{j j':Nat}{t:Tr}(h:j<L.length):ac (L.set j t) j'=if j'=j then t else ac L j':=by
 unfold ac;rw [List.getD_eq_getElem?_getD,List.getElem?_set];by_cases e:j=j'
 ·subst e;simp [h]
 rw [if_neg e,if_neg (fun x=>e x.symm),List.getD_eq_getElem?_getD]
theorem aQ.cellZ{w:World}{s n z g off:Nat}{L:List Tr}{T0:Nat->Nat->Tr}{K:Nat->Nat->Sk}{v:Value}(h:aQ w (.list s n (gW z L T0)) (.row g off s n K) v)(hz:z<n)(j:Nat)(hj:j<s):∃ u,w.cell? ⟨g,off+z*s+j,none⟩=some u/\aQ w (ac L j) (K z j) u:=by
 obtain ⟨_,_,c,_,_,_,_,_,hc⟩:=h;have:=hc z j hz hj;rw [fZ] at this;exact this
theorem aQ.setZ{w:World}{s n z g off:Nat}{L L':List Tr}{T0:Nat->Nat->Tr}{K:Nat->Nat->Sk}{v:Value}(h:aQ w (.list s n (gW z L T0)) (.row g off s n K) v)(hok:(Sk.row g off s n K).ok)(hz:z<n)(j:Nat)(hj:j<s)(hl:j<L.length)(u0 u u':Value)(hu0:ac L j=.leaf u0)(hu:u=u')(hL:L'=L.set j (.leaf u')):
 aQ (w.setCell ⟨g,off+z*s+j,none⟩ u) (.list s n (gW z L' T0)) (.row g off s n K) v:=by
 subst hu hL;obtain ⟨_,_,c,h1,h2,h3,hg,hf,hc⟩:=h;refine ⟨rfl,rfl,c,h1,h2,h3,by simpa using hg,fun i=>by simpa using hf i,fun k i hk hi=>?_⟩
 obtain ⟨x,hx,hfx⟩:=hc k i hk hi;have hblk:∀ b,(K k i).bl b->(w.setCell ⟨g,off+z*s+j,none⟩ u).heap[b]? = w.heap[b]?:=fun b hb=>Below.heap_setCell _ _ _ _ (fun e=>(hok.1 k i hk hi).2 (by have e':b=g:=e;rw [<- e'];exact hb))
 have hsz:w.heap.size<= (w.setCell ⟨g,off+z*s+j,none⟩ u).heap.size:=by simp [World.setCell]
 by_cases e:k=z/\i=j
 ·obtain ⟨rfl,rfl⟩:=e
  refine ⟨u,World.cell?_setCell_same _ _ u hx,?_⟩
  rw [fZ,hu0] at hfx;rw [fZ,jB hl,if_pos rfl];exact ⟨hfx.1,rfl⟩
 refine ⟨x,?_,?_⟩
 ·rw [World.cell?_setCell_other (h:=fun e'=>tq hj hi (show z≠k\/j≠i by omega) off (congrArg Addr.off e'))]
  exact hx
 have hfx':aQ w (gW z (L.set j (.leaf u)) T0 k i) (K k i) x:=by
  by_cases ek:k=z
  ·subst ek
   rw [fZ] at hfx ⊢;rw [jB hl,if_neg (by omega)];exact hfx
  rw [kQ _ _ ek] at hfx ⊢;exact hfx
 exact hfx'.same hsz hblk
theorem aQ.subZ{w w':World}{s n z g off:Nat}{L L':List Tr}{T0:Nat->Nat->Tr}{K:Nat->Nat->Sk}{v:Value}(h:aQ w (.list s n (gW z L T0)) (.row g off s n K) v)(hok:(Sk.row g off s n K).ok)(hz:z<n)(j:Nat)(hj:j<s)(hl:j<L.length)(u:Value)(hu:w.cell? ⟨g,off+z*s+j,none⟩=some u)(t':Tr)(hcg:Cg w w' (K z j).bl)(hf':aQ w' t' (K z j) u)(hL:L'=L.set j t'):
 aQ w' (.list s n (gW z L' T0)) (.row g off s n K) v:=by
 subst hL;obtain ⟨_,_,c,h1,h2,h3,hg,hf,hc⟩:=h;have hgb:=hcg.block g hg (hok.1 z j hz hj).2;refine ⟨rfl,rfl,c,h1,h2,h3,Nat.lt_of_lt_of_le hg hcg.size,fun i=>(World.frozen?_of_block (a:=⟨g,i,none⟩) hgb).trans (hf i),fun k i hk hi=>?_⟩
 obtain ⟨x,hx,hfx⟩:=hc k i hk hi;have hcx:w'.cell? ⟨g,off+k*s+i,none⟩=some x:=(World.cell?_of_block (a:=⟨g,off+k*s+i,none⟩) hgb).trans hx;refine ⟨x,hcx,?_⟩
 by_cases e:k=z/\i=j
 ·obtain ⟨rfl,rfl⟩:=e
  rw [fZ,jB hl,if_pos rfl];have:x=u:=by rw [hx] at hu;exact Option.some.inj hu
  rw [this];exact hf'
 have hfx':aQ w (gW z (L.set j t') T0 k i) (K k i) x:=by
  by_cases ek:k=z
  ·subst ek
   rw [fZ] at hfx ⊢;rw [jB hl,if_neg (by omega)];exact hfx
  rw [kQ _ _ ek] at hfx ⊢;exact hfx
 exact hfx'.cg hcg (fun b hb=>hok.2 k i z j hk hi hz hj (by omega) b hb)
theorem Sk.bl_in{g off s n:Nat}{K:Nat->Nat->Sk}{k j b:Nat}(hk:k<n)(hj:j<s)(h:(K k j).bl b):(Sk.row g off s n K).bl b:=.inr ⟨k,j,hk,hj,h⟩
theorem aQ.toZ{w:World}{s n z:Nat}{f:Nat->Nat->Tr}{L:List Tr}{K:Sk}{v:Value}(h:aQ w (.list s n f) K v)(hL:∀ j,j<s->f z j=ac L j):aQ w (.list s n (gW z L f)) K v:=
 h.congr (fun k j hk hj=>by
  by_cases e:k=z
  ·subst e;rw [fZ];exact hL j hj
  rw [kQ _ _ e])
theorem aQ.fro{w:World}{s n g off s' n':Nat}{f:Nat->Nat->Tr}{K:Nat->Nat->Sk}{v:Value}(h:aQ w (.list s n f) (.row g off s' n' K) v)(j:Nat):w.frozen? ⟨g,j,none⟩=false:=by
 obtain ⟨_,_,_,_,_,_,_,hz,_⟩:=h;exact hz j
theorem aQ.shape{w:World}{s n:Nat}{f:Nat->Nat->Tr}{K:Sk}{v:Value}(h:aQ w (.list s n f) K v):∃ a c,v=.slice a n c:=by
 cases K with
 |leaf=>obtain ⟨rfl,a,c,rfl⟩:=h;exact ⟨a,c,rfl⟩
 |row g off s' n' K=>obtain ⟨_,_,c,rfl,_⟩:=h;exact ⟨_,c,rfl⟩
theorem dH{α:Type}{i z:Nat}(h:i≠z)(x y:α):(if i<z then x else y)=(if i<z+1 then x else y):=by
 by_cases e:i<z
 ·rw [if_pos e,if_pos (by omega)]
 rw [if_neg e,if_neg (by omega)]
theorem aQ.doneZ{w:World}{s n z:Nat}{L:List Tr}{T0 T1:Nat->Nat->Tr}{K:Sk}{v:Value}(h:aQ w (.list s n (gW z L T0)) K v)(hT:∀ i,i≠z->T0 i=T1 i)(hz:∀ j,j<s->ac L j=T1 z j):aQ w (.list s n T1) K v:=
 h.congr (fun k j hk hj=>by
  by_cases e:k=z
  ·subst e;rw [fZ,hz j hj]
  rw [kQ _ _ e,hT k e])
theorem dD{g:Nat->Nat}{z n:Nat}(hz:z<n):ag z g+g z<= ag n g:=by
 have:=eH g (show z+1<= n by omega);simpa [ag] using this
theorem fJ(ws:List Int)(a:OA)(n c s:Nat)(x:Int)(K:Sk)(w:World)(hx:x=((s:Nat):Int))(h:aQ w (aw ws) K (.slice a n c))(hok:K.ok)(hB:s+ws.length<= 1125899906842624):
 Calls prog 70 #[.slice a n c,Vi x] w fun e w'=>e=.returned (Vi ((s+ws.length:Nat):Int))/\aQ w' (aw (eF s ws.length)) K (.slice a n c)/\Cg w w' K.bl:=by
 subst hx;obtain ⟨hn,hc1,hm⟩:=h.len;unfold maxLen at hm;have HN:Hid (n=ws.length):=hn;rw [<- hn] at hB hm ⊢
 have h1:aQ w (.list 1 n (fun i _=>if i<0 then .leaf (Vi ((s:Int)+(i:Int))) else .leaf (Vi (ws.getD i 0)))) K (.slice a n c):=by
  have h9:aQ w (.list 1 n (fun i _=>.leaf (Vi (ws.getD i 0)))) K (.slice a n c):=by
   unfold aw at h;rw [<- hn] at h;exact h
  exact h9.congr (fun k j hk hj=>by simp)
 have HE:Hid (∀ w',aQ w' (.list 1 n (fun i _=>if i<n then .leaf (Vi ((s:Int)+(i:Int))) else .leaf (Vi (ws.getD i 0)))) K (.slice a n c)->aQ w' (aw (eF s n)) K (.slice a n c)):=by
  show ∀ w',_;intro w' h9;have h8:aQ w' (.list 1 n (fun k _=>.leaf (Vi ((eF s n).getD k 0)))) K (.slice a n c):=h9.congr (fun k j hk hj=>by simp only [if_pos hk];rw [j7 s n k hk]);unfold aw;rw [fg];exact h8
 clear h hn;by_cases h0:n=0
 ·subst h0
  have h2:=HE.out w h1;clear h1;go_enter func70,ntmps70
  go_wp2;refine wp_loop_rounds 1 ?_;rw [rounds_succ];go_wp2;go_ret;exact ⟨rfl,h2,Cg.refl _ _⟩
 obtain ⟨g,off,K',rfl,rfl,-,-,-,hg,-⟩:=h1.row (by omega);have HH:Hid (aQ w (.list 1 n (fun i _=>if i<0 then .leaf (Vi ((s:Int)+(i:Int))) else .leaf (Vi (ws.getD i 0)))) (.row g off 1 n K') (.slice (some ⟨g,off,none⟩) n c)/\(Sk.row g off 1 n K').ok):=⟨h1,hok⟩
 clear h1 hok;go_enter func70,ntmps70
 go_wp2;go_loopw [1,5] (fun kv i wr=>∃ z:Nat,z<= n/\i=Vi z/\kv=Vi ((s:Int)+(z:Int))/\aQ wr (.list 1 n (fun i _=>if i<z then .leaf (Vi ((s:Int)+(i:Int))) else .leaf (Vi (ws.getD i 0)))) (.row g off 1 n K') (.slice (some ⟨g,off,none⟩) n c)/\Cg w wr (Sk.row g off 1 n K').bl) (fun _ i _=>n-(intOf i).toNat)
 case atStart=>exact ⟨0,Nat.zero_le _,rfl,by simp,HH.out.1,Cg.refl _ _⟩
 case round=>
  obtain ⟨z,hz,rfl,rfl,hF,hC⟩:=hrel;by_cases hlt:z<n
  ·have hi:(z:Int)<(n:Int):=by omega
   have F0:=hF.toZ (z:=z) (L:=[.leaf (Vi (ws.getD z 0))]) (fun j hj=>by
    have e0:j=0:=by omega
    subst e0;simp only [if_neg (Nat.lt_irrefl z)];rfl)
   obtain ⟨u,e0',t0⟩:=F0.cellZ hlt 0 (by decide);have eo:off+z*1+0=off+z:=by omega
   rw [eo] at e0';have f0:=F0.fro (off+z);have F1:=F0.setZ HH.out.2 hlt 0 (by decide) (by simp) _ (Vi ((s:Int)+(z:Int))) (Vi ((s:Int)+(z:Int))) rfl rfl rfl;rw [eo] at F1
   have F2:=F1.doneZ (T1:=fun i _=>if i<z+1 then .leaf (Vi ((s:Int)+(i:Int))) else .leaf (Vi (ws.getD i 0))) (fun i hi=>by funext j;exact dH hi _ _) (fun j hj=>by
    have e0:j=0:=by omega
    subst e0;simp only [if_pos (Nat.lt_succ_self z)];rfl)
   have C1:=hC.set (p:=⟨g,off+z,none⟩) (.inl rfl) (Vi ((s:Int)+(z:Int)));have H1:Hid (_/\_):=⟨F2,C1⟩
   clear hF hC F0 F1 F2 C1 t0 eo;go_wp2;go_roundw
   case rel=>exact ⟨z+1,by omega,by go_num,by go_num,H1.out.1,H1.out.2⟩
   case measure=>simp [intOf];omega
  have hi:¬ (z:Int)<(n:Int):=by omega
  have e9:z=n:=by omega
  subst e9;have H1:Hid (_/\_):=⟨HE.out _ hF,hC⟩
  clear hF hC;go_wp2;go_ret;exact ⟨rfl,H1.out.1,H1.out.2⟩
theorem eu(ws:List Bool)(a:OA)(n c s:Nat)(x:Int)(K:Sk)(w:World)(hx:x=((s:Nat):Int))(h:aQ w (ai ws) K (.slice a n c))(hok:K.ok)(hB:s+ws.length<= 1125899906842624):
 Calls prog 71 #[.slice a n c,Vi x] w fun e w'=>e=.returned (Vi ((s+ws.length:Nat):Int))/\aQ w' (ai (dX s ws.length)) K (.slice a n c)/\Cg w w' K.bl:=by
 subst hx;obtain ⟨hn,hc1,hm⟩:=h.len;unfold maxLen at hm;have HN:Hid (n=ws.length):=hn;rw [<- hn] at hB hm ⊢
 have h1:aQ w (.list 1 n (fun i _=>if i<0 then .leaf (.bool (((s:Int)+(i:Int)) % 3 == 0)) else .leaf (.bool (ws.getD i false)))) K (.slice a n c):=by
  have h9:aQ w (.list 1 n (fun i _=>.leaf (.bool (ws.getD i false)))) K (.slice a n c):=by
   unfold ai at h;rw [<- hn] at h;exact h
  exact h9.congr (fun k j hk hj=>by simp)
 have HE:Hid (∀ w',aQ w' (.list 1 n (fun i _=>if i<n then .leaf (.bool (((s:Int)+(i:Int)) % 3 == 0)) else .leaf (.bool (ws.getD i false)))) K (.slice a n c)->aQ w' (ai (dX s n)) K (.slice a n c)):=by
  show ∀ w',_;intro w' h9;have h8:aQ w' (.list 1 n (fun k _=>.leaf (.bool ((dX s n).getD k false)))) K (.slice a n c):=h9.congr (fun k j hk hj=>by simp only [if_pos hk];rw [j8 s n k hk]);unfold ai;rw [fh];exact h8
 clear h hn;by_cases h0:n=0
 ·subst h0
  have h2:=HE.out w h1;clear h1;go_enter func71,ntmps71
  go_wp2;refine wp_loop_rounds 1 ?_;rw [rounds_succ];go_wp2;go_ret;exact ⟨rfl,h2,Cg.refl _ _⟩
 obtain ⟨g,off,K',rfl,rfl,-,-,-,hg,-⟩:=h1.row (by omega);have HH:Hid (aQ w (.list 1 n (fun i _=>if i<0 then .leaf (.bool (((s:Int)+(i:Int)) % 3 == 0)) else .leaf (.bool (ws.getD i false)))) (.row g off 1 n K') (.slice (some ⟨g,off,none⟩) n c)/\(Sk.row g off 1 n K').ok):=⟨h1,hok⟩
 clear h1 hok;go_enter func71,ntmps71
 go_wp2;go_loopw [1,5] (fun kv i wr=>∃ z:Nat,z<= n/\i=Vi z/\kv=Vi ((s:Int)+(z:Int))/\aQ wr (.list 1 n (fun i _=>if i<z then .leaf (.bool (((s:Int)+(i:Int)) % 3 == 0)) else .leaf (.bool (ws.getD i false)))) (.row g off 1 n K') (.slice (some ⟨g,off,none⟩) n c)/\Cg w wr (Sk.row g off 1 n K').bl) (fun _ i _=>n-(intOf i).toNat)
 case atStart=>exact ⟨0,Nat.zero_le _,rfl,by simp,HH.out.1,Cg.refl _ _⟩
 case round=>
  obtain ⟨z,hz,rfl,rfl,hF,hC⟩:=hrel;by_cases hlt:z<n
  ·have hi:(z:Int)<(n:Int):=by omega
   have F0:=hF.toZ (z:=z) (L:=[.leaf (.bool (ws.getD z false))]) (fun j hj=>by
    have e0:j=0:=by omega
    subst e0;simp only [if_neg (Nat.lt_irrefl z)];rfl)
   obtain ⟨u,e0',t0⟩:=F0.cellZ hlt 0 (by decide);have eo:off+z*1+0=off+z:=by omega
   rw [eo] at e0';have f0:=F0.fro (off+z);have F1:=F0.setZ HH.out.2 hlt 0 (by decide) (by simp) _ (.bool (((s:Int)+(z:Int)) % 3 == 0)) (.bool (((s:Int)+(z:Int)) % 3 == 0)) rfl rfl rfl;rw [eo] at F1
   have F2:=F1.doneZ (T1:=fun i _=>if i<z+1 then .leaf (.bool (((s:Int)+(i:Int)) % 3 == 0)) else .leaf (.bool (ws.getD i false))) (fun i hi=>by funext j;exact dH hi _ _) (fun j hj=>by
    have e0:j=0:=by omega
    subst e0;simp only [if_pos (Nat.lt_succ_self z)];rfl)
   have C1:=hC.set (p:=⟨g,off+z,none⟩) (.inl rfl) (.bool (((s:Int)+(z:Int)) % 3 == 0));have H1:Hid (_/\_):=⟨F2,C1⟩
   clear hF hC F0 F1 F2 C1 t0 eo;go_wp2;go_roundw
   case rel=>exact ⟨z+1,by omega,by go_num,by go_num,H1.out.1,H1.out.2⟩
   case measure=>simp [intOf];omega
  have hi:¬ (z:Int)<(n:Int):=by omega
  have e9:z=n:=by omega
  subst e9;have H1:Hid (_/\_):=⟨HE.out _ hF,hC⟩
  clear hF hC;go_wp2;go_ret;exact ⟨rfl,H1.out.1,H1.out.2⟩
theorem fK(m:Nat)(a:OA)(n c s:Nat)(x:Int)(w:World)(hx:x=((s:Nat):Int))(h:Rd w 0 (aw (eF s m)) (.slice a n c))(hB:s+m<= 1125899906842624):
 Calls prog 75 #[.slice a n c,Vi x] w fun e w'=>e=.returned (Vi ((s+m:Nat):Int))/\w'=w:=by
 subst hx;obtain ⟨a',c',h1,-,hm,hs⟩:=h.ints;simp only [Value.slice.injEq] at h1;obtain ⟨rfl,h2,rfl⟩:=h1;rw [fg] at h2 hm;subst h2;unfold maxLen at hm;have HS:Hid (aZ w a (eF s n)):=hs;clear hs h;go_enter func75,ntmps75
 go_wp2;go_loopw [1,5] (fun kv i wr=>∃ z:Nat,z<= n/\i=Vi z/\kv=Vi ((s:Int)+(z:Int))/\wr=w) (fun _ i _=>n-(intOf i).toNat)
 case atStart=>exact ⟨0,Nat.zero_le _,rfl,by simp,rfl⟩
 case round=>
  obtain ⟨z,hz,rfl,rfl,hw⟩:=hrel;subst hw;by_cases hlt:z<n
  ·have hi:(z:Int)<(n:Int):=by omega
   rcases HS.out with h0|⟨b,off,rfl,hb,hc⟩
   ·have:=congrArg List.length h0
    rw [fg] at this;simp at this;omega
   have e0:wr.cell? ⟨b,off+z,none⟩=some (Vi ((s:Int)+(z:Int))):=by
    have h9:=hc z (by rw [fg];exact hlt);rw [j7 s n z hlt] at h9;exact h9
   clear hc;go_wp2;go_roundw
   case rel=>exact ⟨z+1,by omega,by go_num,by go_num,trivial⟩
   case measure=>simp [intOf];omega
  have hi:¬ (z:Int)<(n:Int):=by omega
  have e9:z=n:=by omega
  subst e9;go_wp2;go_ret;exact ⟨rfl,rfl⟩
theorem ez(m:Nat)(a:OA)(n c s:Nat)(x:Int)(w:World)(hx:x=((s:Nat):Int))(h:Rd w 0 (ai (dX s m)) (.slice a n c))(hB:s+m<= 1125899906842624):
 Calls prog 76 #[.slice a n c,Vi x] w fun e w'=>e=.returned (Vi ((s+m:Nat):Int))/\w'=w:=by
 subst hx;obtain ⟨a',c',h1,-,hm,hs⟩:=h.bools;simp only [Value.slice.injEq] at h1;obtain ⟨rfl,h2,rfl⟩:=h1;rw [fh] at h2 hm;subst h2;unfold maxLen at hm;have HS:Hid (be w a (dX s n)):=hs;clear hs h;go_enter func76,ntmps76
 go_wp2;go_loopw [1,5] (fun kv i wr=>∃ z:Nat,z<= n/\i=Vi z/\kv=Vi ((s:Int)+(z:Int))/\wr=w) (fun _ i _=>n-(intOf i).toNat)
 case atStart=>exact ⟨0,Nat.zero_le _,rfl,by simp,rfl⟩
 case round=>
  obtain ⟨z,hz,rfl,rfl,hw⟩:=hrel;subst hw;by_cases hlt:z<n
  ·have hi:(z:Int)<(n:Int):=by omega
   rcases HS.out with h0|⟨b,off,rfl,hb,hc⟩
   ·have:=congrArg List.length h0
    rw [fh] at this;simp at this;omega
   have e0:wr.cell? ⟨b,off+z,none⟩=some (.bool (((s:Int)+(z:Int)) % 3 == 0)):=by
    have h9:=hc z (by rw [fh];exact hlt);rw [j8 s n z hlt] at h9;exact h9
   clear hc;go_wp2;go_roundw
   case rel=>exact ⟨z+1,by omega,by go_num,by go_num,trivial⟩
   case measure=>simp [intOf];omega
  have hi:¬ (z:Int)<(n:Int):=by omega
  have e9:z=n:=by omega
  subst e9;go_wp2;go_ret;exact ⟨rfl,rfl⟩
def bZ(X:VQ):Nat:=1+1+1+X.ws.length+X.bs.length+1
def tt(k:Nat)(X:VQ):VQ:=⟨((k:Nat):Int),((k+1:Nat):Int),((k+1+1:Nat):Int),eF (k+1+1+1) X.ws.length,dX (k+1+1+1+X.ws.length) X.bs.length,((k+1+1+1+X.ws.length+X.bs.length:Nat):Int)⟩
def bS(X:VA):Nat:=1+1+1+1+X.ws.length+X.bs.length
def dA(k:Nat)(X:VA):VA:=⟨((k:Nat):Int),((k+1:Nat):Int),((k+1+1:Nat):Int),((k+1+1+1:Nat):Int),eF (k+1+1+1+1) X.ws.length,dX (k+1+1+1+1+X.ws.length) X.bs.length⟩
def bJ(X:VP):Nat:=1+1+bZ X.q
def dB(k:Nat)(X:VP):VP:=⟨((k:Nat):Int),((k+1:Nat):Int),tt (k+1+1) X.q⟩
def bK(X:VD):Nat:=1+1+1+1+bZ X.q+ag X.np (fun i=>bJ (X.pt i))+X.hs.length+ag X.nt (fun i=>bS (X.tl i))
def bV(k:Nat)(X:VD):VD:=⟨((k:Nat):Int),((k+1:Nat):Int),((k+1+1:Nat):Int),((k+1+1+1:Nat):Int),tt (k+1+1+1+1) X.q,X.np,fun i=>dB (k+1+1+1+1+bZ X.q+ag i (fun i=>bJ (X.pt i))) (X.pt i),dX (k+1+1+1+1+bZ X.q+ag X.np (fun i=>bJ (X.pt i))) X.hs.length,X.nt,fun i=>dA (k+1+1+1+1+bZ X.q+ag X.np (fun i=>bJ (X.pt i))+X.hs.length+ag i (fun i=>bS (X.tl i))) (X.tl i)⟩
def lF(X:VT):Nat:=1+ag X.m (fun i=>bK (X.f i))
def xV(k:Nat)(X:VT):VT:=⟨((k:Nat):Int),X.m,fun i=>bV (k+1+ag i (fun i=>bK (X.f i))) (X.f i)⟩
def dk(w:World)(lo:Nat)(t:Tr)(v:Value):Prop:=∃ K,aQ w t K v/\K.ok/\∀ b,K.bl b->lo<= b
def az(w:World)(lo hi:Nat)(ts:List Tr)(vs:List Value):Prop:=
 ∃ K:Nat->Sk,vs.length=ts.length/\(∀ i v,vs[i]? = some v->aQ w (ac ts i) (K i) v)/\(∀ i,i<ts.length->(K i).ok/\∀ b,(K i).bl b->lo<= b/\b<hi)/\∀ i i',i<ts.length->i'<ts.length->i≠i'->∀ b,(K i).bl b->¬ (K i').bl b
theorem az.same{w w':World}{lo hi:Nat}{ts:List Tr}{vs:List Value}(h:az w lo hi ts vs)(hs:w.heap.size<= w'.heap.size)(hb:∀ b,lo<= b->b<hi->w'.heap[b]? = w.heap[b]?):az w' lo hi ts vs:=by
 obtain ⟨K,h1,h2,h3,h4⟩:=h;refine ⟨K,h1,fun i v hv=>(h2 i v hv).same hs (fun b hb'=>?_),h3,h4⟩
 have hi':i<ts.length:=by rw [<- h1];exact (List.getElem?_eq_some_iff.1 hv).1
 have:=(h3 i hi').2 b hb';exact hb b this.1 this.2
theorem az.mono{w:World}{lo hi lo' hi':Nat}{ts:List Tr}{vs:List Value}(h:az w lo hi ts vs)(h1:lo'<= lo)(h2:hi<= hi'):az w lo' hi' ts vs:=by
 obtain ⟨K,g1,g2,g3,g4⟩:=h;exact ⟨K,g1,g2,fun i hi=>⟨(g3 i hi).1,fun b hb=>by have:=(g3 i hi).2 b hb;omega⟩,g4⟩
theorem dk.mono{w:World}{lo lo':Nat}{t:Tr}{v:Value}(h:dk w lo t v)(hl:lo'<= lo):dk w lo' t v:=by
 obtain ⟨K,h1,h2,h3⟩:=h;exact ⟨K,h1,h2,fun b hb=>Nat.le_trans hl (h3 b hb)⟩
theorem lG{w:World}{g:Nat}{cs:Array Value}{e:TypeId}(h:w.heap[g]? = some (.cells cs e (0,0)))(j:Nat):w.frozen? ⟨g,j,none⟩=false:=by
 unfold World.frozen?;show (match w.heap[g]? with|some (.cells _ _ (lo,hi))=>lo<= j && j<hi|_=>false)=false;rw [h];simp
theorem bi.fit{w:World}{lo n c:Nat}{a:OA}{ws:List Int}(h:bi w lo (.slice a n c) ws):∃ K,aQ w (aw ws) K (.slice a n c)/\K.ok/\∀ b,K.bl b->lo<= b/\(Value.slice a n c).ownBlock=some b:=by
 have hsl:=h.sl;obtain ⟨h0,h⟩:=h;rcases h with ⟨hv,hn⟩|⟨g,cap,cur,hv,hg,hh,h1,h2,h3,h4⟩
 ·simp only [Value.slice.injEq] at hv
  obtain ⟨rfl,rfl,rfl⟩:=hv;exact ⟨.leaf,⟨hsl.1.symm,none,0,rfl⟩,trivial,fun b hb=>hb.elim⟩
 simp only [Value.slice.injEq] at hv;obtain ⟨rfl,rfl,rfl⟩:=hv;refine ⟨.row g 0 1 ws.length (fun _ _=>.leaf),?_,⟨fun _ _ _ _=>⟨trivial,fun x=>x⟩,fun _ _ _ _ _ _ _ _ _ _ x=>x.elim⟩,fun b hb=>?_⟩
 ·unfold aw
  have hlt:g<w.heap.size:=(Array.getElem?_eq_some_iff.1 hh).1;refine ⟨rfl,rfl,c,rfl,h1,by omega,hlt,lG hh,fun k j hk hj=>?_⟩
  rcases hsl.2 with e|⟨b,off,e,_,hc⟩
  ·rw [e] at hk;simp at hk
  simp only [Option.some.injEq,Addr.mk.injEq,and_true] at e;obtain ⟨rfl,rfl⟩:=e;refine ⟨_,?_,rfl,rfl⟩
  have:=hc k hk;rw [show 0+k*1+j=0+k by omega];exact this
 rcases hb with rfl|⟨_,_,_,_,hb⟩
 ·exact ⟨hg,rfl⟩
 exact hb.elim
theorem bD.fit{w:World}{lo n c:Nat}{a:OA}{ws:List Bool}(h:bD w lo (.slice a n c) ws):∃ K,aQ w (ai ws) K (.slice a n c)/\K.ok/\∀ b,K.bl b->lo<= b/\(Value.slice a n c).ownBlock=some b:=by
 have hsl:=h.sl;obtain ⟨h0,h⟩:=h;rcases h with ⟨hv,hn⟩|⟨g,cap,cur,hv,hg,hh,h1,h2,h3,h4⟩
 ·simp only [Value.slice.injEq] at hv
  obtain ⟨rfl,rfl,rfl⟩:=hv;exact ⟨.leaf,⟨hsl.1.symm,none,0,rfl⟩,trivial,fun b hb=>hb.elim⟩
 simp only [Value.slice.injEq] at hv;obtain ⟨rfl,rfl,rfl⟩:=hv;refine ⟨.row g 0 1 ws.length (fun _ _=>.leaf),?_,⟨fun _ _ _ _=>⟨trivial,fun x=>x⟩,fun _ _ _ _ _ _ _ _ _ _ x=>x.elim⟩,fun b hb=>?_⟩
 ·unfold ai
  have hlt:g<w.heap.size:=(Array.getElem?_eq_some_iff.1 hh).1;refine ⟨rfl,rfl,c,rfl,h1,by omega,hlt,lG hh,fun k j hk hj=>?_⟩
  rcases hsl.2 with e|⟨b,off,e,_,hc⟩
  ·rw [e] at hk;simp at hk
  simp only [Option.some.injEq,Addr.mk.injEq,and_true] at e;obtain ⟨rfl,rfl⟩:=e;refine ⟨_,?_,rfl,rfl⟩
  have:=hc k hk;rw [show 0+k*1+j=0+k by omega];exact this
 rcases hb with rfl|⟨_,_,_,_,hb⟩
 ·exact ⟨hg,rfl⟩
 exact hb.elim
def bU(w:World)(g:Nat)(t:TypeId)(s n:Nat)(f:Nat->List Tr)(k:Nat):Prop:=
 ∃ (F:Nat->List Value) (β:Nat->Nat),aM w g t s n F/\g<β 0/\(∀ j,β j<= β (j+1))/\β k<= w.heap.size/\∀ j,j<k->(F j).length=s/\az w (β j) (β (j+1)) (f j) (F j)
theorem bU.start{w:World}{g:Nat}{t:TypeId}{s n:Nat}{f:Nat->List Tr}{F:Nat->List Value}(h:aM w g t s n F):bU w g t s n f 0:=
 ⟨F,fun _=>w.heap.size,h,h.lt,fun _=>Nl,Nl,fun j hj=>absurd hj (Nat.not_lt_zero _)⟩
theorem bU.row{w:World}{g:Nat}{t:TypeId}{s n k:Nat}{f:Nat->List Tr}(h:bU w g t s n f k):∃ F,aM w g t s n F:=by
 obtain ⟨F,_,h,_⟩:=h;exact ⟨F,h⟩
theorem gu{β:Nat->Nat}(h:∀ j,β j<= β (j+1)):∀ {i j:Nat},i<= j->β i<= β j:=by
 intro i j hij;induction hij with
 |refl=>exact Nl
 |step _ ih=>exact Nat.le_trans ih (h _)
theorem bU.cg{w w':World}{S:Nat->Prop}{g:Nat}{t:TypeId}{s n k:Nat}{f:Nat->List Tr}(h:bU w g t s n f k)(hc:Cg w w' S)(hS:∀ b,S b->b<g):bU w' g t s n f k:=by
 obtain ⟨F,β,h1,h2,h3,h4,h5⟩:=h;have hlt:=h1.lt;have hsame:∀ b,g<= b->b<w.heap.size->w'.heap[b]? = w.heap[b]?:=fun b hb hb'=>hc.block b hb' (fun q=>by have:=hS b q;omega)
 refine ⟨F,β,?_,h2,h3,Nat.le_trans h4 hc.size,fun j hj=>⟨(h5 j hj).1,(h5 j hj).2.same hc.size (fun b q1 q2=>?_)⟩⟩
 ·obtain ⟨cs,e1,e2,e3⟩:=h1
  exact ⟨cs,(hsame g Nl hlt).trans e1,e2,e3⟩
 have b0:=gu h3 (Nat.zero_le j);have b1:=gu h3 (show j+1<= k by omega);exact hsame b (by omega) (by omega)
theorem bU.step{w w1:World}{S:Nat->Prop}{g:Nat}{t:TypeId}{s n k:Nat}{f:Nat->List Tr}{vs:List Value}(h:bU w g t s n f k)(hk:k<n)(hc:Cg w w1 S)(hS:∀ b,S b->b<g)(ho:az w1 w.heap.size w1.heap.size (f k) vs)(hv:vs.length=s):bU (aF w1 g (k*s) vs) g t s n f (k+1):=by
 have hz:=h;obtain ⟨F0,β0,_,_,_,hz4,_⟩:=hz;obtain ⟨F,β,h1,h2,h3,h4,h5⟩:=h.cg hc hS;have hg:w1.grownBy (aF w1 g (k*s) vs) (some g):=bf _ _ _;have hgs:=hg.size;have hw:=hc.size;obtain ⟨F',β',g1,g2,g3,g4,g5⟩:=h;have hlt:=g1.lt;have hsame:∀ b,g<= b->b<w.heap.size->w1.heap[b]? = w.heap[b]?:=fun b hb hb'=>hc.block b hb' (fun q=>by have:=hS b q;omega)
 have r1:aM w1 g t s n F':=by
  obtain ⟨cs,e1,e2,e3⟩:=g1;exact ⟨cs,(hsame g Nl hlt).trans e1,e2,e3⟩
 refine ⟨fun i=>if i=k then vs else F' i,fun j=>if j<= k then β' j else w1.heap.size,r1.set hk vs hv,by simpa using g2,fun j=>?_,?_,fun j hj=>?_⟩
 ·show (if j<= k then β' j else w1.heap.size)<= (if j+1<= k then β' (j+1) else w1.heap.size)
  by_cases e:j+1<= k
  ·rw [if_pos (by omega),if_pos e];exact g3 j
  rw [if_neg e];by_cases e':j<= k
  ·rw [if_pos e']
   have:=gu g3 e';omega
  rw [if_neg e'];exact Nl
 ·show (if k+1<= k then β' (k+1) else w1.heap.size)<= _
  rw [if_neg (by omega)];exact hgs
 have hkeep:∀ {lo hi:Nat} {ts:List Tr} {us:List Value},az w1 lo hi ts us->g<lo->hi<= w1.heap.size->az (aF w1 g (k*s) vs) lo hi ts us:=fun h9 q1 q2=>h9.same hgs (fun b b1 b2=>hg.block b (by omega) (fun e=>by have:=Option.some.inj e;omega))
 by_cases e:j=k
 ·subst e
  simp only [if_true];refine ⟨hv,?_⟩
  show az _ (if j<= j then β' j else w1.heap.size) (if j+1<= j then β' (j+1) else w1.heap.size) _ _;rw [if_pos Nl,if_neg (by omega)];exact (hkeep ho (by omega) Nl).mono g4 Nl
 simp only [if_neg e];show _/\az _ (if j<= k then β' j else w1.heap.size) (if j+1<= k then β' (j+1) else w1.heap.size) _ _;rw [if_pos (show j<= k by omega),if_pos (show j+1<= k by omega)];have h9:=g5 j (by omega);have b0:=gu g3 (Nat.zero_le j);have b1:=gu g3 (show j+1<= k by omega);exact ⟨h9.1,hkeep (h9.2.same hw (fun b q1 q2=>hsame b (by omega) (by omega))) (by omega) (by omega)⟩
theorem bU.done{w:World}{lo g:Nat}{t:TypeId}{s n:Nat}{f:Nat->List Tr}(h:bU w g t s n f n)(hlo:lo<= g)(hn:n<= maxLen)(hf:∀ k,k<n->(f k).length=s):dk w lo (.list s n (fun i=>ac (f i))) (.slice (some ⟨g,0,none⟩) n n):=by
 obtain ⟨F,β,h1,h2,h3,h4,h5⟩:=h
 have hex:∀ k,∃ K:Nat->Sk,k<n->((∀ i v,(F k)[i]? = some v->aQ w (ac (f k) i) (K i) v)/\(∀ i,i<s->(K i).ok/\∀ b,(K i).bl b->β k<= b/\b<β (k+1))/\∀ i i',i<s->i'<s->i≠i'->∀ b,(K i).bl b->¬ (K i').bl b):=by
  intro k;by_cases hk:k<n
  ·obtain ⟨hl,K,q1,q2,q3,q4⟩:=h5 k hk
   exact ⟨K,fun _=>⟨q2,fun i hi=>q3 i (by rw [hf k hk];exact hi),fun i i' hi hi'=>q4 i i' (by rw [hf k hk];exact hi) (by rw [hf k hk];exact hi')⟩⟩
  exact ⟨fun _=>.leaf,fun h=>absurd h hk⟩
 obtain ⟨K,hK⟩:=Classical.axiomOfChoice hex;refine ⟨.row g 0 s n K,⟨rfl,rfl,n,rfl,Nl,hn,h1.lt,h1.fro,fun k j hk hj=>?_⟩,⟨fun k j hk hj=>?_,fun k j k' j' hk hj hk' hj' hne b hb hb'=>?_⟩,fun b hb=>?_⟩
 ·have hl:=(h5 k hk).1
  obtain ⟨v,hv⟩:∃ v,(F k)[j]? = some v:=⟨(F k)[j]'(by omega),by simp⟩
  refine ⟨v,?_,(hK k hk).1 j v hv⟩
  rw [Nat.zero_add,h1.cell hk hj,hv]
 ·have q:=(hK k hk).2.1 j hj
  refine ⟨q.1,fun hb=>?_⟩
  have b0:=gu h3 (Nat.zero_le k);have:=q.2 g hb;omega
 ·have q:=(hK k hk).2.1 j hj
  have q':=(hK k' hk').2.1 j' hj';by_cases e:k=k'
  ·subst e
   exact (hK k hk).2.2 j j' hj hj' (by omega) b hb hb'
  have r:=q.2 b hb;have r':=q'.2 b hb';rcases Nat.lt_or_ge k k' with x|x
  ·have:=gu h3 (show k+1<= k' by omega);omega
  have:=gu h3 (show k'+1<= k by omega);omega
 rcases hb with rfl|⟨k,j,hk,hj,hb⟩
 ·exact hlo
 have q:=((hK k hk).2.1 j hj).2 b hb;have b0:=gu h3 (Nat.zero_le k);omega
theorem az.nil(w:World)(lo hi:Nat):az w lo hi [] []:=
 ⟨fun _=>.leaf,rfl,fun i v hv=>by simp at hv,fun i hi=>by simp at hi,fun i i' hi=>by simp at hi⟩
theorem az.one{w:World}{lo:Nat}{t:Tr}{v:Value}(h:dk w lo t v):az w lo w.heap.size [t] [v]:=by
 obtain ⟨K,h1,h2,h3⟩:=h;refine ⟨fun _=>K,rfl,fun i u hv=>?_,fun i hi=>⟨h2,fun b hb=>⟨h3 b hb,h1.lt hb⟩⟩,fun i i' hi hi' hne=>?_⟩
 ·match i,hv with
  |0,hv=>obtain rfl:=Option.some.inj (show some v=some u from hv);exact h1
  |i+1,hv=>simp at hv
 simp only [List.length_cons,List.length_nil] at hi hi';omega
theorem az.app{w:World}{lo mid hi:Nat}{ts us:List Tr}{vs xs:List Value}(h1:az w lo mid ts vs)(h2:az w mid hi us xs)(hl:lo<= mid)(hm:mid<= hi):az w lo hi (ts++us) (vs++xs):=by
 obtain ⟨K,a1,a2,a3,a4⟩:=h1;obtain ⟨L,b1,b2,b3,b4⟩:=h2;have hlt:∀ i,i<ts.length->(K i).ok/\∀ b,(K i).bl b->lo<= b/\b<mid:=a3;refine ⟨fun i=>if i<ts.length then K i else L (i-ts.length),by simp [a1,b1],fun i v hv=>?_,fun i hi'=>?_,fun i i' hi' hj' hne b hb=>?_⟩
 ·by_cases e:i<ts.length
  ·have e':i<vs.length:=by omega
   rw [List.getElem?_append_left e'] at hv;simp only [if_pos e]
   have:ac (ts++us) i=ac ts i:=by
    unfold ac;simp [List.getD_eq_getElem?_getD,List.getElem?_append_left e]
   rw [this];exact a2 i v hv
  have e':vs.length<= i:=by omega
  rw [List.getElem?_append_right e',a1] at hv;simp only [if_neg e]
  have:ac (ts++us) i=ac us (i-ts.length):=by
   unfold ac;simp [List.getD_eq_getElem?_getD,List.getElem?_append_right (Nat.le_of_not_lt e)]
  rw [this];exact b2 _ v hv
 ·rw [List.length_append] at hi'
  by_cases e:i<ts.length
  ·simp only [if_pos e]
   exact ⟨(a3 i e).1,fun b hb=>by have:=(a3 i e).2 b hb;omega⟩
  simp only [if_neg e];have e':i-ts.length<us.length:=by omega
  exact ⟨(b3 _ e').1,fun b hb=>by have:=(b3 _ e').2 b hb;omega⟩
 rw [List.length_append] at hi' hj';by_cases e:i<ts.length
 ·simp only [if_pos e] at hb
  by_cases e2:i'<ts.length
  ·simp only [if_pos e2]
   exact a4 i i' e e2 hne b hb
  simp only [if_neg e2];intro hb';have r1:=(a3 i e).2 b hb;have r2:=(b3 _ (show i'-ts.length<us.length by omega)).2 b hb';omega
 simp only [if_neg e] at hb;by_cases e2:i'<ts.length
 ·simp only [if_pos e2]
  intro hb';have r1:=(a3 i' e2).2 b hb';have r2:=(b3 _ (show i-ts.length<us.length by omega)).2 b hb;omega
 simp only [if_neg e2];exact b4 _ _ (by omega) (by omega) (by omega) b hb
theorem az.leaf{w:World}{lo hi:Nat}{ts:List Tr}{vs:List Value}(v:Value)(h:az w lo hi ts vs)(hl:lo<= hi):az w lo hi (.leaf v:: ts) (v:: vs):=by
 have h0:az w lo lo [.leaf v] [v]:=by
  refine ⟨fun _=>.leaf,rfl,fun i u hv=>?_,fun i hi=>⟨trivial,fun b hb=>hb.elim⟩,fun i i' hi hi' hne=>?_⟩
  ·match i,hv with
   |0,hv=>obtain rfl:=Option.some.inj (show some v=some u from hv);exact ⟨rfl,rfl⟩
   |i+1,hv=>simp at hv
  simp only [List.length_cons,List.length_nil] at hi hi';omega
 exact h0.app h Nl hl
theorem az.below{w w':World}{lo hi:Nat}{ts:List Tr}{vs:List Value}(h:az w lo hi ts vs)(hb:Below w.heap.size w w')(hh:hi<= w.heap.size):az w' lo hi ts vs:=
 h.same hb.size (fun b _ q=>hb.block b (by omega))
theorem az.kept{w w':World}{lo hi g:Nat}{ts:List Tr}{vs:List Value}(h:az w lo hi ts vs)(hg:w.grownBy w' (some g))(hl:g<lo)(hh:hi<= w.heap.size):az w' lo hi ts vs:=
 h.same hg.size (fun b q1 q2=>hg.block b (by omega) (fun e=>by have:=Option.some.inj e;omega))
theorem az.next{w w1 w2:World}{lo g:Nat}{ts us:List Tr}{vs xs:List Value}(h:az w lo w.heap.size ts vs)(hb:Below w.heap.size w w1)(h2:az w1 w.heap.size w1.heap.size us xs)(hg:w1.grownBy w2 (some g))(hl:g<lo)(hs:lo<= w.heap.size):az w2 lo w2.heap.size (ts++us) (vs++xs):=by
 have s1:=hb.size;have s2:=hg.size;exact (((h.below hb Nl).app h2 hs s1).kept hg hl Nl).mono Nl s2
instance inhRuX:Inhabited Ru:=⟨⟨0,0,0,0,0,0,0⟩⟩
def aR(X:Ru):List Tr:=[.leaf (Vi X.u),.leaf (Vi X.s),.leaf (Vi X.lo),.leaf (Vi X.hi),.leaf (Vi X.p),.leaf (Vi X.t),.leaf (Vi X.sh)]
theorem Ru.cells{w:World}{lo:Nat}{X:Ru}{vs:List Value}(h:aV w lo (ac (aR X)) vs)(hl:vs.length=7):vs=cG X:=by
 match vs,hl with
 | [v0,v1,v2,v3,v4,v5,v6],_=>
  have e0:v0=Vi X.u:=aV.get h (j:=0) rfl rfl;have e1:v1=Vi X.s:=aV.get h (j:=1) rfl rfl;have e2:v2=Vi X.lo:=aV.get h (j:=2) rfl rfl;have e3:v3=Vi X.hi:=aV.get h (j:=3) rfl rfl;have e4:v4=Vi X.p:=aV.get h (j:=4) rfl rfl;have e5:v5=Vi X.t:=aV.get h (j:=5) rfl rfl;have e6:v6=Vi X.sh:=aV.get h (j:=6) rfl rfl;subst e0 e1 e2 e3 e4 e5 e6;rfl
theorem js(X:Ru):ax 7 (ac (aR X))=0:=by
 simp [ax,ag,ac,aR,Tr.sz_leaf]
theorem xW(n:Nat)(g:Nat->Nat)(h:∀ k,g k=0):ag n g=0:=by
 induction n with
 |zero=>rfl
 |succ n ih=>simp only [ag,ih,h]
theorem Rd.slu{w:World}{lo n m c:Nat}{f:Nat->Ru}{a:OA}(h:Rd w lo (.list 7 n (fun i=>ac (aR (f i)))) (.slice a m c)):m=n/\dU w a n f:=by
 obtain ⟨a',c',h1,h2,h3,h4⟩:=h;simp only [Value.slice.injEq] at h1;obtain ⟨rfl,rfl,rfl⟩:=h1;refine ⟨rfl,?_⟩
 rcases h4 with h4|⟨g,off,F,ha,hlo,hgs,hc⟩
 ·exact .inl h4
 refine .inr ⟨g,off,ha,hgs,fun k hk j hj=>?_⟩;obtain ⟨q1,q2⟩:=hc k hk;have e:F k=cG (f k):=Ru.cells (w:=w) (lo:=lo) (fun j v hv=>(q2 j v hv).2) q1;obtain ⟨v,hv⟩:∃ v,(F k)[j]? = some v:=⟨(F k)[j]'(by omega),by simp⟩
 show _=(cG (f k))[j]?;rw [(q2 j v hv).1,<- e,hv]
theorem aA.own{w:World}{g lo n c:Nat}{f:Nat->Ru}(h:aA w g n f)(hl:lo<= g)(hn:n<= maxLen)(hc:n<= c):dk w lo (.list 7 n (fun i=>ac (aR (f i)))) (.slice (some ⟨g,0,none⟩) n c):=by
 refine ⟨.row g 0 7 n (fun _ _=>.leaf),⟨rfl,rfl,c,rfl,hc,hn,h.lt,h.fro,fun k j hk hj=>?_⟩,⟨fun _ _ _ _=>⟨trivial,fun x=>x⟩,fun _ _ _ _ _ _ _ _ _ _ x=>x.elim⟩,fun b hb=>?_⟩
 ·match j,hj with
  |0,_=>exact ⟨_,(by rw [Nat.zero_add,h.cell hk (by decide)];rfl),rfl,rfl⟩
  |1,_=>exact ⟨_,(by rw [Nat.zero_add,h.cell hk (by decide)];rfl),rfl,rfl⟩
  |2,_=>exact ⟨_,(by rw [Nat.zero_add,h.cell hk (by decide)];rfl),rfl,rfl⟩
  |3,_=>exact ⟨_,(by rw [Nat.zero_add,h.cell hk (by decide)];rfl),rfl,rfl⟩
  |4,_=>exact ⟨_,(by rw [Nat.zero_add,h.cell hk (by decide)];rfl),rfl,rfl⟩
  |5,_=>exact ⟨_,(by rw [Nat.zero_add,h.cell hk (by decide)];rfl),rfl,rfl⟩
  |6,_=>exact ⟨_,(by rw [Nat.zero_add,h.cell hk (by decide)];rfl),rfl,rfl⟩
 rcases hb with rfl|⟨_,_,_,_,hb⟩
 ·exact hl
 exact hb.elim
structure VC where
 wt:Int
 tr:Int
 n:Nat
 f:Nat->Ru
instance:Inhabited VC:=⟨⟨0,0,0,fun _=>default⟩⟩
def eE(X:VC):List Tr:=[.leaf (Vi X.wt),.leaf (Vi X.tr),.list 7 X.n (fun i=>ac (aR (X.f i)))]
abbrev cX(X:VC)(a1:OA)(l1 c1:Nat):List Value:=[Vi X.wt,Vi X.tr,.slice a1 l1 c1]
theorem eS(X:VC):ax 3 (ac (eE X))=(Tr.list 7 X.n (fun i=>ac (aR (X.f i)))).sz:=by
 simp [ax,ag,ac,eE,Tr.sz_leaf,dV,dE]
structure VL where
 id:Int
 pa:Int
 un:Int
 q:VQ
instance:Inhabited VL:=⟨⟨0,0,0,default⟩⟩
def aJ(X:VL):List Tr:=[.leaf (Vi X.id),.leaf (Vi X.pa),.leaf (Vi X.un),.leaf (Vi X.q.kd),.leaf (Vi X.q.pl),.leaf (Vi X.q.n),aw X.q.ws,ai X.q.bs,.leaf (Vi X.q.wa)]
abbrev bh(X:VL)(a1:OA)(l1 c1:Nat)(a2:OA)(l2 c2:Nat):List Value:=[Vi X.id,Vi X.pa,Vi X.un,Vi X.q.kd,Vi X.q.pl,Vi X.q.n,.slice a1 l1 c1,.slice a2 l2 c2,Vi X.q.wa]
theorem VL.cells{w:World}{lo:Nat}{X:VL}{vs:List Value}(h:aV w lo (ac (aJ X)) vs)(hl:vs.length=9):∃ a1 c1 a2 c2,vs=bh X a1 (X.q.ws.length) c1 a2 (X.q.bs.length) c2/\Rd w lo (aw X.q.ws) (.slice a1 (X.q.ws.length) c1)/\Rd w lo (ai X.q.bs) (.slice a2 (X.q.bs.length) c2):=by
 match vs,hl with
 | [v0,v1,v2,v3,v4,v5,v6,v7,v8],_=>
  have e0:v0=Vi X.id:=aV.get h (j:=0) rfl rfl;have e1:v1=Vi X.pa:=aV.get h (j:=1) rfl rfl;have e2:v2=Vi X.un:=aV.get h (j:=2) rfl rfl;have e3:v3=Vi X.q.kd:=aV.get h (j:=3) rfl rfl;have e4:v4=Vi X.q.pl:=aV.get h (j:=4) rfl rfl;have e5:v5=Vi X.q.n:=aV.get h (j:=5) rfl rfl;have r1:Rd w lo (aw X.q.ws) v6:=aV.get h (j:=6) rfl rfl;obtain ⟨a1,c1,e6,_⟩:=r1.shape;have r2:Rd w lo (ai X.q.bs) v7:=aV.get h (j:=7) rfl rfl;obtain ⟨a2,c2,e7,_⟩:=r2.shape;have e8:v8=Vi X.q.wa:=aV.get h (j:=8) rfl rfl;subst e0 e1 e2 e3 e4 e5 e6 e7 e8;exact ⟨a1,c1,a2,c2,rfl,r1,r2⟩
theorem VL.back{w:World}{lo:Nat}{X:VL}{a1:OA}{l1 c1:Nat}{a2:OA}{l2 c2:Nat}(r1:Rd w lo (aw X.q.ws) (.slice a1 l1 c1))(r2:Rd w lo (ai X.q.bs) (.slice a2 l2 c2)):aV w lo (ac (aJ X)) (bh X a1 l1 c1 a2 l2 c2):=by
 refine aV.mk (fun j v t hv ht=>?_) (by simp [aJ]);match j,hv,ht with
 |0,hv,ht=>
  obtain rfl:=sj hv;obtain rfl:=sj ht;exact rfl
 |1,hv,ht=>
  obtain rfl:=sj hv;obtain rfl:=sj ht;exact rfl
 |2,hv,ht=>
  obtain rfl:=sj hv;obtain rfl:=sj ht;exact rfl
 |3,hv,ht=>
  obtain rfl:=sj hv;obtain rfl:=sj ht;exact rfl
 |4,hv,ht=>
  obtain rfl:=sj hv;obtain rfl:=sj ht;exact rfl
 |5,hv,ht=>
  obtain rfl:=sj hv;obtain rfl:=sj ht;exact rfl
 |6,hv,ht=>
  obtain rfl:=sj hv;obtain rfl:=sj ht;exact r1
 |7,hv,ht=>
  obtain rfl:=sj hv;obtain rfl:=sj ht;exact r2
 |8,hv,ht=>
  obtain rfl:=sj hv;obtain rfl:=sj ht;exact rfl
 |j+9,hv,ht=>simp at hv
theorem dy(X:VL):ax 9 (ac (aJ X))=X.q.ws.length+X.q.bs.length:=by
 simp [ax,ag,ac,aJ,Tr.sz_leaf,dV,dE]
structure VN where
 nq:Nat
 qf:Nat->VL
 bz:Bool
 c:VL
 nu:Int
 du:Int
 le:Int
 nx:Int
 wt:Int
 tr:Int
instance:Inhabited VN:=⟨⟨0,fun _=>default,false,default,0,0,0,0,0,0⟩⟩
def aN(X:VN):List Tr:=[.list 9 X.nq (fun i=>ac (aJ (X.qf i))),.leaf (.bool X.bz),.leaf (Vi X.c.id),.leaf (Vi X.c.pa),.leaf (Vi X.c.un),.leaf (Vi X.c.q.kd),.leaf (Vi X.c.q.pl),.leaf (Vi X.c.q.n),aw X.c.q.ws,ai X.c.q.bs,.leaf (Vi X.c.q.wa),.leaf (Vi X.nu),.leaf (Vi X.du),.leaf (Vi X.le),.leaf (Vi X.nx),.leaf (Vi X.wt),.leaf (Vi X.tr)]
abbrev bj(X:VN)(a1:OA)(l1 c1:Nat)(a2:OA)(l2 c2:Nat)(a3:OA)(l3 c3:Nat):List Value:=[.slice a1 l1 c1,.bool X.bz,Vi X.c.id,Vi X.c.pa,Vi X.c.un,Vi X.c.q.kd,Vi X.c.q.pl,Vi X.c.q.n,.slice a2 l2 c2,.slice a3 l3 c3,Vi X.c.q.wa,Vi X.nu,Vi X.du,Vi X.le,Vi X.nx,Vi X.wt,Vi X.tr]
theorem VN.cells{w:World}{lo:Nat}{X:VN}{vs:List Value}(h:aV w lo (ac (aN X)) vs)(hl:vs.length=17):∃ a1 c1 a2 c2 a3 c3,vs=bj X a1 (X.nq) c1 a2 (X.c.q.ws.length) c2 a3 (X.c.q.bs.length) c3/\Rd w lo (.list 9 X.nq (fun i=>ac (aJ (X.qf i)))) (.slice a1 (X.nq) c1)/\Rd w lo (aw X.c.q.ws) (.slice a2 (X.c.q.ws.length) c2)/\Rd w lo (ai X.c.q.bs) (.slice a3 (X.c.q.bs.length) c3):=by
 match vs,hl with
 | [v0,v1,v2,v3,v4,v5,v6,v7,v8,v9,v10,v11,v12,v13,v14,v15,v16],_=>
  have r1:Rd w lo (.list 9 X.nq (fun i=>ac (aJ (X.qf i)))) v0:=aV.get h (j:=0) rfl rfl;obtain ⟨a1,c1,e0,_⟩:=r1.shape;have e1:v1=.bool X.bz:=aV.get h (j:=1) rfl rfl;have e2:v2=Vi X.c.id:=aV.get h (j:=2) rfl rfl;have e3:v3=Vi X.c.pa:=aV.get h (j:=3) rfl rfl;have e4:v4=Vi X.c.un:=aV.get h (j:=4) rfl rfl;have e5:v5=Vi X.c.q.kd:=aV.get h (j:=5) rfl rfl;have e6:v6=Vi X.c.q.pl:=aV.get h (j:=6) rfl rfl;have e7:v7=Vi X.c.q.n:=aV.get h (j:=7) rfl rfl;have r2:Rd w lo (aw X.c.q.ws) v8:=aV.get h (j:=8) rfl rfl;obtain ⟨a2,c2,e8,_⟩:=r2.shape;have r3:Rd w lo (ai X.c.q.bs) v9:=aV.get h (j:=9) rfl rfl;obtain ⟨a3,c3,e9,_⟩:=r3.shape;have e10:v10=Vi X.c.q.wa:=aV.get h (j:=10) rfl rfl;have e11:v11=Vi X.nu:=aV.get h (j:=11) rfl rfl;have e12:v12=Vi X.du:=aV.get h (j:=12) rfl rfl;have e13:v13=Vi X.le:=aV.get h (j:=13) rfl rfl;have e14:v14=Vi X.nx:=aV.get h (j:=14) rfl rfl;have e15:v15=Vi X.wt:=aV.get h (j:=15) rfl rfl;have e16:v16=Vi X.tr:=aV.get h (j:=16) rfl rfl;subst e0 e1 e2 e3 e4 e5 e6 e7 e8 e9 e10 e11 e12 e13 e14 e15 e16;exact ⟨a1,c1,a2,c2,a3,c3,rfl,r1,r2,r3⟩
theorem VN.back{w:World}{lo:Nat}{X:VN}{a1:OA}{l1 c1:Nat}{a2:OA}{l2 c2:Nat}{a3:OA}{l3 c3:Nat}(r1:Rd w lo (.list 9 X.nq (fun i=>ac (aJ (X.qf i)))) (.slice a1 l1 c1))(r2:Rd w lo (aw X.c.q.ws) (.slice a2 l2 c2))(r3:Rd w lo (ai X.c.q.bs) (.slice a3 l3 c3)):aV w lo (ac (aN X)) (bj X a1 l1 c1 a2 l2 c2 a3 l3 c3):=by
 refine aV.mk (fun j v t hv ht=>?_) (by simp [aN]);match j,hv,ht with
 |0,hv,ht=>
  obtain rfl:=sj hv;obtain rfl:=sj ht;exact r1
 |1,hv,ht=>
  obtain rfl:=sj hv;obtain rfl:=sj ht;exact rfl
 |2,hv,ht=>
  obtain rfl:=sj hv;obtain rfl:=sj ht;exact rfl
 |3,hv,ht=>
  obtain rfl:=sj hv;obtain rfl:=sj ht;exact rfl
 |4,hv,ht=>
  obtain rfl:=sj hv;obtain rfl:=sj ht;exact rfl
 |5,hv,ht=>
  obtain rfl:=sj hv;obtain rfl:=sj ht;exact rfl
 |6,hv,ht=>
  obtain rfl:=sj hv;obtain rfl:=sj ht;exact rfl
 |7,hv,ht=>
  obtain rfl:=sj hv;obtain rfl:=sj ht;exact rfl
 |8,hv,ht=>
  obtain rfl:=sj hv;obtain rfl:=sj ht;exact r2
 |9,hv,ht=>
  obtain rfl:=sj hv;obtain rfl:=sj ht;exact r3
 |10,hv,ht=>
  obtain rfl:=sj hv;obtain rfl:=sj ht;exact rfl
 |11,hv,ht=>
  obtain rfl:=sj hv;obtain rfl:=sj ht;exact rfl
 |12,hv,ht=>
  obtain rfl:=sj hv;obtain rfl:=sj ht;exact rfl
 |13,hv,ht=>
  obtain rfl:=sj hv;obtain rfl:=sj ht;exact rfl
 |14,hv,ht=>
  obtain rfl:=sj hv;obtain rfl:=sj ht;exact rfl
 |15,hv,ht=>
  obtain rfl:=sj hv;obtain rfl:=sj ht;exact rfl
 |16,hv,ht=>
  obtain rfl:=sj hv;obtain rfl:=sj ht;exact rfl
 |j+17,hv,ht=>simp at hv
theorem eT(X:VN):ax 17 (ac (aN X))=(Tr.list 9 X.nq (fun i=>ac (aJ (X.qf i)))).sz+X.c.q.ws.length+X.c.q.bs.length:=by
 simp [ax,ag,ac,aN,Tr.sz_leaf,dV,dE]
structure VF where
 nw:Int
 set:VC
 op:VT
 nl:Nat
 lf:Nat->VN
 sk:Int
 re:Int
 fa:Int
 se:Int
instance:Inhabited VF:=⟨⟨0,default,default,0,fun _=>default,0,0,0,0⟩⟩
def aX(X:VF):List Tr:=[.leaf (Vi X.nw),.leaf (Vi X.set.wt),.leaf (Vi X.set.tr),.list 7 X.set.n (fun i=>ac (aR (X.set.f i))),.leaf (Vi X.op.nx),.list 13 X.op.m (fun i=>ac (dT (X.op.f i))),.list 17 X.nl (fun i=>ac (aN (X.lf i))),.leaf (Vi X.sk),.leaf (Vi X.re),.leaf (Vi X.fa),.leaf (Vi X.se)]
abbrev aq(X:VF)(a1:OA)(l1 c1:Nat)(a2:OA)(l2 c2:Nat)(a3:OA)(l3 c3:Nat):List Value:=[Vi X.nw,Vi X.set.wt,Vi X.set.tr,.slice a1 l1 c1,Vi X.op.nx,.slice a2 l2 c2,.slice a3 l3 c3,Vi X.sk,Vi X.re,Vi X.fa,Vi X.se]
theorem VF.cells{w:World}{lo:Nat}{X:VF}{vs:List Value}(h:aV w lo (ac (aX X)) vs)(hl:vs.length=11):∃ a1 c1 a2 c2 a3 c3,vs=aq X a1 (X.set.n) c1 a2 (X.op.m) c2 a3 (X.nl) c3/\Rd w lo (.list 7 X.set.n (fun i=>ac (aR (X.set.f i)))) (.slice a1 (X.set.n) c1)/\Rd w lo (.list 13 X.op.m (fun i=>ac (dT (X.op.f i)))) (.slice a2 (X.op.m) c2)/\Rd w lo (.list 17 X.nl (fun i=>ac (aN (X.lf i)))) (.slice a3 (X.nl) c3):=by
 match vs,hl with
 | [v0,v1,v2,v3,v4,v5,v6,v7,v8,v9,v10],_=>
  have e0:v0=Vi X.nw:=aV.get h (j:=0) rfl rfl;have e1:v1=Vi X.set.wt:=aV.get h (j:=1) rfl rfl;have e2:v2=Vi X.set.tr:=aV.get h (j:=2) rfl rfl;have r1:Rd w lo (.list 7 X.set.n (fun i=>ac (aR (X.set.f i)))) v3:=aV.get h (j:=3) rfl rfl;obtain ⟨a1,c1,e3,_⟩:=r1.shape;have e4:v4=Vi X.op.nx:=aV.get h (j:=4) rfl rfl;have r2:Rd w lo (.list 13 X.op.m (fun i=>ac (dT (X.op.f i)))) v5:=aV.get h (j:=5) rfl rfl;obtain ⟨a2,c2,e5,_⟩:=r2.shape;have r3:Rd w lo (.list 17 X.nl (fun i=>ac (aN (X.lf i)))) v6:=aV.get h (j:=6) rfl rfl;obtain ⟨a3,c3,e6,_⟩:=r3.shape;have e7:v7=Vi X.sk:=aV.get h (j:=7) rfl rfl;have e8:v8=Vi X.re:=aV.get h (j:=8) rfl rfl;have e9:v9=Vi X.fa:=aV.get h (j:=9) rfl rfl;have e10:v10=Vi X.se:=aV.get h (j:=10) rfl rfl;subst e0 e1 e2 e3 e4 e5 e6 e7 e8 e9 e10;exact ⟨a1,c1,a2,c2,a3,c3,rfl,r1,r2,r3⟩
theorem VF.back{w:World}{lo:Nat}{X:VF}{a1:OA}{l1 c1:Nat}{a2:OA}{l2 c2:Nat}{a3:OA}{l3 c3:Nat}(r1:Rd w lo (.list 7 X.set.n (fun i=>ac (aR (X.set.f i)))) (.slice a1 l1 c1))(r2:Rd w lo (.list 13 X.op.m (fun i=>ac (dT (X.op.f i)))) (.slice a2 l2 c2))(r3:Rd w lo (.list 17 X.nl (fun i=>ac (aN (X.lf i)))) (.slice a3 l3 c3)):aV w lo (ac (aX X)) (aq X a1 l1 c1 a2 l2 c2 a3 l3 c3):=by
 refine aV.mk (fun j v t hv ht=>?_) (by simp [aX]);match j,hv,ht with
 |0,hv,ht=>
  obtain rfl:=sj hv;obtain rfl:=sj ht;exact rfl
 |1,hv,ht=>
  obtain rfl:=sj hv;obtain rfl:=sj ht;exact rfl
 |2,hv,ht=>
  obtain rfl:=sj hv;obtain rfl:=sj ht;exact rfl
 |3,hv,ht=>
  obtain rfl:=sj hv;obtain rfl:=sj ht;exact r1
 |4,hv,ht=>
  obtain rfl:=sj hv;obtain rfl:=sj ht;exact rfl
 |5,hv,ht=>
  obtain rfl:=sj hv;obtain rfl:=sj ht;exact r2
 |6,hv,ht=>
  obtain rfl:=sj hv;obtain rfl:=sj ht;exact r3
 |7,hv,ht=>
  obtain rfl:=sj hv;obtain rfl:=sj ht;exact rfl
 |8,hv,ht=>
  obtain rfl:=sj hv;obtain rfl:=sj ht;exact rfl
 |9,hv,ht=>
  obtain rfl:=sj hv;obtain rfl:=sj ht;exact rfl
 |10,hv,ht=>
  obtain rfl:=sj hv;obtain rfl:=sj ht;exact rfl
 |j+11,hv,ht=>simp at hv
theorem eg(X:VF):ax 11 (ac (aX X))=(Tr.list 7 X.set.n (fun i=>ac (aR (X.set.f i)))).sz+(Tr.list 13 X.op.m (fun i=>ac (dT (X.op.f i)))).sz+(Tr.list 17 X.nl (fun i=>ac (aN (X.lf i)))).sz:=by
 simp [ax,ag,ac,aX,Tr.sz_leaf,dV,dE]
end Go.Proofs.YtohikbpolofklaaGreat
