/- Texts that the proof needs, joined: Tr5. -/
import Derived.Test.YtohikbpolofklaaGreatY9
import Derived.Test.YtohikbpolofklaaGreatY4
set_option linter.unusedVariables false
set_option linter.unusedSimpArgs false
set_option maxHeartbeats 4000000
set_option maxRecDepth 20000
namespace Go.Proofs.YtohikbpolofklaaGreat
open Go.RowKit Go.Joins Go.Proofs.Tryz
theorem az.two{w:World}{lo hi:Nat}{ts:List Tr}{vs:List Value}(p q:Nat)(K1 K2:Sk)(hpq:p≠q)(hl:vs.length=ts.length)(hleaf:∀ i v,i≠p->i≠q->vs[i]? = some v->ac ts i=.leaf v)(h1:∀ v,vs[p]? = some v->aQ w (ac ts p) K1 v)(h2:∀ v,vs[q]? = some v->aQ w (ac ts q) K2 v)(o1:K1.ok/\∀ b,K1.bl b->lo<= b/\b<hi)(o2:K2.ok/\∀ b,K2.bl b->lo<= b/\b<hi)(hd:∀ b,K1.bl b->¬ K2.bl b):az w lo hi ts vs:=by
 refine ⟨fun i=>if i=p then K1 else if i=q then K2 else .leaf,hl,fun i v hv=>?_,fun i hi=>?_,fun i i' hi hi' hne b hb=>?_⟩
 ·by_cases e:i=p
  ·subst e;simp only [if_true];exact h1 v hv
  by_cases e':i=q
  ·subst e';simp only [if_neg e,if_true];exact h2 v hv
  simp only [if_neg e,if_neg e'];rw [hleaf i v e e' hv];exact ⟨rfl,rfl⟩
 ·by_cases e:i=p
  ·subst e;simp only [if_true];exact o1
  by_cases e':i=q
  ·subst e';simp only [if_neg e,if_true];exact o2
  simp only [if_neg e,if_neg e'];exact ⟨trivial,fun b hb=>hb.elim⟩
 by_cases e:i=p
 ·subst e
  simp only [if_true] at hb;by_cases e2:i'=q
  ·subst e2
   simp only [if_neg (fun x:i'=i=>hne x.symm),if_true];exact hd b hb
  simp only [if_neg (fun x:i'=i=>hne x.symm),if_neg e2];exact fun x=>x
 by_cases e':i=q
 ·subst e'
  simp only [if_neg e,if_true] at hb;by_cases e2:i'=p
  ·subst e2
   simp only [if_true];exact fun x=>hd b x hb
  simp only [if_neg e2,if_neg (fun x:i'=i=>hne x.symm)];exact fun x=>x
 simp only [if_neg e,if_neg e'] at hb;exact hb.elim
theorem qz{w:World}{lo lo':Nat}{v1 v2:Value}{ws:List Int}{bs:List Bool}(h1:bi w lo v1 ws)(h2:bD w lo' v2 bs){b:Nat}(e1:v1.ownBlock=some b)(e2:v2.ownBlock=some b):False:=by
 obtain ⟨_,h1⟩:=h1;obtain ⟨_,h2⟩:=h2;rcases h1 with ⟨rfl,_⟩|⟨g,_,_,rfl,_,hg,_⟩
 ·simp [Value.ownBlock] at e1
 rcases h2 with ⟨rfl,_⟩|⟨g',_,_,rfl,_,hg',_⟩
 ·simp [Value.ownBlock] at e2
 simp only [Value.ownBlock,Option.some.injEq] at e1 e2;subst e1 e2;rw [hg] at hg';simp at hg'
theorem VQ.own{w:World}{lo:Nat}{X:VQ}{a1:OA}{l1 c1:Nat}{a2:OA}{l2 c2:Nat}(h1:bi w lo (.slice a1 l1 c1) X.ws)(h2:bD w lo (.slice a2 l2 c2) X.bs):az w lo w.heap.size (qT X) (qL X a1 l1 c1 a2 l2 c2):=by
 obtain ⟨K1,f1,o1,b1⟩:=h1.fit;obtain ⟨K2,f2,o2,b2⟩:=h2.fit;refine az.two 3 4 K1 K2 (by decide) rfl (fun i v hp hq hv=>?_) (fun v hv=>?_) (fun v hv=>?_) ⟨o1,fun b hb=>⟨(b1 b hb).1,f1.lt hb⟩⟩ ⟨o2,fun b hb=>⟨(b2 b hb).1,f2.lt hb⟩⟩ (fun b hb hb'=>qz h1 h2 (b1 b hb).2 (b2 b hb').2)
 ·match i,hv with
  |0,hv=>obtain rfl:=sj hv;rfl
  |1,hv=>obtain rfl:=sj hv;rfl
  |2,hv=>obtain rfl:=sj hv;rfl
  |3,hv=>exact absurd rfl hp
  |4,hv=>exact absurd rfl hq
  |5,hv=>obtain rfl:=sj hv;rfl
  |i+6,hv=>simp at hv
 ·obtain rfl:=sj hv
  exact f1
 obtain rfl:=sj hv;exact f2
theorem lc(X:VQ)(a1:OA)(l1 c1:Nat)(a2:OA)(l2 c2:Nat)(w:World)(r1:Rd w 0 (aw X.ws) (.slice a1 l1 c1))(r2:Rd w 0 (ai X.bs) (.slice a2 l2 c2))(hz:ax 6 (ac (qT X))<= 1048576):
 Calls prog 132 #[.agg (qL X a1 l1 c1 a2 l2 c2).toArray] w fun e w'=>∃ b1 d1 b2 d2,e=.returned (.agg (qL X b1 l1 d1 b2 l2 d2).toArray)/\az w' w.heap.size w'.heap.size (qT X) (qL X b1 l1 d1 b2 l2 d2)/\Below w.heap.size w w':=by
 rw [cC] at hz;obtain ⟨a9,c9,h9,-,hm1,hs1⟩:=r1.ints;simp only [Value.slice.injEq] at h9;obtain ⟨rfl,rfl,rfl⟩:=h9;obtain ⟨a9,c9,h9,-,hm2,hs2⟩:=r2.bools;simp only [Value.slice.injEq] at h9;obtain ⟨rfl,rfl,rfl⟩:=h9;refine (qv X.kd X.pl X.n X.wa _ _ _ _ _ _ X.ws X.bs w rfl rfl hs1 hs2 (by omega) (by omega)).mono ?_;rintro e w' ⟨g1,g2,rfl,h1,h2,h3⟩;exact ⟨_,_,_,_,rfl,VQ.own h1 h2,h3⟩
theorem VA.own{w:World}{lo:Nat}{X:VA}{a1:OA}{l1 c1:Nat}{a2:OA}{l2 c2:Nat}(h1:bi w lo (.slice a1 l1 c1) X.ws)(h2:bD w lo (.slice a2 l2 c2) X.bs):az w lo w.heap.size (aT X) (aL X a1 l1 c1 a2 l2 c2):=by
 obtain ⟨K1,f1,o1,b1⟩:=h1.fit;obtain ⟨K2,f2,o2,b2⟩:=h2.fit;refine az.two 4 5 K1 K2 (by decide) rfl (fun i v hp hq hv=>?_) (fun v hv=>?_) (fun v hv=>?_) ⟨o1,fun b hb=>⟨(b1 b hb).1,f1.lt hb⟩⟩ ⟨o2,fun b hb=>⟨(b2 b hb).1,f2.lt hb⟩⟩ (fun b hb hb'=>qz h1 h2 (b1 b hb).2 (b2 b hb').2)
 ·match i,hv with
  |0,hv=>obtain rfl:=sj hv;rfl
  |1,hv=>obtain rfl:=sj hv;rfl
  |2,hv=>obtain rfl:=sj hv;rfl
  |3,hv=>obtain rfl:=sj hv;rfl
  |4,hv=>exact absurd rfl hp
  |5,hv=>exact absurd rfl hq
  |i+6,hv=>simp at hv
 ·obtain rfl:=sj hv
  exact f1
 obtain rfl:=sj hv;exact f2
theorem rS(X:VA)(a1:OA)(l1 c1:Nat)(a2:OA)(l2 c2:Nat)(w:World)(r1:Rd w 0 (aw X.ws) (.slice a1 l1 c1))(r2:Rd w 0 (ai X.bs) (.slice a2 l2 c2))(hz:ax 6 (ac (aT X))<= 1048576):
 Calls prog 167 #[.agg (aL X a1 l1 c1 a2 l2 c2).toArray] w fun e w'=>∃ b1 d1 b2 d2,e=.returned (.agg (aL X b1 l1 d1 b2 l2 d2).toArray)/\az w' w.heap.size w'.heap.size (aT X) (aL X b1 l1 d1 b2 l2 d2)/\Below w.heap.size w w':=by
 rw [db] at hz;obtain ⟨a9,c9,h9,-,hm1,hs1⟩:=r1.ints;simp only [Value.slice.injEq] at h9;obtain ⟨rfl,rfl,rfl⟩:=h9;obtain ⟨a9,c9,h9,-,hm2,hs2⟩:=r2.bools;simp only [Value.slice.injEq] at h9;obtain ⟨rfl,rfl,rfl⟩:=h9;refine (pP X.kd X.fl X.pl X.n _ _ _ _ _ _ X.ws X.bs w rfl rfl hs1 hs2 (by omega) (by omega)).mono ?_;rintro e w' ⟨g1,g2,rfl,h1,h2,h3⟩;exact ⟨_,_,_,_,rfl,VA.own h1 h2,h3⟩
theorem qA(n:Nat)(f:Nat->VA)(a:OA)(n' cap:Nat)(w:World)(hs:Rd w 0 (.list 6 n (fun k=>ac (aT (f k)))) (.slice a n' cap))(hz:(Tr.list 6 n (fun k=>ac (aT (f k)))).sz<= 1048576):
 Calls prog 135 #[.slice a n' cap] w fun e w'=>∃ b d,e=.returned (.slice b n' d)/\dk w' w.heap.size (.list 6 n (fun k=>ac (aT (f k)))) (.slice b n' d)/\Below w.heap.size w w':=by
 obtain ⟨a9,c9,h9,-,hn⟩:=hs.shape;simp only [Value.slice.injEq] at h9;obtain ⟨-,rfl,-⟩:=h9;clear a9 c9;have hn1:n'<= 1048576:=by rw [Tr.sz_list] at hz;omega
 have HZ:Hid (∀ k,k<n'->ax 6 (ac (aT (f k)))<= 1048576):=by
  show ∀ k,k<n'->ax 6 (ac (aT (f k)))<= 1048576;intro k hk;rw [Tr.sz_list] at hz;have:=ci (fun k=>ax 6 (ac (aT (f k)))) hk;omega
 have hmk:=ct (P:=prog) 120 162 (.agg #[Vi 0,Vi 0,Vi 0,Vi 0,Zs,Zs]) 6 80 underlying120 (by kernel_rfl) .i64 .i64 n' (by omega) (by omega);have HS:Hid (Rd w 0 (.list 6 n' (fun k=>ac (aT (f k)))) (.slice a n' cap)/\n'<= maxLen):=⟨hs,hn⟩
 clear hs hz hn;go_enter func135,ntmps135
 go_wp2;clear hmk;go_loopw [4] (fun i wr=>∃ (k:Nat),k<= n'/\i=Vi k/\bU wr w.heap.size 162 6 n' (fun i=>aT (f i)) k/\Below w.heap.size w wr) (fun i _=>n'-(intOf i).toNat)
 case atStart=>exact ⟨0,Nat.zero_le _,rfl,bU.start (aM.made w (#[Vi 0,Vi 0,Vi 0,Vi 0,Zs,Zs]).toList n' _ (by simp)),Br.alloc Nl _⟩
 case round=>
  obtain ⟨k,hk,rfl,hrow,hb⟩:=hrel;by_cases hlt:k<n'
  ·have hi:(k:Int)<(n':Int):=by omega
   obtain ⟨b,off,vs,rfl,_,hb0,hlen,hr,hrd⟩:=(HS.out.1.below hb).at hlt;obtain ⟨a1,c1,a2,c2,rfl,r1,r2⟩:=VA.cells hrd hlen;clear hlen hrd;have d09:wr.cell? ⟨b,off+k*6,none⟩=_:=hr 0 _ rfl;have d19:=hr 1 _ rfl;have d29:=hr 2 _ rfl;have d39:=hr 3 _ rfl;have d49:=hr 4 _ rfl;have d59:=hr 5 _ rfl;have HK:Hid (bU wr w.heap.size 162 6 n' (fun i=>aT (f i)) k/\True/\Below w.heap.size w wr/\Rd wr 0 (aw (f k).ws) (.slice a1 ((f k).ws.length) c1)/\Rd wr 0 (ai (f k).bs) (.slice a2 ((f k).bs.length) c2)):=⟨hrow,trivial,hb,r1,r2⟩
   clear hrow hb hr hb0 r1 r2;go_wp2_with fail
   refine (rS (f k) a1 ((f k).ws.length) c1 a2 ((f k).bs.length) c2 _ HK.out.2.2.2.1 HK.out.2.2.2.2 (HZ.out k hlt)).mono ?_;rintro e w1 ⟨b1,d1,b2,d2,rfl,q1,hb1⟩;obtain ⟨F1,R1⟩:=(HK.out.1.cg (Cg.ofBelow (S:=fun _=>False) hb1) (fun b h=>h.elim)).row;obtain ⟨rx0,ry0⟩:∃ v,w1.cell? ⟨w.heap.size,k*6,none⟩=some v:=R1.ex hlt (j:=0) (by decide);obtain ⟨rx1,ry1⟩:=R1.ex hlt (j:=1) (by decide);obtain ⟨rx2,ry2⟩:=R1.ex hlt (j:=2) (by decide);obtain ⟨rx3,ry3⟩:=R1.ex hlt (j:=3) (by decide);obtain ⟨rx4,ry4⟩:=R1.ex hlt (j:=4) (by decide);obtain ⟨rx5,ry5⟩:=R1.ex hlt (j:=5) (by decide);obtain ⟨W2,hW2⟩:∃ W2,W2=aF w1 w.heap.size (k*6) (aL (f k) b1 ((f k).ws.length) d1 b2 ((f k).bs.length) d2):=⟨_,rfl⟩
   have H2:Hid (bU W2 w.heap.size 162 6 n' (fun i=>aT (f i)) (k+1)/\Below w.heap.size w W2):=⟨by rw [hW2];exact HK.out.1.step (S:=fun _=>False) hlt (Cg.ofBelow hb1) (fun b h=>h.elim) q1 rfl,by rw [hW2];exact aD Nl _ _ _ (af HK.out.2.2.1 hb1)⟩
   have hW2':W2=((((((w1.setCell ⟨w.heap.size,k*6,none⟩ (Vi (f k).kd)).setCell ⟨w.heap.size,k*6+1,none⟩ (Vi (f k).fl)).setCell ⟨w.heap.size,k*6+2,none⟩ (Vi (f k).pl)).setCell ⟨w.heap.size,k*6+3,none⟩ (Vi (f k).n)).setCell ⟨w.heap.size,k*6+4,none⟩ (.slice b1 ((f k).ws.length) d1)).setCell ⟨w.heap.size,k*6+5,none⟩ (.slice b2 ((f k).bs.length) d2)):=by rw [hW2];simp only [aF,Nat.reduceAdd,Nat.zero_add,Nat.add_zero,Nat.add_assoc]
   have HE:Hid (∀ j,w1.frozen? ⟨w.heap.size,j,none⟩=false):=R1.fro;have qf0:=HE.out (k*6);have qf1:=HE.out (k*6+1);have qf2:=HE.out (k*6+2);have qf3:=HE.out (k*6+3);have qf4:=HE.out (k*6+4);have qf5:=HE.out (k*6+5);clear R1 hb1 HK d09 d19 d29 d39 d49 d59 hW2 HE q1;go_wp2;rw [<- hW2'];clear hW2';go_roundw
   case rel=>
    exact ⟨k+1,by omega,by go_num,H2.out.1,H2.out.2⟩
   case measure=>simp [intOf];omega
  have hi:¬ (k:Int)<(n':Int):=by omega
  have e9:k=n':=by omega
  subst e9;have HR:Hid (bU wr w.heap.size 162 6 k (fun i=>aT (f i)) k/\Below w.heap.size w wr):=⟨hrow,hb⟩
  clear hrow hb;go_wp2;go_ret;exact ⟨_,_,rfl,HR.out.1.done Nl HS.out.2 (fun _ _=>rfl),HR.out.2⟩
end Go.Proofs.YtohikbpolofklaaGreat
