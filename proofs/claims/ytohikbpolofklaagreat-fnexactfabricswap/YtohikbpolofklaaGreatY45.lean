/- Texts that the proof needs, joined: Mk7. -/
import Derived.Test.YtohikbpolofklaaGreatY44
import Derived.Test.YtohikbpolofklaaGreatY4
set_option linter.unusedVariables false
set_option linter.unusedSimpArgs false
set_option maxHeartbeats 8000000
set_option maxRecDepth 20000
namespace Go.Proofs.YtohikbpolofklaaGreat
open Go.RowKit Go.Joins Go.Proofs.Tryz
def bG(X:Ru):Nat:=1+1+1+1+1+1+1
def dg(k:Nat)(X:Ru):Ru:=⟨((k:Nat):Int),((k+1:Nat):Int),((k+1+1:Nat):Int),((k+1+1+1:Nat):Int),((k+1+1+1+1:Nat):Int),((k+1+1+1+1+1:Nat):Int),((k+1+1+1+1+1+1:Nat):Int)⟩
def j5(X:VC):Nat:=1+1+ag X.n (fun i=>bG (X.f i))
def xX(k:Nat)(X:VC):VC:=⟨((k:Nat):Int),((k+1:Nat):Int),X.n,fun i=>dg (k+1+1+ag i (fun i=>bG (X.f i))) (X.f i)⟩
def aP(X:VL):Nat:=1+1+1+bZ X.q
def dz(k:Nat)(X:VL):VL:=⟨((k:Nat):Int),((k+1:Nat):Int),((k+1+1:Nat):Int),tt (k+1+1+1) X.q⟩
def bL(X:VN):Nat:=ag X.nq (fun i=>aP (X.qf i))+1+aP X.c+1+1+1+1+1+1
def cB(k:Nat)(X:VN):VN:=⟨X.nq,fun i=>dz (k+ag i (fun i=>aP (X.qf i))) (X.qf i),(((k+ag X.nq (fun i=>aP (X.qf i)):Nat):Int) % 3 == 0),dz (k+ag X.nq (fun i=>aP (X.qf i))+1) X.c,((k+ag X.nq (fun i=>aP (X.qf i))+1+aP X.c:Nat):Int),((k+ag X.nq (fun i=>aP (X.qf i))+1+aP X.c+1:Nat):Int),((k+ag X.nq (fun i=>aP (X.qf i))+1+aP X.c+1+1:Nat):Int),((k+ag X.nq (fun i=>aP (X.qf i))+1+aP X.c+1+1+1:Nat):Int),((k+ag X.nq (fun i=>aP (X.qf i))+1+aP X.c+1+1+1+1:Nat):Int),((k+ag X.nq (fun i=>aP (X.qf i))+1+aP X.c+1+1+1+1+1:Nat):Int)⟩
def ctVF(X:VF):Nat:=1+j5 X.set+lF X.op+ag X.nl (fun i=>bL (X.lf i))+1+1+1+1
def nmVF(k:Nat)(X:VF):VF:=⟨((k:Nat):Int),xX (k+1) X.set,xV (k+1+j5 X.set) X.op,X.nl,fun i=>cB (k+1+j5 X.set+lF X.op+ag i (fun i=>bL (X.lf i))) (X.lf i),((k+1+j5 X.set+lF X.op+ag X.nl (fun i=>bL (X.lf i)):Nat):Int),((k+1+j5 X.set+lF X.op+ag X.nl (fun i=>bL (X.lf i))+1:Nat):Int),((k+1+j5 X.set+lF X.op+ag X.nl (fun i=>bL (X.lf i))+1+1:Nat):Int),((k+1+j5 X.set+lF X.op+ag X.nl (fun i=>bL (X.lf i))+1+1+1:Nat):Int)⟩
theorem jI(n:Nat)(f:Nat->Ru)(a:OA)(n' c s:Nat)(x:Int)(K:Sk)(w:World)(hx:x=((s:Nat):Int))(h:aQ w (.list 7 n (fun i=>ac (aR (f i)))) K (.slice a n' c))(hok:K.ok)(hB:s+ag n (fun i=>bG (f i))<= 1125899906842624):
 Calls prog 13 #[.slice a n' c,Vi x] w fun e w'=>e=.returned (Vi ((s+ag n (fun i=>bG (f i)):Nat):Int))/\aQ w' (.list 7 n (fun i=>ac (aR (dg (s+ag i (fun i=>bG (f i))) (f i))))) K (.slice a n' c)/\Cg w w' K.bl:=by
 subst hx;obtain ⟨rfl,hc1,hm⟩:=h.len;unfold maxLen at hm
 have HE:Hid (∀ w',aQ w' (.list 7 n' (fun i=>ac (aR (if i<n' then dg (s+ag i (fun i=>bG (f i))) (f i) else f i)))) K (.slice a n' c)->aQ w' (.list 7 n' (fun i=>ac (aR (dg (s+ag i (fun i=>bG (f i))) (f i))))) K (.slice a n' c)):=by
  show ∀ w',_;intro w' h9;exact h9.congr (fun k j hk hj=>by simp only [if_pos hk])
 have h1:aQ w (.list 7 n' (fun i=>ac (aR (if i<0 then dg (s+ag i (fun i=>bG (f i))) (f i) else f i)))) K (.slice a n' c):=h.congr (fun k j hk hj=>by simp);clear h;by_cases h0:n'=0
 ·subst h0
  have h2:=HE.out w h1;clear h1;go_enter func13,ntmps13
  go_wp2;refine wp_loop_rounds 1 ?_;rw [rounds_succ];go_wp2;go_ret;exact ⟨rfl,h2,Cg.refl _ _⟩
 obtain ⟨g,off,K',rfl,rfl,-,-,-,hg,-⟩:=h1.row (by omega);have HH:Hid (aQ w (.list 7 n' (fun i=>ac (aR (if i<0 then dg (s+ag i (fun i=>bG (f i))) (f i) else f i)))) (.row g off 7 n' K') (.slice (some ⟨g,off,none⟩) n' c)/\(Sk.row g off 7 n' K').ok/\s+ag n' (fun i=>bG (f i))<= 1125899906842624):=⟨h1,hok,hB⟩
 clear h1 hok hB;go_enter func13,ntmps13
 go_wp2;go_loopw [1,5] (fun kv i wr=>∃ z:Nat,z<= n'/\i=Vi z/\kv=Vi ((s+ag z (fun i=>bG (f i)):Nat):Int)/\aQ wr (.list 7 n' (fun i=>ac (aR (if i<z then dg (s+ag i (fun i=>bG (f i))) (f i) else f i)))) (.row g off 7 n' K') (.slice (some ⟨g,off,none⟩) n' c)/\Cg w wr (Sk.row g off 7 n' K').bl) (fun _ i _=>n'-(intOf i).toNat)
 case atStart=>exact ⟨0,Nat.zero_le _,rfl,rfl,HH.out.1,Cg.refl _ _⟩
 case round=>
  obtain ⟨z,hz,rfl,rfl,hF,hC⟩:=hrel;by_cases hlt:z<n'
  ·have hi:(z:Int)<(n':Int):=by omega
   obtain ⟨kk,hkk⟩:∃ kk,kk=s+ag z (fun i=>bG (f i)):=⟨_,rfl⟩
   rw [<- hkk];have HC:Hid (bG (f z)=1+1+1+1+1+1+1/\True):=⟨rfl,trivial⟩
   have HK0:Hid (kk=s+ag z (fun i=>bG (f i))/\kk+bG (f z)<= 1125899906842624/\s+ag (z+1) (fun i=>bG (f i))=kk+bG (f z)):=⟨hkk,by have h7:=dD (g:=(fun i=>bG (f i))) hlt;have h8:=HH.out.2.2;omega,by rw [hkk];simp only [ag];omega⟩
   obtain ⟨T0,hT0⟩:∃ T0:Nat->Nat->Tr,T0=(fun i=>ac (aR (if i<z then dg (s+ag i (fun i=>bG (f i))) (f i) else f i))):=⟨_,rfl⟩
   rw [<- hT0] at hF;have F0:=hF.toZ (z:=z) (L:=[.leaf (Vi (f z).u),.leaf (Vi (f z).s),.leaf (Vi (f z).lo),.leaf (Vi (f z).hi),.leaf (Vi (f z).p),.leaf (Vi (f z).t),.leaf (Vi (f z).sh)]) (fun j hj=>by rw [hT0];simp only [if_neg (Nat.lt_irrefl z)];rfl);have HT:Hid (T0=(fun i=>ac (aR (if i<z then dg (s+ag i (fun i=>bG (f i))) (f i) else f i)))):=hT0;have G:Hid (MZ w g off 7 n' K' (.slice (some ⟨g,off,none⟩) n' c) z T0 wr [.leaf (Vi (f z).u),.leaf (Vi (f z).s),.leaf (Vi (f z).lo),.leaf (Vi (f z).hi),.leaf (Vi (f z).p),.leaf (Vi (f z).t),.leaf (Vi (f z).sh)]):=⟨F0,hC,HH.out.2.1,hlt⟩
   clear hF hC F0 hT0 hkk;have v0:=wrI0 kk (by have:=HC.out;have:=HK0.out;omega)
   have v1:=wrI kk 1 2 (by have:=HC.out;have:=HK0.out;omega)
   have v2:=wrI kk 2 3 (by have:=HC.out;have:=HK0.out;omega)
   have v3:=wrI kk 3 4 (by have:=HC.out;have:=HK0.out;omega)
   have v4:=wrI kk 4 5 (by have:=HC.out;have:=HK0.out;omega)
   have v5:=wrI kk 5 6 (by have:=HC.out;have:=HK0.out;omega)
   have v6:=wrI kk 6 7 (by have:=HC.out;have:=HK0.out;omega)
   go_upto_region 5 with (refine MZ.st G rfl _ _ rfl 0 _ ((kk:Nat):Int) _ rfl rfl (by have:=HC.out;have:=HK0.out;omega) (by decide) (by simp) rfl ?_;clear G;intro w9 G)
   simp only [List.set] at G;go_upto_region 7 with (refine MZ.st G rfl _ _ rfl 1 _ ((kk+1:Nat):Int) _ rfl rfl (by have:=HC.out;have:=HK0.out;omega) (by decide) (by simp) rfl ?_;clear G;intro w9 G)
   simp only [List.set] at G;go_upto_region 9 with (refine MZ.st G rfl _ _ rfl 2 _ ((kk+1+1:Nat):Int) _ rfl rfl (by have:=HC.out;have:=HK0.out;omega) (by decide) (by simp) rfl ?_;clear G;intro w9 G)
   simp only [List.set] at G;go_upto_region 11 with (refine MZ.st G rfl _ _ rfl 3 _ ((kk+1+1+1:Nat):Int) _ rfl rfl (by have:=HC.out;have:=HK0.out;omega) (by decide) (by simp) rfl ?_;clear G;intro w9 G)
   simp only [List.set] at G;go_upto_region 13 with (refine MZ.st G rfl _ _ rfl 4 _ ((kk+1+1+1+1:Nat):Int) _ rfl rfl (by have:=HC.out;have:=HK0.out;omega) (by decide) (by simp) rfl ?_;clear G;intro w9 G)
   simp only [List.set] at G;go_upto_region 15 with (refine MZ.st G rfl _ _ rfl 5 _ ((kk+1+1+1+1+1:Nat):Int) _ rfl rfl (by have:=HC.out;have:=HK0.out;omega) (by decide) (by simp) rfl ?_;clear G;intro w9 G)
   simp only [List.set] at G;go_upto_region 17 with (refine MZ.st G rfl _ _ rfl 6 _ ((kk+1+1+1+1+1+1:Nat):Int) _ rfl rfl (by have:=HC.out;have:=HK0.out;omega) (by decide) (by simp) rfl ?_;clear G;intro w9 G)
   simp only [List.set] at G;have HZ:Hid (aQ w9 (.list 7 n' (fun i=>ac (aR (if i<z+1 then dg (s+ag i (fun i=>bG (f i))) (f i) else f i)))) (.row g off 7 n' K') (.slice (some ⟨g,off,none⟩) n' c)/\Cg w w9 (Sk.row g off 7 n' K').bl/\(kk:Int)+7=((s+ag (z+1) (fun i=>bG (f i)):Nat):Int)):=⟨G.out.1.doneZ (T1:=fun i=>ac (aR (if i<z+1 then dg (s+ag i (fun i=>bG (f i))) (f i) else f i))) (fun i hi=>by rw [HT.out];simp only [dH hi]) (fun j hj=>by simp only [if_pos (Nat.lt_succ_self z)];rw [<- HK0.out.1];rfl),G.out.2.1,by have:=HC.out;have:=HK0.out;omega⟩
   clear G HT;go_wp2;go_roundw
   case rel=>exact ⟨z+1,by omega,by go_num,congrArg (Value.int .i64) HZ.out.2.2,HZ.out.1,HZ.out.2.1⟩
   case measure=>simp [intOf];omega
  have hi:¬ (z:Int)<(n':Int):=by omega
  have e9:z=n':=by omega
  subst e9;have H1:Hid (_/\_):=⟨HE.out _ hF,hC⟩
  clear hF hC;go_wp2;go_ret;exact ⟨rfl,H1.out.1,H1.out.2⟩
theorem pb(n:Nat)(f:Nat->VL)(a:OA)(n' c s:Nat)(x:Int)(K:Sk)(w:World)(hx:x=((s:Nat):Int))(h:aQ w (.list 9 n (fun i=>ac (aJ (f i)))) K (.slice a n' c))(hok:K.ok)(hB:s+ag n (fun i=>aP (f i))<= 1125899906842624):
 Calls prog 69 #[.slice a n' c,Vi x] w fun e w'=>e=.returned (Vi ((s+ag n (fun i=>aP (f i)):Nat):Int))/\aQ w' (.list 9 n (fun i=>ac (aJ (dz (s+ag i (fun i=>aP (f i))) (f i))))) K (.slice a n' c)/\Cg w w' K.bl:=by
 subst hx;obtain ⟨rfl,hc1,hm⟩:=h.len;unfold maxLen at hm
 have HE:Hid (∀ w',aQ w' (.list 9 n' (fun i=>ac (aJ (if i<n' then dz (s+ag i (fun i=>aP (f i))) (f i) else f i)))) K (.slice a n' c)->aQ w' (.list 9 n' (fun i=>ac (aJ (dz (s+ag i (fun i=>aP (f i))) (f i))))) K (.slice a n' c)):=by
  show ∀ w',_;intro w' h9;exact h9.congr (fun k j hk hj=>by simp only [if_pos hk])
 have h1:aQ w (.list 9 n' (fun i=>ac (aJ (if i<0 then dz (s+ag i (fun i=>aP (f i))) (f i) else f i)))) K (.slice a n' c):=h.congr (fun k j hk hj=>by simp);clear h;by_cases h0:n'=0
 ·subst h0
  have h2:=HE.out w h1;clear h1;go_enter func69,ntmps69
  go_wp2;refine wp_loop_rounds 1 ?_;rw [rounds_succ];go_wp2;go_ret;exact ⟨rfl,h2,Cg.refl _ _⟩
 obtain ⟨g,off,K',rfl,rfl,-,-,-,hg,-⟩:=h1.row (by omega);have HH:Hid (aQ w (.list 9 n' (fun i=>ac (aJ (if i<0 then dz (s+ag i (fun i=>aP (f i))) (f i) else f i)))) (.row g off 9 n' K') (.slice (some ⟨g,off,none⟩) n' c)/\(Sk.row g off 9 n' K').ok/\s+ag n' (fun i=>aP (f i))<= 1125899906842624):=⟨h1,hok,hB⟩
 clear h1 hok hB;go_enter func69,ntmps69
 go_wp2;go_loopw [1,5] (fun kv i wr=>∃ z:Nat,z<= n'/\i=Vi z/\kv=Vi ((s+ag z (fun i=>aP (f i)):Nat):Int)/\aQ wr (.list 9 n' (fun i=>ac (aJ (if i<z then dz (s+ag i (fun i=>aP (f i))) (f i) else f i)))) (.row g off 9 n' K') (.slice (some ⟨g,off,none⟩) n' c)/\Cg w wr (Sk.row g off 9 n' K').bl) (fun _ i _=>n'-(intOf i).toNat)
 case atStart=>exact ⟨0,Nat.zero_le _,rfl,rfl,HH.out.1,Cg.refl _ _⟩
 case round=>
  obtain ⟨z,hz,rfl,rfl,hF,hC⟩:=hrel;by_cases hlt:z<n'
  ·have hi:(z:Int)<(n':Int):=by omega
   obtain ⟨kk,hkk⟩:∃ kk,kk=s+ag z (fun i=>aP (f i)):=⟨_,rfl⟩
   rw [<- hkk];have HC:Hid (aP (f z)=1+1+1+bZ (f z).q/\bZ (f z).q=1+1+1+(f z).q.ws.length+(f z).q.bs.length+1/\True):=⟨rfl,rfl,trivial⟩
   have HK0:Hid (kk=s+ag z (fun i=>aP (f i))/\kk+aP (f z)<= 1125899906842624/\s+ag (z+1) (fun i=>aP (f i))=kk+aP (f z)):=⟨hkk,by have h7:=dD (g:=(fun i=>aP (f i))) hlt;have h8:=HH.out.2.2;omega,by rw [hkk];simp only [ag];omega⟩
   obtain ⟨T0,hT0⟩:∃ T0:Nat->Nat->Tr,T0=(fun i=>ac (aJ (if i<z then dz (s+ag i (fun i=>aP (f i))) (f i) else f i))):=⟨_,rfl⟩
   rw [<- hT0] at hF;have F0:=hF.toZ (z:=z) (L:=[.leaf (Vi (f z).id),.leaf (Vi (f z).pa),.leaf (Vi (f z).un),.leaf (Vi (f z).q.kd),.leaf (Vi (f z).q.pl),.leaf (Vi (f z).q.n),aw (f z).q.ws,ai (f z).q.bs,.leaf (Vi (f z).q.wa)]) (fun j hj=>by rw [hT0];simp only [if_neg (Nat.lt_irrefl z)];rfl);have HT:Hid (T0=(fun i=>ac (aJ (if i<z then dz (s+ag i (fun i=>aP (f i))) (f i) else f i)))):=hT0;have G:Hid (MZ w g off 9 n' K' (.slice (some ⟨g,off,none⟩) n' c) z T0 wr [.leaf (Vi (f z).id),.leaf (Vi (f z).pa),.leaf (Vi (f z).un),.leaf (Vi (f z).q.kd),.leaf (Vi (f z).q.pl),.leaf (Vi (f z).q.n),aw (f z).q.ws,ai (f z).q.bs,.leaf (Vi (f z).q.wa)]):=⟨F0,hC,HH.out.2.1,hlt⟩
   clear hF hC F0 hT0 hkk;have v0:=wrI0 kk (by have:=HC.out;have:=HK0.out;omega)
   have v1:=wrI kk 1 2 (by have:=HC.out;have:=HK0.out;omega)
   have v2:=wrI kk 2 3 (by have:=HC.out;have:=HK0.out;omega)
   have v3:=wrI kk 3 4 (by have:=HC.out;have:=HK0.out;omega)
   have v4:=wrI kk 4 5 (by have:=HC.out;have:=HK0.out;omega)
   have v5:=wrI kk 5 6 (by have:=HC.out;have:=HK0.out;omega)
   go_upto_region 5 with (refine MZ.st G rfl _ _ rfl 0 _ ((kk:Nat):Int) _ rfl rfl (by have:=HC.out;have:=HK0.out;omega) (by decide) (by simp) rfl ?_;clear G;intro w9 G)
   simp only [List.set] at G;go_upto_region 7 with (refine MZ.st G rfl _ _ rfl 1 _ ((kk+1:Nat):Int) _ rfl rfl (by have:=HC.out;have:=HK0.out;omega) (by decide) (by simp) rfl ?_;clear G;intro w9 G)
   simp only [List.set] at G;go_upto_region 9 with (refine MZ.st G rfl _ _ rfl 2 _ ((kk+1+1:Nat):Int) _ rfl rfl (by have:=HC.out;have:=HK0.out;omega) (by decide) (by simp) rfl ?_;clear G;intro w9 G)
   simp only [List.set] at G;go_upto_region 11 with (refine MZ.st G rfl _ _ rfl 3 _ (((kk+1+1+1):Nat):Int) _ rfl rfl (by have:=HC.out;have:=HK0.out;omega) (by decide) (by simp) rfl ?_;clear G;intro w9 G)
   simp only [List.set] at G;go_upto_region 13 with (refine MZ.st G rfl _ _ rfl 4 _ (((kk+1+1+1)+1:Nat):Int) _ rfl rfl (by have:=HC.out;have:=HK0.out;omega) (by decide) (by simp) rfl ?_;clear G;intro w9 G)
   simp only [List.set] at G;go_upto_region 15 with (refine MZ.st G rfl _ _ rfl 5 _ (((kk+1+1+1)+1+1:Nat):Int) _ rfl rfl (by have:=HC.out;have:=HK0.out;omega) (by decide) (by simp) rfl ?_;clear G;intro w9 G)
   simp only [List.set] at G;go_upto_region 16 with fail
   clear v0 v1 v2 v3 v4 v5;obtain ⟨a6,c6,q6,t6,o6⟩:=MZ.row G 6 (by decide) rfl;have HS6:Hid (_/\_):=⟨t6,o6⟩
   have HQ6:Hid _:=q6;clear t6 o6;go_wp2_with fail
   refine (fJ (f z).q.ws a6 _ c6 ((kk+1+1+1)+1+1+1) _ (K' z 6) _ (by have:=HC.out;have:=HK0.out;omega) HS6.out.1 HS6.out.2 (by have:=HC.out;have:=HK0.out;omega)).mono ?_;rintro e W1 ⟨rfl,m9,cg9⟩;replace G:=MZ.sub G 6 (by decide) (by simp) HQ6.out cg9 m9;simp only [List.set] at G;obtain ⟨k1,hk1⟩:∃ k1:Nat,k1=(kk+1+1+1)+1+1+1+(f z).q.ws.length:=⟨_,rfl⟩
   rw [<- hk1];have HK1:Hid (k1=(kk+1+1+1)+1+1+1+(f z).q.ws.length):=hk1;clear m9 cg9 hk1 q6 HS6 HQ6;obtain ⟨a7,c7,q7,t7,o7⟩:=MZ.row G 7 (by decide) rfl;have HS7:Hid (_/\_):=⟨t7,o7⟩
   have HQ7:Hid _:=q7;clear t7 o7;go_wp2_with fail
   refine (eu (f z).q.bs a7 _ c7 ((kk+1+1+1)+1+1+1+(f z).q.ws.length) _ (K' z 7) _ (by have:=HC.out;have:=HK0.out;have:=HK1.out;omega) HS7.out.1 HS7.out.2 (by have:=HC.out;have:=HK0.out;have:=HK1.out;omega)).mono ?_;rintro e W2 ⟨rfl,m9,cg9⟩;replace G:=MZ.sub G 7 (by decide) (by simp) HQ7.out cg9 m9;simp only [List.set] at G;obtain ⟨k2,hk2⟩:∃ k2:Nat,k2=(kk+1+1+1)+1+1+1+(f z).q.ws.length+(f z).q.bs.length:=⟨_,rfl⟩
   rw [<- hk2];have HK2:Hid (k2=(kk+1+1+1)+1+1+1+(f z).q.ws.length+(f z).q.bs.length):=hk2;clear m9 cg9 hk2 q7 HS7 HQ7;have v0:=wrI0 k2 (by have:=HC.out;have:=HK0.out;have:=HK1.out;have:=HK2.out;omega)
   go_upto_region 19 with (refine MZ.st G rfl _ _ rfl 8 _ (((kk+1+1+1)+1+1+1+(f z).q.ws.length+(f z).q.bs.length:Nat):Int) _ rfl rfl (by have:=HC.out;have:=HK0.out;have:=HK1.out;have:=HK2.out;omega) (by decide) (by simp) rfl ?_;clear G;intro w9 G)
   simp only [List.set] at G;have HZ:Hid (aQ w9 (.list 9 n' (fun i=>ac (aJ (if i<z+1 then dz (s+ag i (fun i=>aP (f i))) (f i) else f i)))) (.row g off 9 n' K') (.slice (some ⟨g,off,none⟩) n' c)/\Cg w w9 (Sk.row g off 9 n' K').bl/\(k2:Int)+1=((s+ag (z+1) (fun i=>aP (f i)):Nat):Int)):=⟨G.out.1.doneZ (T1:=fun i=>ac (aJ (if i<z+1 then dz (s+ag i (fun i=>aP (f i))) (f i) else f i))) (fun i hi=>by rw [HT.out];simp only [dH hi]) (fun j hj=>by simp only [if_pos (Nat.lt_succ_self z)];rw [<- HK0.out.1];rfl),G.out.2.1,by have:=HC.out;have:=HK0.out;have:=HK1.out;have:=HK2.out;omega⟩
   clear G HT;go_wp2;go_roundw
   case rel=>exact ⟨z+1,by omega,by go_num,congrArg (Value.int .i64) HZ.out.2.2,HZ.out.1,HZ.out.2.1⟩
   case measure=>simp [intOf];omega
  have hi:¬ (z:Int)<(n':Int):=by omega
  have e9:z=n':=by omega
  subst e9;have H1:Hid (_/\_):=⟨HE.out _ hF,hC⟩
  clear hF hC;go_wp2;go_ret;exact ⟨rfl,H1.out.1,H1.out.2⟩
theorem pc(n:Nat)(f:Nat->VN)(a:OA)(n' c s:Nat)(x:Int)(K:Sk)(w:World)(hx:x=((s:Nat):Int))(h:aQ w (.list 17 n (fun i=>ac (aN (f i)))) K (.slice a n' c))(hok:K.ok)(hB:s+ag n (fun i=>bL (f i))<= 1125899906842624):
 Calls prog 35 #[.slice a n' c,Vi x] w fun e w'=>e=.returned (Vi ((s+ag n (fun i=>bL (f i)):Nat):Int))/\aQ w' (.list 17 n (fun i=>ac (aN (cB (s+ag i (fun i=>bL (f i))) (f i))))) K (.slice a n' c)/\Cg w w' K.bl:=by
 subst hx;obtain ⟨rfl,hc1,hm⟩:=h.len;unfold maxLen at hm
 have HE:Hid (∀ w',aQ w' (.list 17 n' (fun i=>ac (aN (if i<n' then cB (s+ag i (fun i=>bL (f i))) (f i) else f i)))) K (.slice a n' c)->aQ w' (.list 17 n' (fun i=>ac (aN (cB (s+ag i (fun i=>bL (f i))) (f i))))) K (.slice a n' c)):=by
  show ∀ w',_;intro w' h9;exact h9.congr (fun k j hk hj=>by simp only [if_pos hk])
 have h1:aQ w (.list 17 n' (fun i=>ac (aN (if i<0 then cB (s+ag i (fun i=>bL (f i))) (f i) else f i)))) K (.slice a n' c):=h.congr (fun k j hk hj=>by simp);clear h;by_cases h0:n'=0
 ·subst h0
  have h2:=HE.out w h1;clear h1;go_enter func35,ntmps35
  go_wp2;refine wp_loop_rounds 1 ?_;rw [rounds_succ];go_wp2;go_ret;exact ⟨rfl,h2,Cg.refl _ _⟩
 obtain ⟨g,off,K',rfl,rfl,-,-,-,hg,-⟩:=h1.row (by omega);have HH:Hid (aQ w (.list 17 n' (fun i=>ac (aN (if i<0 then cB (s+ag i (fun i=>bL (f i))) (f i) else f i)))) (.row g off 17 n' K') (.slice (some ⟨g,off,none⟩) n' c)/\(Sk.row g off 17 n' K').ok/\s+ag n' (fun i=>bL (f i))<= 1125899906842624):=⟨h1,hok,hB⟩
 clear h1 hok hB;go_enter func35,ntmps35
 go_wp2;go_loopw [1,5] (fun kv i wr=>∃ z:Nat,z<= n'/\i=Vi z/\kv=Vi ((s+ag z (fun i=>bL (f i)):Nat):Int)/\aQ wr (.list 17 n' (fun i=>ac (aN (if i<z then cB (s+ag i (fun i=>bL (f i))) (f i) else f i)))) (.row g off 17 n' K') (.slice (some ⟨g,off,none⟩) n' c)/\Cg w wr (Sk.row g off 17 n' K').bl) (fun _ i _=>n'-(intOf i).toNat)
 case atStart=>exact ⟨0,Nat.zero_le _,rfl,rfl,HH.out.1,Cg.refl _ _⟩
 case round=>
  obtain ⟨z,hz,rfl,rfl,hF,hC⟩:=hrel;by_cases hlt:z<n'
  ·have hi:(z:Int)<(n':Int):=by omega
   obtain ⟨kk,hkk⟩:∃ kk,kk=s+ag z (fun i=>bL (f i)):=⟨_,rfl⟩
   rw [<- hkk];have HC:Hid (bL (f z)=ag (f z).nq (fun i=>aP ((f z).qf i))+1+aP (f z).c+1+1+1+1+1+1/\aP (f z).c=1+1+1+bZ (f z).c.q/\bZ (f z).c.q=1+1+1+(f z).c.q.ws.length+(f z).c.q.bs.length+1/\True):=⟨rfl,rfl,rfl,trivial⟩
   have HK0:Hid (kk=s+ag z (fun i=>bL (f i))/\kk+bL (f z)<= 1125899906842624/\s+ag (z+1) (fun i=>bL (f i))=kk+bL (f z)):=⟨hkk,by have h7:=dD (g:=(fun i=>bL (f i))) hlt;have h8:=HH.out.2.2;omega,by rw [hkk];simp only [ag];omega⟩
   obtain ⟨T0,hT0⟩:∃ T0:Nat->Nat->Tr,T0=(fun i=>ac (aN (if i<z then cB (s+ag i (fun i=>bL (f i))) (f i) else f i))):=⟨_,rfl⟩
   rw [<- hT0] at hF;have F0:=hF.toZ (z:=z) (L:=[.list 9 (f z).nq (fun i=>ac (aJ ((f z).qf i))),.leaf (.bool (f z).bz),.leaf (Vi (f z).c.id),.leaf (Vi (f z).c.pa),.leaf (Vi (f z).c.un),.leaf (Vi (f z).c.q.kd),.leaf (Vi (f z).c.q.pl),.leaf (Vi (f z).c.q.n),aw (f z).c.q.ws,ai (f z).c.q.bs,.leaf (Vi (f z).c.q.wa),.leaf (Vi (f z).nu),.leaf (Vi (f z).du),.leaf (Vi (f z).le),.leaf (Vi (f z).nx),.leaf (Vi (f z).wt),.leaf (Vi (f z).tr)]) (fun j hj=>by rw [hT0];simp only [if_neg (Nat.lt_irrefl z)];rfl);have HT:Hid (T0=(fun i=>ac (aN (if i<z then cB (s+ag i (fun i=>bL (f i))) (f i) else f i)))):=hT0;have G:Hid (MZ w g off 17 n' K' (.slice (some ⟨g,off,none⟩) n' c) z T0 wr [.list 9 (f z).nq (fun i=>ac (aJ ((f z).qf i))),.leaf (.bool (f z).bz),.leaf (Vi (f z).c.id),.leaf (Vi (f z).c.pa),.leaf (Vi (f z).c.un),.leaf (Vi (f z).c.q.kd),.leaf (Vi (f z).c.q.pl),.leaf (Vi (f z).c.q.n),aw (f z).c.q.ws,ai (f z).c.q.bs,.leaf (Vi (f z).c.q.wa),.leaf (Vi (f z).nu),.leaf (Vi (f z).du),.leaf (Vi (f z).le),.leaf (Vi (f z).nx),.leaf (Vi (f z).wt),.leaf (Vi (f z).tr)]):=⟨F0,hC,HH.out.2.1,hlt⟩
   clear hF hC F0 hT0 hkk;obtain ⟨a0,c0,q0,t0,o0⟩:=MZ.row G 0 (by decide) rfl;have e0:wr.cell? ⟨g,off+z*17,none⟩=_:=q0;have HS0:Hid (_/\_):=⟨t0,o0⟩
   have HQ0:Hid _:=q0;clear t0 o0;go_wp2_with fail
   refine (pb (f z).nq (f z).qf a0 _ c0 (kk) _ (K' z 0) _ (by have:=HC.out;have:=HK0.out;omega) HS0.out.1 HS0.out.2 (by have:=HC.out;have:=HK0.out;omega)).mono ?_;rintro e W1 ⟨rfl,m9,cg9⟩;replace G:=MZ.sub G 0 (by decide) (by simp) HQ0.out cg9 m9;simp only [List.set] at G;obtain ⟨k1,hk1⟩:∃ k1:Nat,k1=kk+ag (f z).nq (fun i=>aP ((f z).qf i)):=⟨_,rfl⟩
   rw [<- hk1];have HK1:Hid (k1=kk+ag (f z).nq (fun i=>aP ((f z).qf i))):=hk1;clear m9 cg9 hk1 q0 HS0 HQ0 e0;have v0:=wrI0 k1 (by have:=HC.out;have:=HK0.out;have:=HK1.out;omega)
   have v1:=wrI k1 1 2 (by have:=HC.out;have:=HK0.out;have:=HK1.out;omega)
   have v2:=wrI k1 2 3 (by have:=HC.out;have:=HK0.out;have:=HK1.out;omega)
   have v3:=wrI k1 3 4 (by have:=HC.out;have:=HK0.out;have:=HK1.out;omega)
   have v4:=wrI k1 4 5 (by have:=HC.out;have:=HK0.out;have:=HK1.out;omega)
   have v5:=wrI k1 5 6 (by have:=HC.out;have:=HK0.out;have:=HK1.out;omega)
   have v6:=wrI k1 6 7 (by have:=HC.out;have:=HK0.out;have:=HK1.out;omega)
   go_upto_region 6 with (refine MZ.sb G rfl _ _ rfl 1 _ (((kk+ag (f z).nq (fun i=>aP ((f z).qf i)):Nat):Int) % 3 == 0) _ rfl rfl (congrArg (fun x:Int=>x % 3 == 0) (by have:=HC.out;have:=HK0.out;have:=HK1.out;omega)) (by decide) (by simp) rfl ?_;clear G;intro w9 G)
   simp only [List.set] at G;go_upto_region 8 with (refine MZ.st G rfl _ _ rfl 2 _ (((kk+ag (f z).nq (fun i=>aP ((f z).qf i))+1):Nat):Int) _ rfl rfl (by have:=HC.out;have:=HK0.out;have:=HK1.out;omega) (by decide) (by simp) rfl ?_;clear G;intro w9 G)
   simp only [List.set] at G;go_upto_region 10 with (refine MZ.st G rfl _ _ rfl 3 _ (((kk+ag (f z).nq (fun i=>aP ((f z).qf i))+1)+1:Nat):Int) _ rfl rfl (by have:=HC.out;have:=HK0.out;have:=HK1.out;omega) (by decide) (by simp) rfl ?_;clear G;intro w9 G)
   simp only [List.set] at G;go_upto_region 12 with (refine MZ.st G rfl _ _ rfl 4 _ (((kk+ag (f z).nq (fun i=>aP ((f z).qf i))+1)+1+1:Nat):Int) _ rfl rfl (by have:=HC.out;have:=HK0.out;have:=HK1.out;omega) (by decide) (by simp) rfl ?_;clear G;intro w9 G)
   simp only [List.set] at G;go_upto_region 14 with (refine MZ.st G rfl _ _ rfl 5 _ ((((kk+ag (f z).nq (fun i=>aP ((f z).qf i))+1)+1+1+1):Nat):Int) _ rfl rfl (by have:=HC.out;have:=HK0.out;have:=HK1.out;omega) (by decide) (by simp) rfl ?_;clear G;intro w9 G)
   simp only [List.set] at G;go_upto_region 16 with (refine MZ.st G rfl _ _ rfl 6 _ ((((kk+ag (f z).nq (fun i=>aP ((f z).qf i))+1)+1+1+1)+1:Nat):Int) _ rfl rfl (by have:=HC.out;have:=HK0.out;have:=HK1.out;omega) (by decide) (by simp) rfl ?_;clear G;intro w9 G)
   simp only [List.set] at G;go_upto_region 18 with (refine MZ.st G rfl _ _ rfl 7 _ ((((kk+ag (f z).nq (fun i=>aP ((f z).qf i))+1)+1+1+1)+1+1:Nat):Int) _ rfl rfl (by have:=HC.out;have:=HK0.out;have:=HK1.out;omega) (by decide) (by simp) rfl ?_;clear G;intro w9 G)
   simp only [List.set] at G;go_upto_region 19 with fail
   clear v0 v1 v2 v3 v4 v5 v6;obtain ⟨a8,c8,q8,t8,o8⟩:=MZ.row G 8 (by decide) rfl;have HS8:Hid (_/\_):=⟨t8,o8⟩
   have HQ8:Hid _:=q8;clear t8 o8;go_wp2_with fail
   refine (fJ (f z).c.q.ws a8 _ c8 (((kk+ag (f z).nq (fun i=>aP ((f z).qf i))+1)+1+1+1)+1+1+1) _ (K' z 8) _ (by have:=HC.out;have:=HK0.out;have:=HK1.out;omega) HS8.out.1 HS8.out.2 (by have:=HC.out;have:=HK0.out;have:=HK1.out;omega)).mono ?_;rintro e W2 ⟨rfl,m9,cg9⟩;replace G:=MZ.sub G 8 (by decide) (by simp) HQ8.out cg9 m9;simp only [List.set] at G;obtain ⟨k2,hk2⟩:∃ k2:Nat,k2=((kk+ag (f z).nq (fun i=>aP ((f z).qf i))+1)+1+1+1)+1+1+1+(f z).c.q.ws.length:=⟨_,rfl⟩
   rw [<- hk2];have HK2:Hid (k2=((kk+ag (f z).nq (fun i=>aP ((f z).qf i))+1)+1+1+1)+1+1+1+(f z).c.q.ws.length):=hk2;clear m9 cg9 hk2 q8 HS8 HQ8;obtain ⟨a9,c9,q9,t9,o9⟩:=MZ.row G 9 (by decide) rfl;have HS9:Hid (_/\_):=⟨t9,o9⟩
   have HQ9:Hid _:=q9;clear t9 o9;go_wp2_with fail
   refine (eu (f z).c.q.bs a9 _ c9 (((kk+ag (f z).nq (fun i=>aP ((f z).qf i))+1)+1+1+1)+1+1+1+(f z).c.q.ws.length) _ (K' z 9) _ (by have:=HC.out;have:=HK0.out;have:=HK1.out;have:=HK2.out;omega) HS9.out.1 HS9.out.2 (by have:=HC.out;have:=HK0.out;have:=HK1.out;have:=HK2.out;omega)).mono ?_;rintro e W3 ⟨rfl,m9,cg9⟩;replace G:=MZ.sub G 9 (by decide) (by simp) HQ9.out cg9 m9;simp only [List.set] at G;obtain ⟨k3,hk3⟩:∃ k3:Nat,k3=((kk+ag (f z).nq (fun i=>aP ((f z).qf i))+1)+1+1+1)+1+1+1+(f z).c.q.ws.length+(f z).c.q.bs.length:=⟨_,rfl⟩
   rw [<- hk3];have HK3:Hid (k3=((kk+ag (f z).nq (fun i=>aP ((f z).qf i))+1)+1+1+1)+1+1+1+(f z).c.q.ws.length+(f z).c.q.bs.length):=hk3;clear m9 cg9 hk3 q9 HS9 HQ9;have v0:=wrI0 k3 (by have:=HC.out;have:=HK0.out;have:=HK1.out;have:=HK2.out;have:=HK3.out;omega)
   have v1:=wrI k3 1 2 (by have:=HC.out;have:=HK0.out;have:=HK1.out;have:=HK2.out;have:=HK3.out;omega)
   have v2:=wrI k3 2 3 (by have:=HC.out;have:=HK0.out;have:=HK1.out;have:=HK2.out;have:=HK3.out;omega)
   have v3:=wrI k3 3 4 (by have:=HC.out;have:=HK0.out;have:=HK1.out;have:=HK2.out;have:=HK3.out;omega)
   have v4:=wrI k3 4 5 (by have:=HC.out;have:=HK0.out;have:=HK1.out;have:=HK2.out;have:=HK3.out;omega)
   have v5:=wrI k3 5 6 (by have:=HC.out;have:=HK0.out;have:=HK1.out;have:=HK2.out;have:=HK3.out;omega)
   have v6:=wrI k3 6 7 (by have:=HC.out;have:=HK0.out;have:=HK1.out;have:=HK2.out;have:=HK3.out;omega)
   go_upto_region 22 with (refine MZ.st G rfl _ _ rfl 10 _ ((((kk+ag (f z).nq (fun i=>aP ((f z).qf i))+1)+1+1+1)+1+1+1+(f z).c.q.ws.length+(f z).c.q.bs.length:Nat):Int) _ rfl rfl (by have:=HC.out;have:=HK0.out;have:=HK1.out;have:=HK2.out;have:=HK3.out;omega) (by decide) (by simp) rfl ?_;clear G;intro w9 G)
   simp only [List.set] at G;go_upto_region 24 with (refine MZ.st G rfl _ _ rfl 11 _ ((kk+ag (f z).nq (fun i=>aP ((f z).qf i))+1+aP (f z).c:Nat):Int) _ rfl rfl (by have:=HC.out;have:=HK0.out;have:=HK1.out;have:=HK2.out;have:=HK3.out;omega) (by decide) (by simp) rfl ?_;clear G;intro w9 G)
   simp only [List.set] at G;go_upto_region 26 with (refine MZ.st G rfl _ _ rfl 12 _ ((kk+ag (f z).nq (fun i=>aP ((f z).qf i))+1+aP (f z).c+1:Nat):Int) _ rfl rfl (by have:=HC.out;have:=HK0.out;have:=HK1.out;have:=HK2.out;have:=HK3.out;omega) (by decide) (by simp) rfl ?_;clear G;intro w9 G)
   simp only [List.set] at G;go_upto_region 28 with (refine MZ.st G rfl _ _ rfl 13 _ ((kk+ag (f z).nq (fun i=>aP ((f z).qf i))+1+aP (f z).c+1+1:Nat):Int) _ rfl rfl (by have:=HC.out;have:=HK0.out;have:=HK1.out;have:=HK2.out;have:=HK3.out;omega) (by decide) (by simp) rfl ?_;clear G;intro w9 G)
   simp only [List.set] at G;go_upto_region 30 with (refine MZ.st G rfl _ _ rfl 14 _ ((kk+ag (f z).nq (fun i=>aP ((f z).qf i))+1+aP (f z).c+1+1+1:Nat):Int) _ rfl rfl (by have:=HC.out;have:=HK0.out;have:=HK1.out;have:=HK2.out;have:=HK3.out;omega) (by decide) (by simp) rfl ?_;clear G;intro w9 G)
   simp only [List.set] at G;go_upto_region 32 with (refine MZ.st G rfl _ _ rfl 15 _ ((kk+ag (f z).nq (fun i=>aP ((f z).qf i))+1+aP (f z).c+1+1+1+1:Nat):Int) _ rfl rfl (by have:=HC.out;have:=HK0.out;have:=HK1.out;have:=HK2.out;have:=HK3.out;omega) (by decide) (by simp) rfl ?_;clear G;intro w9 G)
   simp only [List.set] at G;go_upto_region 34 with (refine MZ.st G rfl _ _ rfl 16 _ ((kk+ag (f z).nq (fun i=>aP ((f z).qf i))+1+aP (f z).c+1+1+1+1+1:Nat):Int) _ rfl rfl (by have:=HC.out;have:=HK0.out;have:=HK1.out;have:=HK2.out;have:=HK3.out;omega) (by decide) (by simp) rfl ?_;clear G;intro w9 G)
   simp only [List.set] at G;have HZ:Hid (aQ w9 (.list 17 n' (fun i=>ac (aN (if i<z+1 then cB (s+ag i (fun i=>bL (f i))) (f i) else f i)))) (.row g off 17 n' K') (.slice (some ⟨g,off,none⟩) n' c)/\Cg w w9 (Sk.row g off 17 n' K').bl/\(k3:Int)+7=((s+ag (z+1) (fun i=>bL (f i)):Nat):Int)):=⟨G.out.1.doneZ (T1:=fun i=>ac (aN (if i<z+1 then cB (s+ag i (fun i=>bL (f i))) (f i) else f i))) (fun i hi=>by rw [HT.out];simp only [dH hi]) (fun j hj=>by simp only [if_pos (Nat.lt_succ_self z)];rw [<- HK0.out.1];rfl),G.out.2.1,by have:=HC.out;have:=HK0.out;have:=HK1.out;have:=HK2.out;have:=HK3.out;omega⟩
   clear G HT;go_wp2;go_roundw
   case rel=>exact ⟨z+1,by omega,by go_num,congrArg (Value.int .i64) HZ.out.2.2,HZ.out.1,HZ.out.2.1⟩
   case measure=>simp [intOf];omega
  have hi:¬ (z:Int)<(n':Int):=by omega
  have e9:z=n':=by omega
  subst e9;have H1:Hid (_/\_):=⟨HE.out _ hF,hC⟩
  clear hF hC;go_wp2;go_ret;exact ⟨rfl,H1.out.1,H1.out.2⟩
end Go.Proofs.YtohikbpolofklaaGreat
