/- Texts that the proof needs, joined: Mk2. -/
import Derived.Test.YtohikbpolofklaaGreatY4
import Derived.Test.YtohikbpolofklaaGreatY43
set_option linter.unusedVariables false
set_option linter.unusedSimpArgs false
set_option maxHeartbeats 8000000
set_option maxRecDepth 20000
namespace Go.Proofs.YtohikbpolofklaaGreat
open Go.RowKit Go.Joins Go.Proofs.Tryz
theorem oX(n:Nat)(f:Nat->VA)(a:OA)(n' c s:Nat)(x:Int)(K:Sk)(w:World)(hx:x=((s:Nat):Int))(h:aQ w (.list 6 n (fun i=>ac (aT (f i)))) K (.slice a n' c))(hok:K.ok)(hB:s+ag n (fun i=>bS (f i))<= 1125899906842624):
 Calls prog 115 #[.slice a n' c,Vi x] w fun e w'=>e=.returned (Vi ((s+ag n (fun i=>bS (f i)):Nat):Int))/\aQ w' (.list 6 n (fun i=>ac (aT (dA (s+ag i (fun i=>bS (f i))) (f i))))) K (.slice a n' c)/\Cg w w' K.bl:=by
 subst hx;obtain ⟨rfl,hc1,hm⟩:=h.len;unfold maxLen at hm
 have HE:Hid (∀ w',aQ w' (.list 6 n' (fun i=>ac (aT (if i<n' then dA (s+ag i (fun i=>bS (f i))) (f i) else f i)))) K (.slice a n' c)->aQ w' (.list 6 n' (fun i=>ac (aT (dA (s+ag i (fun i=>bS (f i))) (f i))))) K (.slice a n' c)):=by
  show ∀ w',_;intro w' h9;exact h9.congr (fun k j hk hj=>by simp only [if_pos hk])
 have h1:aQ w (.list 6 n' (fun i=>ac (aT (if i<0 then dA (s+ag i (fun i=>bS (f i))) (f i) else f i)))) K (.slice a n' c):=h.congr (fun k j hk hj=>by simp);clear h;by_cases h0:n'=0
 ·subst h0
  have h2:=HE.out w h1;clear h1;go_enter func115,ntmps115
  go_wp2;refine wp_loop_rounds 1 ?_;rw [rounds_succ];go_wp2;go_ret;exact ⟨rfl,h2,Cg.refl _ _⟩
 obtain ⟨g,off,K',rfl,rfl,-,-,-,hg,-⟩:=h1.row (by omega);have HH:Hid (aQ w (.list 6 n' (fun i=>ac (aT (if i<0 then dA (s+ag i (fun i=>bS (f i))) (f i) else f i)))) (.row g off 6 n' K') (.slice (some ⟨g,off,none⟩) n' c)/\(Sk.row g off 6 n' K').ok/\s+ag n' (fun i=>bS (f i))<= 1125899906842624):=⟨h1,hok,hB⟩
 clear h1 hok hB;go_enter func115,ntmps115
 go_wp2;go_loopw [1,5] (fun kv i wr=>∃ z:Nat,z<= n'/\i=Vi z/\kv=Vi ((s+ag z (fun i=>bS (f i)):Nat):Int)/\aQ wr (.list 6 n' (fun i=>ac (aT (if i<z then dA (s+ag i (fun i=>bS (f i))) (f i) else f i)))) (.row g off 6 n' K') (.slice (some ⟨g,off,none⟩) n' c)/\Cg w wr (Sk.row g off 6 n' K').bl) (fun _ i _=>n'-(intOf i).toNat)
 case atStart=>exact ⟨0,Nat.zero_le _,rfl,rfl,HH.out.1,Cg.refl _ _⟩
 case round=>
  obtain ⟨z,hz,rfl,rfl,hF,hC⟩:=hrel;by_cases hlt:z<n'
  ·have hi:(z:Int)<(n':Int):=by omega
   obtain ⟨kk,hkk⟩:∃ kk,kk=s+ag z (fun i=>bS (f i)):=⟨_,rfl⟩
   rw [<- hkk];have HC:Hid (bS (f z)=1+1+1+1+(f z).ws.length+(f z).bs.length/\True):=⟨rfl,trivial⟩
   have HK0:Hid (kk=s+ag z (fun i=>bS (f i))/\kk+bS (f z)<= 1125899906842624/\s+ag (z+1) (fun i=>bS (f i))=kk+bS (f z)):=⟨hkk,by have h7:=dD (g:=(fun i=>bS (f i))) hlt;have h8:=HH.out.2.2;omega,by rw [hkk];simp only [ag];omega⟩
   obtain ⟨T0,hT0⟩:∃ T0:Nat->Nat->Tr,T0=(fun i=>ac (aT (if i<z then dA (s+ag i (fun i=>bS (f i))) (f i) else f i))):=⟨_,rfl⟩
   rw [<- hT0] at hF;have F0:=hF.toZ (z:=z) (L:=[.leaf (Vi (f z).kd),.leaf (Vi (f z).fl),.leaf (Vi (f z).pl),.leaf (Vi (f z).n),aw (f z).ws,ai (f z).bs]) (fun j hj=>by rw [hT0];simp only [if_neg (Nat.lt_irrefl z)];rfl);have HT:Hid (T0=(fun i=>ac (aT (if i<z then dA (s+ag i (fun i=>bS (f i))) (f i) else f i)))):=hT0;have G:Hid (MZ w g off 6 n' K' (.slice (some ⟨g,off,none⟩) n' c) z T0 wr [.leaf (Vi (f z).kd),.leaf (Vi (f z).fl),.leaf (Vi (f z).pl),.leaf (Vi (f z).n),aw (f z).ws,ai (f z).bs]):=⟨F0,hC,HH.out.2.1,hlt⟩
   clear hF hC F0 hT0 hkk;have v0:=wrI0 kk (by have:=HC.out;have:=HK0.out;omega)
   have v1:=wrI kk 1 2 (by have:=HC.out;have:=HK0.out;omega)
   have v2:=wrI kk 2 3 (by have:=HC.out;have:=HK0.out;omega)
   have v3:=wrI kk 3 4 (by have:=HC.out;have:=HK0.out;omega)
   go_upto_region 5 with (refine MZ.st G rfl _ _ rfl 0 _ ((kk:Nat):Int) _ rfl rfl (by have:=HC.out;have:=HK0.out;omega) (by decide) (by simp) rfl ?_;clear G;intro w9 G)
   simp only [List.set] at G;go_upto_region 7 with (refine MZ.st G rfl _ _ rfl 1 _ ((kk+1:Nat):Int) _ rfl rfl (by have:=HC.out;have:=HK0.out;omega) (by decide) (by simp) rfl ?_;clear G;intro w9 G)
   simp only [List.set] at G;go_upto_region 9 with (refine MZ.st G rfl _ _ rfl 2 _ ((kk+1+1:Nat):Int) _ rfl rfl (by have:=HC.out;have:=HK0.out;omega) (by decide) (by simp) rfl ?_;clear G;intro w9 G)
   simp only [List.set] at G;go_upto_region 11 with (refine MZ.st G rfl _ _ rfl 3 _ ((kk+1+1+1:Nat):Int) _ rfl rfl (by have:=HC.out;have:=HK0.out;omega) (by decide) (by simp) rfl ?_;clear G;intro w9 G)
   simp only [List.set] at G;go_upto_region 12 with fail
   clear v0 v1 v2 v3;obtain ⟨a4,c4,q4,t4,o4⟩:=MZ.row G 4 (by decide) rfl;have HS4:Hid (_/\_):=⟨t4,o4⟩
   have HQ4:Hid _:=q4;clear t4 o4;go_wp2_with fail
   refine (fJ (f z).ws a4 _ c4 (kk+1+1+1+1) _ (K' z 4) _ (by have:=HC.out;have:=HK0.out;omega) HS4.out.1 HS4.out.2 (by have:=HC.out;have:=HK0.out;omega)).mono ?_;rintro e W1 ⟨rfl,m9,cg9⟩;replace G:=MZ.sub G 4 (by decide) (by simp) HQ4.out cg9 m9;simp only [List.set] at G;obtain ⟨k1,hk1⟩:∃ k1:Nat,k1=kk+1+1+1+1+(f z).ws.length:=⟨_,rfl⟩
   rw [<- hk1];have HK1:Hid (k1=kk+1+1+1+1+(f z).ws.length):=hk1;clear m9 cg9 hk1 q4 HS4 HQ4;obtain ⟨a5,c5,q5,t5,o5⟩:=MZ.row G 5 (by decide) rfl;have HS5:Hid (_/\_):=⟨t5,o5⟩
   have HQ5:Hid _:=q5;clear t5 o5;go_wp2_with fail
   refine (eu (f z).bs a5 _ c5 (kk+1+1+1+1+(f z).ws.length) _ (K' z 5) _ (by have:=HC.out;have:=HK0.out;have:=HK1.out;omega) HS5.out.1 HS5.out.2 (by have:=HC.out;have:=HK0.out;have:=HK1.out;omega)).mono ?_;rintro e W2 ⟨rfl,m9,cg9⟩;replace G:=MZ.sub G 5 (by decide) (by simp) HQ5.out cg9 m9;simp only [List.set] at G;obtain ⟨k2,hk2⟩:∃ k2:Nat,k2=kk+1+1+1+1+(f z).ws.length+(f z).bs.length:=⟨_,rfl⟩
   rw [<- hk2];have HK2:Hid (k2=kk+1+1+1+1+(f z).ws.length+(f z).bs.length):=hk2;clear m9 cg9 hk2 q5 HS5 HQ5;have HZ:Hid (aQ W2 (.list 6 n' (fun i=>ac (aT (if i<z+1 then dA (s+ag i (fun i=>bS (f i))) (f i) else f i)))) (.row g off 6 n' K') (.slice (some ⟨g,off,none⟩) n' c)/\Cg w W2 (Sk.row g off 6 n' K').bl/\(k2:Int)=((s+ag (z+1) (fun i=>bS (f i)):Nat):Int)):=⟨G.out.1.doneZ (T1:=fun i=>ac (aT (if i<z+1 then dA (s+ag i (fun i=>bS (f i))) (f i) else f i))) (fun i hi=>by rw [HT.out];simp only [dH hi]) (fun j hj=>by simp only [if_pos (Nat.lt_succ_self z)];rw [<- HK0.out.1];rfl),G.out.2.1,by have:=HC.out;have:=HK0.out;have:=HK1.out;have:=HK2.out;omega⟩
   clear G HT;go_wp2;go_roundw
   case rel=>exact ⟨z+1,by omega,by go_num,congrArg (Value.int .i64) HZ.out.2.2,HZ.out.1,HZ.out.2.1⟩
   case measure=>simp [intOf];omega
  have hi:¬ (z:Int)<(n':Int):=by omega
  have e9:z=n':=by omega
  subst e9;have H1:Hid (_/\_):=⟨HE.out _ hF,hC⟩
  clear hF hC;go_wp2;go_ret;exact ⟨rfl,H1.out.1,H1.out.2⟩
theorem oY(n:Nat)(f:Nat->VP)(a:OA)(n' c s:Nat)(x:Int)(K:Sk)(w:World)(hx:x=((s:Nat):Int))(h:aQ w (.list 8 n (fun i=>ac (pT (f i)))) K (.slice a n' c))(hok:K.ok)(hB:s+ag n (fun i=>bJ (f i))<= 1125899906842624):
 Calls prog 114 #[.slice a n' c,Vi x] w fun e w'=>e=.returned (Vi ((s+ag n (fun i=>bJ (f i)):Nat):Int))/\aQ w' (.list 8 n (fun i=>ac (pT (dB (s+ag i (fun i=>bJ (f i))) (f i))))) K (.slice a n' c)/\Cg w w' K.bl:=by
 subst hx;obtain ⟨rfl,hc1,hm⟩:=h.len;unfold maxLen at hm
 have HE:Hid (∀ w',aQ w' (.list 8 n' (fun i=>ac (pT (if i<n' then dB (s+ag i (fun i=>bJ (f i))) (f i) else f i)))) K (.slice a n' c)->aQ w' (.list 8 n' (fun i=>ac (pT (dB (s+ag i (fun i=>bJ (f i))) (f i))))) K (.slice a n' c)):=by
  show ∀ w',_;intro w' h9;exact h9.congr (fun k j hk hj=>by simp only [if_pos hk])
 have h1:aQ w (.list 8 n' (fun i=>ac (pT (if i<0 then dB (s+ag i (fun i=>bJ (f i))) (f i) else f i)))) K (.slice a n' c):=h.congr (fun k j hk hj=>by simp);clear h;by_cases h0:n'=0
 ·subst h0
  have h2:=HE.out w h1;clear h1;go_enter func114,ntmps114
  go_wp2;refine wp_loop_rounds 1 ?_;rw [rounds_succ];go_wp2;go_ret;exact ⟨rfl,h2,Cg.refl _ _⟩
 obtain ⟨g,off,K',rfl,rfl,-,-,-,hg,-⟩:=h1.row (by omega);have HH:Hid (aQ w (.list 8 n' (fun i=>ac (pT (if i<0 then dB (s+ag i (fun i=>bJ (f i))) (f i) else f i)))) (.row g off 8 n' K') (.slice (some ⟨g,off,none⟩) n' c)/\(Sk.row g off 8 n' K').ok/\s+ag n' (fun i=>bJ (f i))<= 1125899906842624):=⟨h1,hok,hB⟩
 clear h1 hok hB;go_enter func114,ntmps114
 go_wp2;go_loopw [1,5] (fun kv i wr=>∃ z:Nat,z<= n'/\i=Vi z/\kv=Vi ((s+ag z (fun i=>bJ (f i)):Nat):Int)/\aQ wr (.list 8 n' (fun i=>ac (pT (if i<z then dB (s+ag i (fun i=>bJ (f i))) (f i) else f i)))) (.row g off 8 n' K') (.slice (some ⟨g,off,none⟩) n' c)/\Cg w wr (Sk.row g off 8 n' K').bl) (fun _ i _=>n'-(intOf i).toNat)
 case atStart=>exact ⟨0,Nat.zero_le _,rfl,rfl,HH.out.1,Cg.refl _ _⟩
 case round=>
  obtain ⟨z,hz,rfl,rfl,hF,hC⟩:=hrel;by_cases hlt:z<n'
  ·have hi:(z:Int)<(n':Int):=by omega
   obtain ⟨kk,hkk⟩:∃ kk,kk=s+ag z (fun i=>bJ (f i)):=⟨_,rfl⟩
   rw [<- hkk];have HC:Hid (bJ (f z)=1+1+bZ (f z).q/\bZ (f z).q=1+1+1+(f z).q.ws.length+(f z).q.bs.length+1/\True):=⟨rfl,rfl,trivial⟩
   have HK0:Hid (kk=s+ag z (fun i=>bJ (f i))/\kk+bJ (f z)<= 1125899906842624/\s+ag (z+1) (fun i=>bJ (f i))=kk+bJ (f z)):=⟨hkk,by have h7:=dD (g:=(fun i=>bJ (f i))) hlt;have h8:=HH.out.2.2;omega,by rw [hkk];simp only [ag];omega⟩
   obtain ⟨T0,hT0⟩:∃ T0:Nat->Nat->Tr,T0=(fun i=>ac (pT (if i<z then dB (s+ag i (fun i=>bJ (f i))) (f i) else f i))):=⟨_,rfl⟩
   rw [<- hT0] at hF;have F0:=hF.toZ (z:=z) (L:=[.leaf (Vi (f z).p),.leaf (Vi (f z).t),.leaf (Vi (f z).q.kd),.leaf (Vi (f z).q.pl),.leaf (Vi (f z).q.n),aw (f z).q.ws,ai (f z).q.bs,.leaf (Vi (f z).q.wa)]) (fun j hj=>by rw [hT0];simp only [if_neg (Nat.lt_irrefl z)];rfl);have HT:Hid (T0=(fun i=>ac (pT (if i<z then dB (s+ag i (fun i=>bJ (f i))) (f i) else f i)))):=hT0;have G:Hid (MZ w g off 8 n' K' (.slice (some ⟨g,off,none⟩) n' c) z T0 wr [.leaf (Vi (f z).p),.leaf (Vi (f z).t),.leaf (Vi (f z).q.kd),.leaf (Vi (f z).q.pl),.leaf (Vi (f z).q.n),aw (f z).q.ws,ai (f z).q.bs,.leaf (Vi (f z).q.wa)]):=⟨F0,hC,HH.out.2.1,hlt⟩
   clear hF hC F0 hT0 hkk;have v0:=wrI0 kk (by have:=HC.out;have:=HK0.out;omega)
   have v1:=wrI kk 1 2 (by have:=HC.out;have:=HK0.out;omega)
   have v2:=wrI kk 2 3 (by have:=HC.out;have:=HK0.out;omega)
   have v3:=wrI kk 3 4 (by have:=HC.out;have:=HK0.out;omega)
   have v4:=wrI kk 4 5 (by have:=HC.out;have:=HK0.out;omega)
   go_upto_region 5 with (refine MZ.st G rfl _ _ rfl 0 _ ((kk:Nat):Int) _ rfl rfl (by have:=HC.out;have:=HK0.out;omega) (by decide) (by simp) rfl ?_;clear G;intro w9 G)
   simp only [List.set] at G;go_upto_region 7 with (refine MZ.st G rfl _ _ rfl 1 _ ((kk+1:Nat):Int) _ rfl rfl (by have:=HC.out;have:=HK0.out;omega) (by decide) (by simp) rfl ?_;clear G;intro w9 G)
   simp only [List.set] at G;go_upto_region 9 with (refine MZ.st G rfl _ _ rfl 2 _ (((kk+1+1):Nat):Int) _ rfl rfl (by have:=HC.out;have:=HK0.out;omega) (by decide) (by simp) rfl ?_;clear G;intro w9 G)
   simp only [List.set] at G;go_upto_region 11 with (refine MZ.st G rfl _ _ rfl 3 _ (((kk+1+1)+1:Nat):Int) _ rfl rfl (by have:=HC.out;have:=HK0.out;omega) (by decide) (by simp) rfl ?_;clear G;intro w9 G)
   simp only [List.set] at G;go_upto_region 13 with (refine MZ.st G rfl _ _ rfl 4 _ (((kk+1+1)+1+1:Nat):Int) _ rfl rfl (by have:=HC.out;have:=HK0.out;omega) (by decide) (by simp) rfl ?_;clear G;intro w9 G)
   simp only [List.set] at G;go_upto_region 14 with fail
   clear v0 v1 v2 v3 v4;obtain ⟨a5,c5,q5,t5,o5⟩:=MZ.row G 5 (by decide) rfl;have HS5:Hid (_/\_):=⟨t5,o5⟩
   have HQ5:Hid _:=q5;clear t5 o5;go_wp2_with fail
   refine (fJ (f z).q.ws a5 _ c5 ((kk+1+1)+1+1+1) _ (K' z 5) _ (by have:=HC.out;have:=HK0.out;omega) HS5.out.1 HS5.out.2 (by have:=HC.out;have:=HK0.out;omega)).mono ?_;rintro e W1 ⟨rfl,m9,cg9⟩;replace G:=MZ.sub G 5 (by decide) (by simp) HQ5.out cg9 m9;simp only [List.set] at G;obtain ⟨k1,hk1⟩:∃ k1:Nat,k1=(kk+1+1)+1+1+1+(f z).q.ws.length:=⟨_,rfl⟩
   rw [<- hk1];have HK1:Hid (k1=(kk+1+1)+1+1+1+(f z).q.ws.length):=hk1;clear m9 cg9 hk1 q5 HS5 HQ5;obtain ⟨a6,c6,q6,t6,o6⟩:=MZ.row G 6 (by decide) rfl;have HS6:Hid (_/\_):=⟨t6,o6⟩
   have HQ6:Hid _:=q6;clear t6 o6;go_wp2_with fail
   refine (eu (f z).q.bs a6 _ c6 ((kk+1+1)+1+1+1+(f z).q.ws.length) _ (K' z 6) _ (by have:=HC.out;have:=HK0.out;have:=HK1.out;omega) HS6.out.1 HS6.out.2 (by have:=HC.out;have:=HK0.out;have:=HK1.out;omega)).mono ?_;rintro e W2 ⟨rfl,m9,cg9⟩;replace G:=MZ.sub G 6 (by decide) (by simp) HQ6.out cg9 m9;simp only [List.set] at G;obtain ⟨k2,hk2⟩:∃ k2:Nat,k2=(kk+1+1)+1+1+1+(f z).q.ws.length+(f z).q.bs.length:=⟨_,rfl⟩
   rw [<- hk2];have HK2:Hid (k2=(kk+1+1)+1+1+1+(f z).q.ws.length+(f z).q.bs.length):=hk2;clear m9 cg9 hk2 q6 HS6 HQ6;have v0:=wrI0 k2 (by have:=HC.out;have:=HK0.out;have:=HK1.out;have:=HK2.out;omega)
   go_upto_region 17 with (refine MZ.st G rfl _ _ rfl 7 _ (((kk+1+1)+1+1+1+(f z).q.ws.length+(f z).q.bs.length:Nat):Int) _ rfl rfl (by have:=HC.out;have:=HK0.out;have:=HK1.out;have:=HK2.out;omega) (by decide) (by simp) rfl ?_;clear G;intro w9 G)
   simp only [List.set] at G;have HZ:Hid (aQ w9 (.list 8 n' (fun i=>ac (pT (if i<z+1 then dB (s+ag i (fun i=>bJ (f i))) (f i) else f i)))) (.row g off 8 n' K') (.slice (some ⟨g,off,none⟩) n' c)/\Cg w w9 (Sk.row g off 8 n' K').bl/\(k2:Int)+1=((s+ag (z+1) (fun i=>bJ (f i)):Nat):Int)):=⟨G.out.1.doneZ (T1:=fun i=>ac (pT (if i<z+1 then dB (s+ag i (fun i=>bJ (f i))) (f i) else f i))) (fun i hi=>by rw [HT.out];simp only [dH hi]) (fun j hj=>by simp only [if_pos (Nat.lt_succ_self z)];rw [<- HK0.out.1];rfl),G.out.2.1,by have:=HC.out;have:=HK0.out;have:=HK1.out;have:=HK2.out;omega⟩
   clear G HT;go_wp2;go_roundw
   case rel=>exact ⟨z+1,by omega,by go_num,congrArg (Value.int .i64) HZ.out.2.2,HZ.out.1,HZ.out.2.1⟩
   case measure=>simp [intOf];omega
  have hi:¬ (z:Int)<(n':Int):=by omega
  have e9:z=n':=by omega
  subst e9;have H1:Hid (_/\_):=⟨HE.out _ hF,hC⟩
  clear hF hC;go_wp2;go_ret;exact ⟨rfl,H1.out.1,H1.out.2⟩
theorem oZ(n:Nat)(f:Nat->VD)(a:OA)(n' c s:Nat)(x:Int)(K:Sk)(w:World)(hx:x=((s:Nat):Int))(h:aQ w (.list 13 n (fun i=>ac (dT (f i)))) K (.slice a n' c))(hok:K.ok)(hB:s+ag n (fun i=>bK (f i))<= 1125899906842624):
 Calls prog 68 #[.slice a n' c,Vi x] w fun e w'=>e=.returned (Vi ((s+ag n (fun i=>bK (f i)):Nat):Int))/\aQ w' (.list 13 n (fun i=>ac (dT (bV (s+ag i (fun i=>bK (f i))) (f i))))) K (.slice a n' c)/\Cg w w' K.bl:=by
 subst hx;obtain ⟨rfl,hc1,hm⟩:=h.len;unfold maxLen at hm
 have HE:Hid (∀ w',aQ w' (.list 13 n' (fun i=>ac (dT (if i<n' then bV (s+ag i (fun i=>bK (f i))) (f i) else f i)))) K (.slice a n' c)->aQ w' (.list 13 n' (fun i=>ac (dT (bV (s+ag i (fun i=>bK (f i))) (f i))))) K (.slice a n' c)):=by
  show ∀ w',_;intro w' h9;exact h9.congr (fun k j hk hj=>by simp only [if_pos hk])
 have h1:aQ w (.list 13 n' (fun i=>ac (dT (if i<0 then bV (s+ag i (fun i=>bK (f i))) (f i) else f i)))) K (.slice a n' c):=h.congr (fun k j hk hj=>by simp);clear h;by_cases h0:n'=0
 ·subst h0
  have h2:=HE.out w h1;clear h1;go_enter func68,ntmps68
  go_wp2;refine wp_loop_rounds 1 ?_;rw [rounds_succ];go_wp2;go_ret;exact ⟨rfl,h2,Cg.refl _ _⟩
 obtain ⟨g,off,K',rfl,rfl,-,-,-,hg,-⟩:=h1.row (by omega);have HH:Hid (aQ w (.list 13 n' (fun i=>ac (dT (if i<0 then bV (s+ag i (fun i=>bK (f i))) (f i) else f i)))) (.row g off 13 n' K') (.slice (some ⟨g,off,none⟩) n' c)/\(Sk.row g off 13 n' K').ok/\s+ag n' (fun i=>bK (f i))<= 1125899906842624):=⟨h1,hok,hB⟩
 clear h1 hok hB;go_enter func68,ntmps68
 go_wp2;go_loopw [1,5] (fun kv i wr=>∃ z:Nat,z<= n'/\i=Vi z/\kv=Vi ((s+ag z (fun i=>bK (f i)):Nat):Int)/\aQ wr (.list 13 n' (fun i=>ac (dT (if i<z then bV (s+ag i (fun i=>bK (f i))) (f i) else f i)))) (.row g off 13 n' K') (.slice (some ⟨g,off,none⟩) n' c)/\Cg w wr (Sk.row g off 13 n' K').bl) (fun _ i _=>n'-(intOf i).toNat)
 case atStart=>exact ⟨0,Nat.zero_le _,rfl,rfl,HH.out.1,Cg.refl _ _⟩
 case round=>
  obtain ⟨z,hz,rfl,rfl,hF,hC⟩:=hrel;by_cases hlt:z<n'
  ·have hi:(z:Int)<(n':Int):=by omega
   obtain ⟨kk,hkk⟩:∃ kk,kk=s+ag z (fun i=>bK (f i)):=⟨_,rfl⟩
   rw [<- hkk];have HC:Hid (bK (f z)=1+1+1+1+bZ (f z).q+ag (f z).np (fun i=>bJ ((f z).pt i))+(f z).hs.length+ag (f z).nt (fun i=>bS ((f z).tl i))/\bZ (f z).q=1+1+1+(f z).q.ws.length+(f z).q.bs.length+1/\True):=⟨rfl,rfl,trivial⟩
   have HK0:Hid (kk=s+ag z (fun i=>bK (f i))/\kk+bK (f z)<= 1125899906842624/\s+ag (z+1) (fun i=>bK (f i))=kk+bK (f z)):=⟨hkk,by have h7:=dD (g:=(fun i=>bK (f i))) hlt;have h8:=HH.out.2.2;omega,by rw [hkk];simp only [ag];omega⟩
   obtain ⟨T0,hT0⟩:∃ T0:Nat->Nat->Tr,T0=(fun i=>ac (dT (if i<z then bV (s+ag i (fun i=>bK (f i))) (f i) else f i))):=⟨_,rfl⟩
   rw [<- hT0] at hF;have F0:=hF.toZ (z:=z) (L:=[.leaf (Vi (f z).id),.leaf (Vi (f z).so),.leaf (Vi (f z).ta),.leaf (Vi (f z).un),.leaf (Vi (f z).q.kd),.leaf (Vi (f z).q.pl),.leaf (Vi (f z).q.n),aw (f z).q.ws,ai (f z).q.bs,.leaf (Vi (f z).q.wa),.list 8 (f z).np (fun i=>ac (pT ((f z).pt i))),ai (f z).hs,.list 6 (f z).nt (fun i=>ac (aT ((f z).tl i)))]) (fun j hj=>by rw [hT0];simp only [if_neg (Nat.lt_irrefl z)];rfl);have HT:Hid (T0=(fun i=>ac (dT (if i<z then bV (s+ag i (fun i=>bK (f i))) (f i) else f i)))):=hT0;have G:Hid (MZ w g off 13 n' K' (.slice (some ⟨g,off,none⟩) n' c) z T0 wr [.leaf (Vi (f z).id),.leaf (Vi (f z).so),.leaf (Vi (f z).ta),.leaf (Vi (f z).un),.leaf (Vi (f z).q.kd),.leaf (Vi (f z).q.pl),.leaf (Vi (f z).q.n),aw (f z).q.ws,ai (f z).q.bs,.leaf (Vi (f z).q.wa),.list 8 (f z).np (fun i=>ac (pT ((f z).pt i))),ai (f z).hs,.list 6 (f z).nt (fun i=>ac (aT ((f z).tl i)))]):=⟨F0,hC,HH.out.2.1,hlt⟩
   clear hF hC F0 hT0 hkk;have v0:=wrI0 kk (by have:=HC.out;have:=HK0.out;omega)
   have v1:=wrI kk 1 2 (by have:=HC.out;have:=HK0.out;omega)
   have v2:=wrI kk 2 3 (by have:=HC.out;have:=HK0.out;omega)
   have v3:=wrI kk 3 4 (by have:=HC.out;have:=HK0.out;omega)
   have v4:=wrI kk 4 5 (by have:=HC.out;have:=HK0.out;omega)
   have v5:=wrI kk 5 6 (by have:=HC.out;have:=HK0.out;omega)
   have v6:=wrI kk 6 7 (by have:=HC.out;have:=HK0.out;omega)
   go_upto_region 5 with (refine MZ.st G rfl _ _ rfl 0 _ ((kk:Nat):Int) _ rfl rfl (by have:=HC.out;have:=HK0.out;omega) (by decide) (by simp) rfl ?_;clear G;intro w9 G)
   simp only [List.set] at G;go_upto_region 7 with (refine MZ.st G rfl _ _ rfl 1 _ ((kk+1:Nat):Int) _ rfl rfl (by have:=HC.out;have:=HK0.out;omega) (by decide) (by simp) rfl ?_;clear G;intro w9 G)
   simp only [List.set] at G;go_upto_region 9 with (refine MZ.st G rfl _ _ rfl 2 _ ((kk+1+1:Nat):Int) _ rfl rfl (by have:=HC.out;have:=HK0.out;omega) (by decide) (by simp) rfl ?_;clear G;intro w9 G)
   simp only [List.set] at G;go_upto_region 11 with (refine MZ.st G rfl _ _ rfl 3 _ ((kk+1+1+1:Nat):Int) _ rfl rfl (by have:=HC.out;have:=HK0.out;omega) (by decide) (by simp) rfl ?_;clear G;intro w9 G)
   simp only [List.set] at G;go_upto_region 13 with (refine MZ.st G rfl _ _ rfl 4 _ (((kk+1+1+1+1):Nat):Int) _ rfl rfl (by have:=HC.out;have:=HK0.out;omega) (by decide) (by simp) rfl ?_;clear G;intro w9 G)
   simp only [List.set] at G;go_upto_region 15 with (refine MZ.st G rfl _ _ rfl 5 _ (((kk+1+1+1+1)+1:Nat):Int) _ rfl rfl (by have:=HC.out;have:=HK0.out;omega) (by decide) (by simp) rfl ?_;clear G;intro w9 G)
   simp only [List.set] at G;go_upto_region 17 with (refine MZ.st G rfl _ _ rfl 6 _ (((kk+1+1+1+1)+1+1:Nat):Int) _ rfl rfl (by have:=HC.out;have:=HK0.out;omega) (by decide) (by simp) rfl ?_;clear G;intro w9 G)
   simp only [List.set] at G;go_upto_region 18 with fail
   clear v0 v1 v2 v3 v4 v5 v6;obtain ⟨a7,c7,q7,t7,o7⟩:=MZ.row G 7 (by decide) rfl;have HS7:Hid (_/\_):=⟨t7,o7⟩
   have HQ7:Hid _:=q7;clear t7 o7;go_wp2_with fail
   refine (fJ (f z).q.ws a7 _ c7 ((kk+1+1+1+1)+1+1+1) _ (K' z 7) _ (by have:=HC.out;have:=HK0.out;omega) HS7.out.1 HS7.out.2 (by have:=HC.out;have:=HK0.out;omega)).mono ?_;rintro e W1 ⟨rfl,m9,cg9⟩;replace G:=MZ.sub G 7 (by decide) (by simp) HQ7.out cg9 m9;simp only [List.set] at G;obtain ⟨k1,hk1⟩:∃ k1:Nat,k1=(kk+1+1+1+1)+1+1+1+(f z).q.ws.length:=⟨_,rfl⟩
   rw [<- hk1];have HK1:Hid (k1=(kk+1+1+1+1)+1+1+1+(f z).q.ws.length):=hk1;clear m9 cg9 hk1 q7 HS7 HQ7;obtain ⟨a8,c8,q8,t8,o8⟩:=MZ.row G 8 (by decide) rfl;have HS8:Hid (_/\_):=⟨t8,o8⟩
   have HQ8:Hid _:=q8;clear t8 o8;go_wp2_with fail
   refine (eu (f z).q.bs a8 _ c8 ((kk+1+1+1+1)+1+1+1+(f z).q.ws.length) _ (K' z 8) _ (by have:=HC.out;have:=HK0.out;have:=HK1.out;omega) HS8.out.1 HS8.out.2 (by have:=HC.out;have:=HK0.out;have:=HK1.out;omega)).mono ?_;rintro e W2 ⟨rfl,m9,cg9⟩;replace G:=MZ.sub G 8 (by decide) (by simp) HQ8.out cg9 m9;simp only [List.set] at G;obtain ⟨k2,hk2⟩:∃ k2:Nat,k2=(kk+1+1+1+1)+1+1+1+(f z).q.ws.length+(f z).q.bs.length:=⟨_,rfl⟩
   rw [<- hk2];have HK2:Hid (k2=(kk+1+1+1+1)+1+1+1+(f z).q.ws.length+(f z).q.bs.length):=hk2;clear m9 cg9 hk2 q8 HS8 HQ8;have v0:=wrI0 k2 (by have:=HC.out;have:=HK0.out;have:=HK1.out;have:=HK2.out;omega)
   go_upto_region 21 with (refine MZ.st G rfl _ _ rfl 9 _ (((kk+1+1+1+1)+1+1+1+(f z).q.ws.length+(f z).q.bs.length:Nat):Int) _ rfl rfl (by have:=HC.out;have:=HK0.out;have:=HK1.out;have:=HK2.out;omega) (by decide) (by simp) rfl ?_;clear G;intro w9 G)
   simp only [List.set] at G;go_upto_region 22 with fail
   clear v0;obtain ⟨a10,c10,q10,t10,o10⟩:=MZ.row G 10 (by decide) rfl;have HS10:Hid (_/\_):=⟨t10,o10⟩
   have HQ10:Hid _:=q10;clear t10 o10;go_wp2_with fail
   refine (oY (f z).np (f z).pt a10 _ c10 (kk+1+1+1+1+bZ (f z).q) _ (K' z 10) _ (by have:=HC.out;have:=HK0.out;have:=HK1.out;have:=HK2.out;omega) HS10.out.1 HS10.out.2 (by have:=HC.out;have:=HK0.out;have:=HK1.out;have:=HK2.out;omega)).mono ?_;rintro e W3 ⟨rfl,m9,cg9⟩;replace G:=MZ.sub G 10 (by decide) (by simp) HQ10.out cg9 m9;simp only [List.set] at G;obtain ⟨k3,hk3⟩:∃ k3:Nat,k3=kk+1+1+1+1+bZ (f z).q+ag (f z).np (fun i=>bJ ((f z).pt i)):=⟨_,rfl⟩
   rw [<- hk3];have HK3:Hid (k3=kk+1+1+1+1+bZ (f z).q+ag (f z).np (fun i=>bJ ((f z).pt i))):=hk3;clear m9 cg9 hk3 q10 HS10 HQ10;obtain ⟨a11,c11,q11,t11,o11⟩:=MZ.row G 11 (by decide) rfl;have HS11:Hid (_/\_):=⟨t11,o11⟩
   have HQ11:Hid _:=q11;clear t11 o11;go_wp2_with fail
   refine (eu (f z).hs a11 _ c11 (kk+1+1+1+1+bZ (f z).q+ag (f z).np (fun i=>bJ ((f z).pt i))) _ (K' z 11) _ (by have:=HC.out;have:=HK0.out;have:=HK1.out;have:=HK2.out;have:=HK3.out;omega) HS11.out.1 HS11.out.2 (by have:=HC.out;have:=HK0.out;have:=HK1.out;have:=HK2.out;have:=HK3.out;omega)).mono ?_;rintro e W4 ⟨rfl,m9,cg9⟩;replace G:=MZ.sub G 11 (by decide) (by simp) HQ11.out cg9 m9;simp only [List.set] at G;obtain ⟨k4,hk4⟩:∃ k4:Nat,k4=kk+1+1+1+1+bZ (f z).q+ag (f z).np (fun i=>bJ ((f z).pt i))+(f z).hs.length:=⟨_,rfl⟩
   rw [<- hk4];have HK4:Hid (k4=kk+1+1+1+1+bZ (f z).q+ag (f z).np (fun i=>bJ ((f z).pt i))+(f z).hs.length):=hk4;clear m9 cg9 hk4 q11 HS11 HQ11;obtain ⟨a12,c12,q12,t12,o12⟩:=MZ.row G 12 (by decide) rfl;have HS12:Hid (_/\_):=⟨t12,o12⟩
   have HQ12:Hid _:=q12;clear t12 o12;go_wp2_with fail
   refine (oX (f z).nt (f z).tl a12 _ c12 (kk+1+1+1+1+bZ (f z).q+ag (f z).np (fun i=>bJ ((f z).pt i))+(f z).hs.length) _ (K' z 12) _ (by have:=HC.out;have:=HK0.out;have:=HK1.out;have:=HK2.out;have:=HK3.out;have:=HK4.out;omega) HS12.out.1 HS12.out.2 (by have:=HC.out;have:=HK0.out;have:=HK1.out;have:=HK2.out;have:=HK3.out;have:=HK4.out;omega)).mono ?_;rintro e W5 ⟨rfl,m9,cg9⟩;replace G:=MZ.sub G 12 (by decide) (by simp) HQ12.out cg9 m9;simp only [List.set] at G;obtain ⟨k5,hk5⟩:∃ k5:Nat,k5=kk+1+1+1+1+bZ (f z).q+ag (f z).np (fun i=>bJ ((f z).pt i))+(f z).hs.length+ag (f z).nt (fun i=>bS ((f z).tl i)):=⟨_,rfl⟩
   rw [<- hk5];have HK5:Hid (k5=kk+1+1+1+1+bZ (f z).q+ag (f z).np (fun i=>bJ ((f z).pt i))+(f z).hs.length+ag (f z).nt (fun i=>bS ((f z).tl i))):=hk5;clear m9 cg9 hk5 q12 HS12 HQ12;have HZ:Hid (aQ W5 (.list 13 n' (fun i=>ac (dT (if i<z+1 then bV (s+ag i (fun i=>bK (f i))) (f i) else f i)))) (.row g off 13 n' K') (.slice (some ⟨g,off,none⟩) n' c)/\Cg w W5 (Sk.row g off 13 n' K').bl/\(k5:Int)=((s+ag (z+1) (fun i=>bK (f i)):Nat):Int)):=⟨G.out.1.doneZ (T1:=fun i=>ac (dT (if i<z+1 then bV (s+ag i (fun i=>bK (f i))) (f i) else f i))) (fun i hi=>by rw [HT.out];simp only [dH hi]) (fun j hj=>by simp only [if_pos (Nat.lt_succ_self z)];rw [<- HK0.out.1];rfl),G.out.2.1,by have:=HC.out;have:=HK0.out;have:=HK1.out;have:=HK2.out;have:=HK3.out;have:=HK4.out;have:=HK5.out;omega⟩
   clear G HT;go_wp2;go_roundw
   case rel=>exact ⟨z+1,by omega,by go_num,congrArg (Value.int .i64) HZ.out.2.2,HZ.out.1,HZ.out.2.1⟩
   case measure=>simp [intOf];omega
  have hi:¬ (z:Int)<(n':Int):=by omega
  have e9:z=n':=by omega
  subst e9;have H1:Hid (_/\_):=⟨HE.out _ hF,hC⟩
  clear hF hC;go_wp2;go_ret;exact ⟨rfl,H1.out.1,H1.out.2⟩
end Go.Proofs.YtohikbpolofklaaGreat
