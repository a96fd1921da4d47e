/- Texts that the proof needs, joined: Mk8. -/
import Derived.Test.YtohikbpolofklaaGreatY43
import Derived.Test.YtohikbpolofklaaGreatY45
set_option linter.unusedVariables false
set_option linter.unusedSimpArgs false
set_option maxHeartbeats 8000000
set_option maxRecDepth 20000
namespace Go.Proofs.YtohikbpolofklaaGreat
open Go.RowKit Go.Joins Go.Proofs.Tryz
theorem pd(n:Nat)(f:Nat->Ru)(a:OA)(n' c s:Nat)(x:Int)(w:World)(hx:x=((s:Nat):Int))(h:Rd w 0 (.list 7 n (fun i=>ac (aR (dg (s+ag i (fun i=>bG (f i))) (f i))))) (.slice a n' c))(hB:s+ag n (fun i=>bG (f i))<= 1125899906842624):
 Calls prog 72 #[.slice a n' c,Vi x] w fun e w'=>e=.returned (Vi ((s+ag n (fun i=>bG (f i)):Nat):Int))/\w'=w:=by
 subst hx;obtain ⟨a9,c9,h9,-,hm⟩:=h.shape;simp only [Value.slice.injEq] at h9;obtain ⟨-,rfl,-⟩:=h9;clear a9 c9;unfold maxLen at hm;have HH:Hid (Rd w 0 (.list 7 n' (fun i=>ac (aR (dg (s+ag i (fun i=>bG (f i))) (f i))))) (.slice a n' c)/\s+ag n' (fun i=>bG (f i))<= 1125899906842624):=⟨h,hB⟩
 clear h hB;go_enter func72,ntmps72
 go_wp2;go_loopw [1,5] (fun kv i wr=>∃ z:Nat,z<= n'/\i=Vi z/\kv=Vi ((s+ag z (fun i=>bG (f i)):Nat):Int)/\wr=w) (fun _ i _=>n'-(intOf i).toNat)
 case atStart=>exact ⟨0,Nat.zero_le _,rfl,rfl,rfl⟩
 case round=>
  obtain ⟨z,hz,rfl,rfl,hw⟩:=hrel;subst hw;by_cases hlt:z<n'
  ·have hi:(z:Int)<(n':Int):=by omega
   obtain ⟨kk,hkk⟩:∃ kk,kk=s+ag z (fun i=>bG (f i)):=⟨_,rfl⟩
   rw [<- hkk];have HC:Hid (bG (f z)=1+1+1+1+1+1+1/\True):=⟨rfl,trivial⟩
   have HK0:Hid (kk=s+ag z (fun i=>bG (f i))/\kk+bG (f z)<= 1125899906842624/\s+ag (z+1) (fun i=>bG (f i))=kk+bG (f z)):=⟨hkk,by have h7:=dD (g:=(fun i=>bG (f i))) hlt;have h8:=HH.out.2;omega,by rw [hkk];simp only [ag];omega⟩
   obtain ⟨b,off,vs,rfl,_,hb0,hlen,hr,hrd⟩:=HH.out.1.at hlt;rw [<- hkk] at hrd;obtain rfl:=Ru.cells hrd hlen;have HR:Hid (wr.rangeAt b (off+z*7) (cG (dg kk (f z)))/\True):=⟨hr,trivial⟩
   clear hlen hrd hr hb0 hkk;have d0:=hdI0 HR.out.1 (kk) (((kk:Int)));have v0:=wrI0 kk (by have:=HC.out;have:=HK0.out;omega)
   have d1:=hdI HR.out.1 1 (kk+1) (((kk:Int)+1));have v1:=wrI kk 1 2 (by have:=HC.out;have:=HK0.out;omega)
   have d2:=hdI HR.out.1 2 (kk+1+1) (((kk:Int)+2));have v2:=wrI kk 2 3 (by have:=HC.out;have:=HK0.out;omega)
   have d3:=hdI HR.out.1 3 (kk+1+1+1) (((kk:Int)+3));have v3:=wrI kk 3 4 (by have:=HC.out;have:=HK0.out;omega)
   have d4:=hdI HR.out.1 4 (kk+1+1+1+1) (((kk:Int)+4));have v4:=wrI kk 4 5 (by have:=HC.out;have:=HK0.out;omega)
   have d5:=hdI HR.out.1 5 (kk+1+1+1+1+1) (((kk:Int)+5));have v5:=wrI kk 5 6 (by have:=HC.out;have:=HK0.out;omega)
   have d6:=hdI HR.out.1 6 (kk+1+1+1+1+1+1) (((kk:Int)+6));have v6:=wrI kk 6 7 (by have:=HC.out;have:=HK0.out;omega)
   have HZ:Hid ((kk:Int)+7=((s+ag (z+1) (fun i=>bG (f i)):Nat):Int)):=by show _=_;have:=HC.out;have:=HK0.out;omega
   go_wp2;go_roundw
   case rel=>exact ⟨z+1,by omega,by go_num,congrArg (Value.int .i64) HZ.out,trivial⟩
   case measure=>simp [intOf];omega
  have hi:¬ (z:Int)<(n':Int):=by omega
  have e9:z=n':=by omega
  subst e9;go_wp2;go_ret;exact ⟨rfl,rfl⟩
theorem pe(n:Nat)(f:Nat->VL)(a:OA)(n' c s:Nat)(x:Int)(w:World)(hx:x=((s:Nat):Int))(h:Rd w 0 (.list 9 n (fun i=>ac (aJ (dz (s+ag i (fun i=>aP (f i))) (f i))))) (.slice a n' c))(hB:s+ag n (fun i=>aP (f i))<= 1125899906842624):
 Calls prog 74 #[.slice a n' c,Vi x] w fun e w'=>e=.returned (Vi ((s+ag n (fun i=>aP (f i)):Nat):Int))/\w'=w:=by
 subst hx;obtain ⟨a9,c9,h9,-,hm⟩:=h.shape;simp only [Value.slice.injEq] at h9;obtain ⟨-,rfl,-⟩:=h9;clear a9 c9;unfold maxLen at hm;have HH:Hid (Rd w 0 (.list 9 n' (fun i=>ac (aJ (dz (s+ag i (fun i=>aP (f i))) (f i))))) (.slice a n' c)/\s+ag n' (fun i=>aP (f i))<= 1125899906842624):=⟨h,hB⟩
 clear h hB;go_enter func74,ntmps74
 go_wp2;go_loopw [1,5] (fun kv i wr=>∃ z:Nat,z<= n'/\i=Vi z/\kv=Vi ((s+ag z (fun i=>aP (f i)):Nat):Int)/\wr=w) (fun _ i _=>n'-(intOf i).toNat)
 case atStart=>exact ⟨0,Nat.zero_le _,rfl,rfl,rfl⟩
 case round=>
  obtain ⟨z,hz,rfl,rfl,hw⟩:=hrel;subst hw;by_cases hlt:z<n'
  ·have hi:(z:Int)<(n':Int):=by omega
   obtain ⟨kk,hkk⟩:∃ kk,kk=s+ag z (fun i=>aP (f i)):=⟨_,rfl⟩
   rw [<- hkk];have HC:Hid (aP (f z)=1+1+1+bZ (f z).q/\bZ (f z).q=1+1+1+(f z).q.ws.length+(f z).q.bs.length+1/\True):=⟨rfl,rfl,trivial⟩
   have HK0:Hid (kk=s+ag z (fun i=>aP (f i))/\kk+aP (f z)<= 1125899906842624/\s+ag (z+1) (fun i=>aP (f i))=kk+aP (f z)):=⟨hkk,by have h7:=dD (g:=(fun i=>aP (f i))) hlt;have h8:=HH.out.2;omega,by rw [hkk];simp only [ag];omega⟩
   obtain ⟨b,off,vs,rfl,_,hb0,hlen,hr,hrd⟩:=HH.out.1.at hlt;rw [<- hkk] at hrd;obtain ⟨a1,c1,a2,c2,rfl,r1,r2⟩:=VL.cells hrd hlen;have HR:Hid (wr.rangeAt b (off+z*9) (bh (dz kk (f z)) a1 ((dz kk (f z)).q.ws.length) c1 a2 ((dz kk (f z)).q.bs.length) c2)/\Rd wr 0 (aw (dz kk (f z)).q.ws) (.slice a1 ((dz kk (f z)).q.ws.length) c1)/\Rd wr 0 (ai (dz kk (f z)).q.bs) (.slice a2 ((dz kk (f z)).q.bs.length) c2)):=⟨hr,r1,r2⟩
   clear hlen hrd hr hb0 hkk r1 r2;have d0:=hdI0 HR.out.1 (kk) (((kk:Int)));have v0:=wrI0 kk (by have:=HC.out;have:=HK0.out;omega)
   have d1:=hdI HR.out.1 1 (kk+1) (((kk:Int)+1));have v1:=wrI kk 1 2 (by have:=HC.out;have:=HK0.out;omega)
   have d2:=hdI HR.out.1 2 (kk+1+1) (((kk:Int)+2));have v2:=wrI kk 2 3 (by have:=HC.out;have:=HK0.out;omega)
   have d3:=hdI HR.out.1 3 ((kk+1+1+1)) (((kk:Int)+3));have v3:=wrI kk 3 4 (by have:=HC.out;have:=HK0.out;omega)
   have d4:=hdI HR.out.1 4 ((kk+1+1+1)+1) (((kk:Int)+4));have v4:=wrI kk 4 5 (by have:=HC.out;have:=HK0.out;omega)
   have d5:=hdI HR.out.1 5 ((kk+1+1+1)+1+1) (((kk:Int)+5));have v5:=wrI kk 5 6 (by have:=HC.out;have:=HK0.out;omega)
   have d6:wr.cell? ⟨b,off+z*9+6,none⟩=some (.slice a1 ((dz kk (f z)).q.ws.length) c1):=HR.out.1 6 _ rfl;go_wp2_with fail
   refine (fK (f z).q.ws.length a1 _ c1 ((kk+1+1+1)+1+1+1) _ _ (by have:=HC.out;have:=HK0.out;omega) HR.out.2.1 (by have:=HC.out;have:=HK0.out;omega)).mono ?_;rintro e w9 ⟨rfl,hw⟩;have hw:=hw.symm;subst hw;obtain ⟨k1,hk1⟩:∃ k1:Nat,k1=(kk+1+1+1)+1+1+1+(f z).q.ws.length:=⟨_,rfl⟩
   rw [<- hk1];have HK1:Hid (k1=(kk+1+1+1)+1+1+1+(f z).q.ws.length):=hk1;have nn1:¬ ((k1:Int)<0):=by omega
   clear hk1;have d7:wr.cell? ⟨b,off+z*9+7,none⟩=some (.slice a2 ((dz kk (f z)).q.bs.length) c2):=HR.out.1 7 _ rfl;go_wp2_with fail
   refine (ez (f z).q.bs.length a2 _ c2 ((kk+1+1+1)+1+1+1+(f z).q.ws.length) _ _ (by have:=HC.out;have:=HK0.out;have:=HK1.out;omega) HR.out.2.2 (by have:=HC.out;have:=HK0.out;have:=HK1.out;omega)).mono ?_;rintro e w9 ⟨rfl,hw⟩;have hw:=hw.symm;subst hw;obtain ⟨k2,hk2⟩:∃ k2:Nat,k2=(kk+1+1+1)+1+1+1+(f z).q.ws.length+(f z).q.bs.length:=⟨_,rfl⟩
   rw [<- hk2];have HK2:Hid (k2=(kk+1+1+1)+1+1+1+(f z).q.ws.length+(f z).q.bs.length):=hk2;have nn2:¬ ((k2:Int)<0):=by omega
   clear hk2;have d8:=hdI HR.out.1 8 ((kk+1+1+1)+1+1+1+(f z).q.ws.length+(f z).q.bs.length) (((k2:Int))) rfl (by have:=HC.out;have:=HK0.out;have:=HK1.out;have:=HK2.out;omega);have v8:=wrI0 k2 (by have:=HC.out;have:=HK0.out;have:=HK1.out;have:=HK2.out;omega)
   have HZ:Hid ((k2:Int)+1=((s+ag (z+1) (fun i=>aP (f i)):Nat):Int)):=by show _=_;have:=HC.out;have:=HK0.out;have:=HK1.out;have:=HK2.out;omega
   go_wp2;go_roundw
   case rel=>exact ⟨z+1,by omega,by go_num,congrArg (Value.int .i64) HZ.out,trivial⟩
   case measure=>simp [intOf];omega
  have hi:¬ (z:Int)<(n':Int):=by omega
  have e9:z=n':=by omega
  subst e9;go_wp2;go_ret;exact ⟨rfl,rfl⟩
theorem pg(n:Nat)(f:Nat->VN)(a:OA)(n' c s:Nat)(x:Int)(w:World)(hx:x=((s:Nat):Int))(h:Rd w 0 (.list 17 n (fun i=>ac (aN (cB (s+ag i (fun i=>bL (f i))) (f i))))) (.slice a n' c))(hB:s+ag n (fun i=>bL (f i))<= 1125899906842624):
 Calls prog 38 #[.slice a n' c,Vi x] w fun e w'=>e=.returned (Vi ((s+ag n (fun i=>bL (f i)):Nat):Int))/\w'=w:=by
 subst hx;obtain ⟨a9,c9,h9,-,hm⟩:=h.shape;simp only [Value.slice.injEq] at h9;obtain ⟨-,rfl,-⟩:=h9;clear a9 c9;unfold maxLen at hm;have HH:Hid (Rd w 0 (.list 17 n' (fun i=>ac (aN (cB (s+ag i (fun i=>bL (f i))) (f i))))) (.slice a n' c)/\s+ag n' (fun i=>bL (f i))<= 1125899906842624):=⟨h,hB⟩
 clear h hB;go_enter func38,ntmps38
 go_wp2;go_loopw [1,5] (fun kv i wr=>∃ z:Nat,z<= n'/\i=Vi z/\kv=Vi ((s+ag z (fun i=>bL (f i)):Nat):Int)/\wr=w) (fun _ i _=>n'-(intOf i).toNat)
 case atStart=>exact ⟨0,Nat.zero_le _,rfl,rfl,rfl⟩
 case round=>
  obtain ⟨z,hz,rfl,rfl,hw⟩:=hrel;subst hw;by_cases hlt:z<n'
  ·have hi:(z:Int)<(n':Int):=by omega
   obtain ⟨kk,hkk⟩:∃ kk,kk=s+ag z (fun i=>bL (f i)):=⟨_,rfl⟩
   rw [<- hkk];have HC:Hid (bL (f z)=ag (f z).nq (fun i=>aP ((f z).qf i))+1+aP (f z).c+1+1+1+1+1+1/\aP (f z).c=1+1+1+bZ (f z).c.q/\bZ (f z).c.q=1+1+1+(f z).c.q.ws.length+(f z).c.q.bs.length+1/\True):=⟨rfl,rfl,rfl,trivial⟩
   have HK0:Hid (kk=s+ag z (fun i=>bL (f i))/\kk+bL (f z)<= 1125899906842624/\s+ag (z+1) (fun i=>bL (f i))=kk+bL (f z)):=⟨hkk,by have h7:=dD (g:=(fun i=>bL (f i))) hlt;have h8:=HH.out.2;omega,by rw [hkk];simp only [ag];omega⟩
   obtain ⟨b,off,vs,rfl,_,hb0,hlen,hr,hrd⟩:=HH.out.1.at hlt;rw [<- hkk] at hrd;obtain ⟨a1,c1,a2,c2,a3,c3,rfl,r1,r2,r3⟩:=VN.cells hrd hlen;have HR:Hid (wr.rangeAt b (off+z*17) (bj (cB kk (f z)) a1 ((cB kk (f z)).nq) c1 a2 ((cB kk (f z)).c.q.ws.length) c2 a3 ((cB kk (f z)).c.q.bs.length) c3)/\Rd wr 0 (.list 9 (cB kk (f z)).nq (fun i=>ac (aJ ((cB kk (f z)).qf i)))) (.slice a1 ((cB kk (f z)).nq) c1)/\Rd wr 0 (aw (cB kk (f z)).c.q.ws) (.slice a2 ((cB kk (f z)).c.q.ws.length) c2)/\Rd wr 0 (ai (cB kk (f z)).c.q.bs) (.slice a3 ((cB kk (f z)).c.q.bs.length) c3)):=⟨hr,r1,r2,r3⟩
   clear hlen hrd hr hb0 hkk r1 r2 r3;have d0:wr.cell? ⟨b,off+z*17,none⟩=some (.slice a1 ((cB kk (f z)).nq) c1):=HR.out.1 0 _ rfl;go_wp2_with fail
   refine (pe (f z).nq (f z).qf a1 _ c1 (kk) _ _ (by have:=HC.out;have:=HK0.out;omega) HR.out.2.1 (by have:=HC.out;have:=HK0.out;omega)).mono ?_;rintro e w9 ⟨rfl,hw⟩;have hw:=hw.symm;subst hw;obtain ⟨k1,hk1⟩:∃ k1:Nat,k1=kk+ag (f z).nq (fun i=>aP ((f z).qf i)):=⟨_,rfl⟩
   rw [<- hk1];have HK1:Hid (k1=kk+ag (f z).nq (fun i=>aP ((f z).qf i))):=hk1;have nn1:¬ ((k1:Int)<0):=by omega
   clear hk1;have d1:=hdB HR.out.1 1 (kk+ag (f z).nq (fun i=>aP ((f z).qf i))) ((k1:Int)) rfl (by have:=HC.out;have:=HK0.out;have:=HK1.out;omega);have v1:=wrI0 k1 (by have:=HC.out;have:=HK0.out;have:=HK1.out;omega)
   have d2:=hdI HR.out.1 2 ((kk+ag (f z).nq (fun i=>aP ((f z).qf i))+1)) (((k1:Int)+1)) rfl (by have:=HC.out;have:=HK0.out;have:=HK1.out;omega);have v2:=wrI k1 1 2 (by have:=HC.out;have:=HK0.out;have:=HK1.out;omega)
   have d3:=hdI HR.out.1 3 ((kk+ag (f z).nq (fun i=>aP ((f z).qf i))+1)+1) (((k1:Int)+2)) rfl (by have:=HC.out;have:=HK0.out;have:=HK1.out;omega);have v3:=wrI k1 2 3 (by have:=HC.out;have:=HK0.out;have:=HK1.out;omega)
   have d4:=hdI HR.out.1 4 ((kk+ag (f z).nq (fun i=>aP ((f z).qf i))+1)+1+1) (((k1:Int)+3)) rfl (by have:=HC.out;have:=HK0.out;have:=HK1.out;omega);have v4:=wrI k1 3 4 (by have:=HC.out;have:=HK0.out;have:=HK1.out;omega)
   have d5:=hdI HR.out.1 5 (((kk+ag (f z).nq (fun i=>aP ((f z).qf i))+1)+1+1+1)) (((k1:Int)+4)) rfl (by have:=HC.out;have:=HK0.out;have:=HK1.out;omega);have v5:=wrI k1 4 5 (by have:=HC.out;have:=HK0.out;have:=HK1.out;omega)
   have d6:=hdI HR.out.1 6 (((kk+ag (f z).nq (fun i=>aP ((f z).qf i))+1)+1+1+1)+1) (((k1:Int)+5)) rfl (by have:=HC.out;have:=HK0.out;have:=HK1.out;omega);have v6:=wrI k1 5 6 (by have:=HC.out;have:=HK0.out;have:=HK1.out;omega)
   have d7:=hdI HR.out.1 7 (((kk+ag (f z).nq (fun i=>aP ((f z).qf i))+1)+1+1+1)+1+1) (((k1:Int)+6)) rfl (by have:=HC.out;have:=HK0.out;have:=HK1.out;omega);have v7:=wrI k1 6 7 (by have:=HC.out;have:=HK0.out;have:=HK1.out;omega)
   have d8:wr.cell? ⟨b,off+z*17+8,none⟩=some (.slice a2 ((cB kk (f z)).c.q.ws.length) c2):=HR.out.1 8 _ rfl;go_wp2_with fail
   refine (fK (f z).c.q.ws.length a2 _ c2 (((kk+ag (f z).nq (fun i=>aP ((f z).qf i))+1)+1+1+1)+1+1+1) _ _ (by have:=HC.out;have:=HK0.out;have:=HK1.out;omega) HR.out.2.2.1 (by have:=HC.out;have:=HK0.out;have:=HK1.out;omega)).mono ?_;rintro e w9 ⟨rfl,hw⟩;have hw:=hw.symm;subst hw;obtain ⟨k2,hk2⟩:∃ k2:Nat,k2=((kk+ag (f z).nq (fun i=>aP ((f z).qf i))+1)+1+1+1)+1+1+1+(f z).c.q.ws.length:=⟨_,rfl⟩
   rw [<- hk2];have HK2:Hid (k2=((kk+ag (f z).nq (fun i=>aP ((f z).qf i))+1)+1+1+1)+1+1+1+(f z).c.q.ws.length):=hk2;have nn2:¬ ((k2:Int)<0):=by omega
   clear hk2;have d9:wr.cell? ⟨b,off+z*17+9,none⟩=some (.slice a3 ((cB kk (f z)).c.q.bs.length) c3):=HR.out.1 9 _ rfl;go_wp2_with fail
   refine (ez (f z).c.q.bs.length a3 _ c3 (((kk+ag (f z).nq (fun i=>aP ((f z).qf i))+1)+1+1+1)+1+1+1+(f z).c.q.ws.length) _ _ (by have:=HC.out;have:=HK0.out;have:=HK1.out;have:=HK2.out;omega) HR.out.2.2.2 (by have:=HC.out;have:=HK0.out;have:=HK1.out;have:=HK2.out;omega)).mono ?_;rintro e w9 ⟨rfl,hw⟩;have hw:=hw.symm;subst hw;obtain ⟨k3,hk3⟩:∃ k3:Nat,k3=((kk+ag (f z).nq (fun i=>aP ((f z).qf i))+1)+1+1+1)+1+1+1+(f z).c.q.ws.length+(f z).c.q.bs.length:=⟨_,rfl⟩
   rw [<- hk3];have HK3:Hid (k3=((kk+ag (f z).nq (fun i=>aP ((f z).qf i))+1)+1+1+1)+1+1+1+(f z).c.q.ws.length+(f z).c.q.bs.length):=hk3;have nn3:¬ ((k3:Int)<0):=by omega
   clear hk3;have d10:=hdI HR.out.1 10 (((kk+ag (f z).nq (fun i=>aP ((f z).qf i))+1)+1+1+1)+1+1+1+(f z).c.q.ws.length+(f z).c.q.bs.length) (((k3:Int))) rfl (by have:=HC.out;have:=HK0.out;have:=HK1.out;have:=HK2.out;have:=HK3.out;omega);have v10:=wrI0 k3 (by have:=HC.out;have:=HK0.out;have:=HK1.out;have:=HK2.out;have:=HK3.out;omega)
   have d11:=hdI HR.out.1 11 (kk+ag (f z).nq (fun i=>aP ((f z).qf i))+1+aP (f z).c) (((k3:Int)+1)) rfl (by have:=HC.out;have:=HK0.out;have:=HK1.out;have:=HK2.out;have:=HK3.out;omega);have v11:=wrI k3 1 2 (by have:=HC.out;have:=HK0.out;have:=HK1.out;have:=HK2.out;have:=HK3.out;omega)
   have d12:=hdI HR.out.1 12 (kk+ag (f z).nq (fun i=>aP ((f z).qf i))+1+aP (f z).c+1) (((k3:Int)+2)) rfl (by have:=HC.out;have:=HK0.out;have:=HK1.out;have:=HK2.out;have:=HK3.out;omega);have v12:=wrI k3 2 3 (by have:=HC.out;have:=HK0.out;have:=HK1.out;have:=HK2.out;have:=HK3.out;omega)
   have d13:=hdI HR.out.1 13 (kk+ag (f z).nq (fun i=>aP ((f z).qf i))+1+aP (f z).c+1+1) (((k3:Int)+3)) rfl (by have:=HC.out;have:=HK0.out;have:=HK1.out;have:=HK2.out;have:=HK3.out;omega);have v13:=wrI k3 3 4 (by have:=HC.out;have:=HK0.out;have:=HK1.out;have:=HK2.out;have:=HK3.out;omega)
   have d14:=hdI HR.out.1 14 (kk+ag (f z).nq (fun i=>aP ((f z).qf i))+1+aP (f z).c+1+1+1) (((k3:Int)+4)) rfl (by have:=HC.out;have:=HK0.out;have:=HK1.out;have:=HK2.out;have:=HK3.out;omega);have v14:=wrI k3 4 5 (by have:=HC.out;have:=HK0.out;have:=HK1.out;have:=HK2.out;have:=HK3.out;omega)
   have d15:=hdI HR.out.1 15 (kk+ag (f z).nq (fun i=>aP ((f z).qf i))+1+aP (f z).c+1+1+1+1) (((k3:Int)+5)) rfl (by have:=HC.out;have:=HK0.out;have:=HK1.out;have:=HK2.out;have:=HK3.out;omega);have v15:=wrI k3 5 6 (by have:=HC.out;have:=HK0.out;have:=HK1.out;have:=HK2.out;have:=HK3.out;omega)
   have d16:=hdI HR.out.1 16 (kk+ag (f z).nq (fun i=>aP ((f z).qf i))+1+aP (f z).c+1+1+1+1+1) (((k3:Int)+6)) rfl (by have:=HC.out;have:=HK0.out;have:=HK1.out;have:=HK2.out;have:=HK3.out;omega);have v16:=wrI k3 6 7 (by have:=HC.out;have:=HK0.out;have:=HK1.out;have:=HK2.out;have:=HK3.out;omega)
   have HZ:Hid ((k3:Int)+7=((s+ag (z+1) (fun i=>bL (f i)):Nat):Int)):=by show _=_;have:=HC.out;have:=HK0.out;have:=HK1.out;have:=HK2.out;have:=HK3.out;omega
   go_wp2;go_roundw
   case rel=>exact ⟨z+1,by omega,by go_num,congrArg (Value.int .i64) HZ.out,trivial⟩
   case measure=>simp [intOf];omega
  have hi:¬ (z:Int)<(n':Int):=by omega
  have e9:z=n':=by omega
  subst e9;go_wp2;go_ret;exact ⟨rfl,rfl⟩
end Go.Proofs.YtohikbpolofklaaGreat
