/- Texts that the proof needs, joined: S1 WordAt1 R2. -/
import Derived.Test.YtohikbpolofklaaGreatY25
import Derived.Test.YtohikbpolofklaaGreatY16
import Derived.Test.YtohikbpolofklaaGreatY1
import Derived.Lib.AppendZerosOnto
import Derived.Lib.SliceRun
import Derived.Lib.Walk
set_option linter.unusedVariables false
set_option linter.unusedSimpArgs false
set_option maxHeartbeats 2000000
namespace Go.Proofs.YtohikbpolofklaaGreat
open Go.RowKit Go.Proofs.Tryz
theorem fF{α:Type}[DecidableEq α](d:α):∀ (zs ys:List α),zs.length=ys.length->zs≠ys->∃ k,k<zs.length/\zs.getD k d≠ys.getD k d/\∀ j,j<k->zs.getD j d=ys.getD j d
 | [],[],_,h=>absurd rfl h
 | [],_:: _,h,_=>by simp at h
 |_:: _,[],h,_=>by simp at h
 |x:: r,y:: s,hl,hne=>by
  by_cases e:x=y
  ·subst e
   obtain ⟨k,h1,h2,h3⟩:=fF d r s (by simpa using hl) (fun h=>hne (by rw [h]));refine ⟨k+1,by simp;omega,by simpa using h2,fun j hj=>?_⟩
   cases j with
   |zero=>simp
   |succ j=>simpa using h3 j (by omega)
  exact ⟨0,by simp,by simpa using e,fun j hj=>by omega⟩
theorem nA(a a':OA)(n n' cap cap':Nat)(zs ys:List Int)(w:World)(hn:n=zs.length)(hn':n'=zs.length)(hy:zs.length=ys.length)(hs:aZ w a zs)(hs':aZ w a' ys)(hl:zs.length<= 2000000)(hne:zs≠ys):
 Calls prog 177 #[.slice a n cap,.slice a' n' cap'] w fun e w'=>e=.returned (.bool false)/\Below w.heap.size w w':=by
 subst hn hn';obtain ⟨d,hd,hdn,hdj⟩:=fF 0 zs ys hy hne;have HY:Hid (zs.length=ys.length):=hy;have HD:Hid (∀ j,j<d->zs.getD j 0=ys.getD j 0):=hdj;clear hy hdj hne;go_enter func177,ntmps177
 go_wp2;go_loopw [13] (fun i wr=>∃ k:Nat,k<= d/\i=Vi k/\∃ n,wr=w.drewN n) (fun i _=>d-(intOf i).toNat)
 case atStart=>exact ⟨0,Nat.zero_le _,rfl,0,rfl⟩
 case round=>
  obtain ⟨k,hk,rfl,n,rfl⟩:=hrel;have hlt:k<zs.length:=by omega
  obtain ⟨b,off,rfl,_,hc⟩:=cj hs hlt;obtain ⟨b',off',rfl,_,hc'⟩:=cj hs' (show k<ys.length by have:=HY.out;omega);have hi:(k:Int)<(zs.length:Int):=by omega
  by_cases hkd:k<d
  ·rw [<- HD.out k hkd] at hc'
   clear hs hs';go_wp2;go_quiet (fail)
   go_wp2;go_roundw
   case rel=>first|exact ⟨k+1,by omega,by go_num,_,rfl⟩|exact ⟨_,_,⟨k+1,by omega,by go_num,_,rfl⟩,rfl,rfl⟩
   case measure=>simp [intOf];omega
  obtain rfl:k=d:=by omega
  clear hs hs';generalize zs.getD k 0=x at*;generalize ys.getD k 0=y at*;go_wp2;go_quiet (fail)
  go_wp2;go_ret;exact ⟨rfl,dR (cF _ _) _⟩
theorem mB(a a':OA)(n n' cap cap':Nat)(zs ys:List Bool)(w:World)(hn:n=zs.length)(hn':n'=zs.length)(hy:zs.length=ys.length)(hs:be w a zs)(hs':be w a' ys)(hl:zs.length<= 2000000)(hne:zs≠ys):
 Calls prog 178 #[.slice a n cap,.slice a' n' cap'] w fun e w'=>e=.returned (.bool false)/\Below w.heap.size w w':=by
 subst hn hn';obtain ⟨d,hd,hdn,hdj⟩:=fF false zs ys hy hne;have HY:Hid (zs.length=ys.length):=hy;have HD:Hid (∀ j,j<d->zs.getD j false=ys.getD j false):=hdj;clear hy hdj hne;go_enter func178,ntmps178
 go_wp2;go_loopw [13] (fun i wr=>∃ k:Nat,k<= d/\i=Vi k/\∃ n,wr=w.drewN n) (fun i _=>d-(intOf i).toNat)
 case atStart=>exact ⟨0,Nat.zero_le _,rfl,0,rfl⟩
 case round=>
  obtain ⟨k,hk,rfl,n,rfl⟩:=hrel;have hlt:k<zs.length:=by omega
  obtain ⟨b,off,rfl,_,hc⟩:=b7 hs hlt;obtain ⟨b',off',rfl,_,hc'⟩:=b7 hs' (show k<ys.length by have:=HY.out;omega);have hi:(k:Int)<(zs.length:Int):=by omega
  by_cases hkd:k<d
  ·rw [<- HD.out k hkd] at hc'
   clear hs hs';go_wp2;go_quiet (fail)
   go_wp2;go_roundw
   case rel=>first|exact ⟨k+1,by omega,by go_num,_,rfl⟩|exact ⟨_,_,⟨k+1,by omega,by go_num,_,rfl⟩,rfl,rfl⟩
   case measure=>simp [intOf];omega
  obtain rfl:k=d:=by omega
  clear hs hs';generalize zs.getD k false=x at*;generalize ys.getD k false=y at*;obtain rfl:y = !x:=by cases x <;> cases y <;> simp_all
  clear hdn;cases x
  all_goals (
   go_wp2;go_quiet (fail)
   go_wp2;go_ret;exact ⟨rfl,dR (cF _ _) _⟩)
theorem gg(a a':OA)(n n' cap cap':Nat)(zs ys:List Int)(w:World)(hn:n=zs.length)(hn':n'=ys.length)(hs:aZ w a zs)(hs':aZ w a' ys)(hl:zs.length<= 2000000)(hl':ys.length<= 2000000)(b:Bool)(hb:decide (zs=ys)=b):
 Calls prog 177 #[.slice a n cap,.slice a' n' cap'] w fun e w'=>e=.returned (.bool b)/\Below w.heap.size w w':=by
 subst hb;by_cases h:zs=ys
 ·subst h
  rw [decide_eq_true rfl];exact fW a a' n n' cap cap' zs w hn hn' hs hs' hl
 rw [decide_eq_false h];by_cases hy:zs.length=ys.length
 ·exact nA a a' n n' cap cap' zs ys w hn (hn'.trans hy.symm) hy hs hs' hl h
 exact f8 a a' n n' cap cap' w (by omega) (by omega) (by omega)
theorem fQ(a a':OA)(n n' cap cap':Nat)(zs ys:List Bool)(w:World)(hn:n=zs.length)(hn':n'=ys.length)(hs:be w a zs)(hs':be w a' ys)(hl:zs.length<= 2000000)(hl':ys.length<= 2000000)(b:Bool)(hb:decide (zs=ys)=b):
 Calls prog 178 #[.slice a n cap,.slice a' n' cap'] w fun e w'=>e=.returned (.bool b)/\Below w.heap.size w w':=by
 subst hb;by_cases h:zs=ys
 ·subst h
  rw [decide_eq_true rfl];exact iw a a' n n' cap cap' zs w hn hn' hs hs' hl
 rw [decide_eq_false h];by_cases hy:zs.length=ys.length
 ·exact mB a a' n n' cap cap' zs ys w hn (hn'.trans hy.symm) hy hs hs' hl h
 exact fN a a' n n' cap cap' w (by omega) (by omega) (by omega)
theorem gP(a a':OA)(n n' cap cap':Nat)(zs ys:List Int)(w:World)(hn:n=zs.length)(hn':n'=ys.length)(hs:aZ w a zs)(hs':aZ w a' ys)(hl:zs.length<= 2000000)(hl':ys.length<= 2000000)(b:Bool)(hb:decide (zs=ys)=b):
 Calls prog 130 #[.slice a n cap,.slice a' n' cap'] w fun e w'=>e=.returned (.bool b)/\Below w.heap.size w w':=by
 subst hb hn hn';by_cases hy:zs.length=ys.length
 ·have hyi:(zs.length:Int)=(ys.length:Int):=by omega
  have HY:Hid (zs.length=ys.length):=hy;by_cases h:zs=ys
  ·subst h
   rw [decide_eq_true rfl];clear hy hyi;go_enter func130,ntmps130
   go_wp2;go_loopw [5] (fun i wr=>∃ k:Nat,k<= zs.length/\i=Vi k/\∃ n,wr=w.drewN n) (fun i _=>zs.length-(intOf i).toNat)
   case atStart=>exact ⟨0,Nat.zero_le _,rfl,0,rfl⟩
   case round=>
    obtain ⟨k,hk,rfl,n,rfl⟩:=hrel;by_cases hlt:k<zs.length
    ·obtain ⟨b,off,rfl,_,hc⟩:=cj hs hlt
     obtain ⟨b',off',rfl,_,hc'⟩:=cj hs' hlt;have hi:(k:Int)<(zs.length:Int):=by omega
     clear hs hs';go_wp2;go_quiet (fail)
     go_wp2;go_roundw
     case rel=>first|exact ⟨k+1,by omega,by go_num,_,rfl⟩|exact ⟨_,_,⟨k+1,by omega,by go_num,_,rfl⟩,rfl,rfl⟩
     case measure=>simp [intOf];omega
    clear hs hs';go_wp2;go_ret;exact ⟨rfl,cF _ _⟩
  rw [decide_eq_false h];obtain ⟨d,hd,hdn,hdj⟩:=fF 0 zs ys hy h;have HD:Hid (∀ j,j<d->zs.getD j 0=ys.getD j 0):=hdj;clear hdj h;rw [<- hy];clear hy hyi;go_enter func130,ntmps130
  go_wp2;go_loopw [5] (fun i wr=>∃ k:Nat,k<= d/\i=Vi k/\∃ n,wr=w.drewN n) (fun i _=>d-(intOf i).toNat)
  case atStart=>exact ⟨0,Nat.zero_le _,rfl,0,rfl⟩
  case round=>
   obtain ⟨k,hk,rfl,n,rfl⟩:=hrel;have hlt:k<zs.length:=by omega
   obtain ⟨b,off,rfl,_,hc⟩:=cj hs hlt;obtain ⟨b',off',rfl,_,hc'⟩:=cj hs' (show k<ys.length by have:=HY.out;omega);have hi:(k:Int)<(zs.length:Int):=by omega
   by_cases hkd:k<d
   ·rw [<- HD.out k hkd] at hc'
    clear hs hs';go_wp2;go_quiet (fail)
    go_wp2;go_roundw
    case rel=>first|exact ⟨k+1,by omega,by go_num,_,rfl⟩|exact ⟨_,_,⟨k+1,by omega,by go_num,_,rfl⟩,rfl,rfl⟩
    case measure=>simp [intOf];omega
   obtain rfl:k=d:=by omega
   clear hs hs';generalize zs.getD k 0=x at*;generalize ys.getD k 0=y at*;go_wp2;go_quiet (fail)
   go_wp2;go_ret;exact ⟨rfl,dR (cF _ _) _⟩
 rw [decide_eq_false (fun h=>hy (by rw [h]))];have hyi:¬ (zs.length:Int)=(ys.length:Int):=by omega
 clear hs hs' hy;go_enter func130,ntmps130
 go_wp2;go_ret;exact ⟨rfl,Br⟩
def fG(bs:List Bool)(n:Nat):Bool:=decide (∀ k,k<bs.length->n<= k->bs.getD k false=false)
theorem rh{bs:List Bool}{n k:Nat}(h1:n<= k)(h2:k<bs.length)(h:bs.getD k false=true):fG bs n=false:=
 decide_eq_false (fun hh=>by rw [hh k h2 h1] at h;cases h)
theorem qi(a:OA)(n cap:Nat)(zs:List Bool)(w:World)(hn:n=zs.length)(hs:be w a zs)(hl:zs.length<= 2000000):
 Calls prog 203 #[.slice a n cap,.bool true] w fun e w'=>∃ i:Int,e=.returned (Vi i)/\decide (i≥0) = !fG zs 0/\Below w.heap.size w w':=by
 subst hn;go_enter func203,ntmps203
 go_wp2;go_loopw [8] (fun i wr=>∃ k:Nat,k<= zs.length/\i=Vi k/\(∀ j,j<k->zs.getD j false=false)/\wr=w) (fun i _=>zs.length-(intOf i).toNat)
 case atStart=>exact ⟨0,Nat.zero_le _,rfl,fun j hj=>by omega,rfl⟩
 case round=>
  obtain ⟨k,hk,rfl,hz,rfl⟩:=hrel;have HZ:Hid (∀ j,j<k->zs.getD j false=false):=hz;clear hz;by_cases hlt:k<zs.length
  ·obtain ⟨b,off,rfl,_,hc⟩:=b7 hs hlt
   have hi:(k:Int)<(zs.length:Int):=by omega
   cases hx:zs.getD k false
   ·rw [hx] at hc
    have HN:Hid (∀ j,j<k+1->zs.getD j false=false):=by
     intro j hj;by_cases h:j<k
     ·exact HZ.out j h
     rw [show j=k by omega];exact hx
    clear hs hx;go_wp2;go_roundw
    case rel=>exact ⟨k+1,by omega,by go_num,HN.out,trivial⟩
    case measure=>simp [intOf];omega
   rw [hx] at hc;have HX:Hid (fG zs 0=false):=rh (Nat.zero_le _) hlt hx;clear hs hx;go_wp2;go_ret;exact ⟨k,rfl,by rw [HX.out];simp,Br⟩
  have HX:Hid (fG zs 0=true):=decide_eq_true (fun j hj _=>HZ.out j (by omega));clear hs;go_wp2;go_ret;exact ⟨-1,rfl,by rw [HX.out];rfl,Br⟩
theorem fj(a:OA)(n cap:Nat)(zs:List Bool)(w:World)(hn:n=zs.length)(hs:be w a zs)(hl:zs.length<= 2000000)(b:Bool)(hb:fG zs 0=b):
 Calls prog 198 #[.slice a n cap,.bool true] w fun e w'=>e=.returned (.bool (!b))/\Below w.heap.size w w':=by
 have HS:Hid (be w a zs/\n=zs.length):=⟨hs,hn⟩
 have HB:Hid (fG zs 0=b):=hb;clear hs hn hb;go_enter func198,ntmps198
 go_wp2_with fail
 refine (qi a n cap zs _ HS.out.2 HS.out.1 hl).mono ?_;rintro e w1 ⟨i,rfl,hi,b'⟩;rw [HB.out] at hi;have HI:Hid (decide (i≥0) = !b):=hi;clear hi;go_wp2;go_ret;exact ⟨by first|(rw [<- HI.out];rfl)|exact congrArg (fun x=>Ending.returned (Value.bool x)) HI.out,b'⟩
def word2(x y:Int):Int:=bits BinOp.or IntKind.i64 (x*256) y
end Go.Proofs.YtohikbpolofklaaGreat
