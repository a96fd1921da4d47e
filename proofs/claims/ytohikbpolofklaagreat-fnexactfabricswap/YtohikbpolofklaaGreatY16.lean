/- Texts that the proof needs, joined: PutWord1 Q1 Pack1 R1 Apd Mk6 Cz5 Sw2 SrP RgI. -/
import Derived.Test.YtohikbpolofklaaGreatY1
import Derived.Test.YtohikbpolofklaaGreatY2
import Derived.LoopN
import Derived.Lib.AppendZerosOnto
import Derived.Deep.Upon
import Derived.Lib.AppendZeros
import Derived.Test.YtohikbpolofklaaGreatY4
import Derived.Maps.AppendAt
import Derived.Test.YtohikbpolofklaaGreatY15
import Derived.Test.YtohikbpolofklaaGreatY14
import Derived.RegionTactic
set_option linter.unusedVariables false
set_option linter.unusedSimpArgs false
set_option maxHeartbeats 4000000
set_option maxRecDepth 20000
namespace Go.Proofs.YtohikbpolofklaaGreat
open Go.RowKit Go.Proofs.Tryz
abbrev pV:Array Value:=#[Vi 0,Vi 0,Vi 0,Vi 0,Vi 0,Vi 0,Zs,Zs,Vi 0]
abbrev jK:Array Value:=#[Vi 0,Vi 0,Vi 0,Zs,Zs,Vi 0]
abbrev jL:Array Value:=#[Vi 0,Vi 0,Vi 0,Vi 0,Zs,Zs]
def aB(x lo hi:Int):Bool:=decide (lo<= x/\x<= hi)
def ce(ws:List Int):Bool:=decide (∀ k,k<ws.length->0<= ws.getD k 0/\ws.getD k 0<= 65535)
def dr(p n:Int):Bool:=decide (0<= p/\p<= 65535/\p+n<= 65536)
def bX(p n most:Int):Bool:=decide (1<= n/\n<= most/\0<= p/\p+n<= 65536)
def bR(n w b a:Bool)(nn:Int)(l1 l2:Nat)(wa:Int):Bool:=(n||decide (nn=0)) && ((w||decide (l1=0)) && ((b||decide (l2=0)) && (a||decide (wa=0))))
theorem aI(x lo hi:Int)(w:World)(b:Bool)(hb:aB x lo hi=b):Calls prog 46 #[Vi x,Vi lo,Vi hi] w fun e w'=>e=.returned (.bool b)/\w'=w:=by
 subst hb;unfold aB;by_cases h1:lo<= x
 ·by_cases h2:x<= hi
  ·rw [decide_eq_true (show lo<= x/\x<= hi from ⟨h1,h2⟩)]
   go_enter func46,ntmps46
   go_wp2;go_ret;exact ⟨rfl,rfl⟩
  rw [decide_eq_false (show ¬ (lo<= x/\x<= hi) from fun h=>h2 h.2)];go_enter func46,ntmps46
  go_wp2;go_ret;exact ⟨rfl,rfl⟩
 rw [decide_eq_false (show ¬ (lo<= x/\x<= hi) from fun h=>h1 h.1)];go_enter func46,ntmps46
 go_wp2;go_ret;exact ⟨rfl,rfl⟩
theorem bH(x:Int)(w:World)(b:Bool)(hb:aB x 0 65535=b):Calls prog 106 #[Vi x] w fun e w'=>e=.returned (.bool b)/\w'=w:=by
 subst hb;unfold aB;by_cases h1:0<= x
 ·by_cases h2:x<= 65535
  ·rw [decide_eq_true (show 0<= x/\x<= 65535 from ⟨h1,h2⟩)]
   go_enter func106,ntmps106
   go_wp2;go_ret;exact ⟨rfl,rfl⟩
  rw [decide_eq_false (show ¬ (0<= x/\x<= 65535) from fun h=>h2 h.2)];go_enter func106,ntmps106
  go_wp2;go_ret;exact ⟨rfl,rfl⟩
 rw [decide_eq_false (show ¬ (0<= x/\x<= 65535) from fun h=>h1 h.1)];go_enter func106,ntmps106
 go_wp2;go_ret;exact ⟨rfl,rfl⟩
theorem pW(x n:Int)(w:World)(hn0:0<= n)(hn1:n<= 9000000000000000000)(b:Bool)(hb:dr x n=b):Calls prog 163 #[Vi x,Vi n] w fun e w'=>e=.returned (.bool b)/\w'=w:=by
 subst hb;unfold dr;by_cases h1:0<= x
 ·by_cases h2:x<= 65535
  ·by_cases h3:x+n<= 65536
   ·rw [decide_eq_true (show 0<= x/\x<= 65535/\x+n<= 65536 from ⟨h1,h2,h3⟩)]
    go_enter func163,ntmps163
    go_wp2_with (go_at_call 46;go_in)
    go_ret;exact ⟨rfl,rfl⟩
   rw [decide_eq_false (show ¬ (0<= x/\x<= 65535/\x+n<= 65536) from fun h=>h3 h.2.2)];go_enter func163,ntmps163
   go_wp2_with (go_at_call 46;go_in)
   go_ret;exact ⟨rfl,rfl⟩
  rw [decide_eq_false (show ¬ (0<= x/\x<= 65535/\x+n<= 65536) from fun h=>h2 h.2.1)];go_enter func163,ntmps163
  go_wp2_with (go_at_call 46;go_in)
  go_ret;exact ⟨rfl,rfl⟩
 rw [decide_eq_false (show ¬ (0<= x/\x<= 65535/\x+n<= 65536) from fun h=>h1 h.1)];go_enter func163,ntmps163
 go_wp2_with (go_at_call 46;go_in)
 go_ret;exact ⟨rfl,rfl⟩
theorem cf(x n most:Int)(w:World)(hm:most<= 2000)(b:Bool)(hb:bX x n most=b):Calls prog 194 #[Vi x,Vi n,Vi most] w fun e w'=>e=.returned (.bool b)/\w'=w:=by
 subst hb;unfold bX;by_cases h1:1<= n
 ·by_cases h2:n<= most
  ·by_cases h3:0<= x
   ·by_cases h4:x<= 65536-n
    ·rw [decide_eq_true (show 1<= n/\n<= most/\0<= x/\x+n<= 65536 from ⟨h1,h2,h3,by omega⟩)]
     go_enter func194,ntmps194
     go_wp2;go_ret;exact ⟨rfl,rfl⟩
    rw [decide_eq_false (show ¬ (1<= n/\n<= most/\0<= x/\x+n<= 65536) from fun h=>h4 (by omega))];go_enter func194,ntmps194
    go_wp2;go_ret;exact ⟨rfl,rfl⟩
   rw [decide_eq_false (show ¬ (1<= n/\n<= most/\0<= x/\x+n<= 65536) from fun h=>h3 h.2.2.1)];go_enter func194,ntmps194
   go_wp2;go_ret;exact ⟨rfl,rfl⟩
  rw [decide_eq_false (show ¬ (1<= n/\n<= most/\0<= x/\x+n<= 65536) from fun h=>h2 h.2.1)];go_enter func194,ntmps194
  go_wp2;go_ret;exact ⟨rfl,rfl⟩
 rw [decide_eq_false (show ¬ (1<= n/\n<= most/\0<= x/\x+n<= 65536) from fun h=>h1 h.1)];go_enter func194,ntmps194
 go_wp2;go_ret;exact ⟨rfl,rfl⟩
theorem iv{zs:List Int}{k:Nat}(h:k<zs.length)(hb:¬ (0<= zs.getD k 0/\zs.getD k 0<= 65535)):ce zs=false:=by
 unfold ce;exact decide_eq_false (fun hh=>hb (hh k h))
theorem dS{zs:List Int}(hb:∀ k,k<zs.length->0<= zs.getD k 0/\zs.getD k 0<= 65535):ce zs=true:=by
 unfold ce;exact decide_eq_true hb
theorem hJ(a:OA)(n cap:Nat)(zs:List Int)(w:World)(hn:n=zs.length)(hs:aZ w a zs)(hl:zs.length<= 2000000)(b:Bool)(hb:ce zs=b):
 Calls prog 161 #[.slice a n cap] w fun e w'=>e=.returned (.bool b)/\w'=w:=by
 subst hn;go_enter func161,ntmps161
 go_wp2;go_loop [3] (fun i=>∃ k:Nat,k<= zs.length/\i=Vi k/\∀ j,j<k->0<= zs.getD j 0/\zs.getD j 0<= 65535) (fun i=>zs.length-(intOf i).toNat)
 case atStart=>exact ⟨0,Nat.zero_le _,rfl,fun j hj=>absurd hj (Nat.not_lt_zero _)⟩
 case round=>
  obtain ⟨k,hk,rfl,hg⟩:=hrel;have HG:Hid (∀ j,j<k->0<= zs.getD j 0/\zs.getD j 0<= 65535):=hg;clear hg;by_cases hlt:k<zs.length
  ·obtain ⟨bb,off,rfl,_,hc⟩:=cj hs hlt
   have hi:(k:Int)<(zs.length:Int):=by omega
   obtain ⟨x,hx⟩:∃ x,x=zs.getD k 0:=⟨_,rfl⟩
   have HX:Hid (x=zs.getD k 0):=hx;rw [<- hx] at hc;clear hs hx;by_cases h1:0<= x
   ·by_cases h2:x<= 65535
    ·go_wp2_with (go_at_call 46;go_in)
     go_round
     case rel=>
      first
       |exact ⟨k+1,by omega,by go_num,fun j hj=>by
        by_cases e:j=k
        ·subst e;rw [<- HX.out];exact ⟨h1,h2⟩
        exact HG.out j (by omega)⟩
       |exact ⟨_,_,⟨k+1,by omega,by go_num,fun j hj=>by
        by_cases e:j=k
        ·subst e;rw [<- HX.out];exact ⟨h1,h2⟩
        exact HG.out j (by omega)⟩,rfl,rfl⟩
     case measure=>simp [intOf];omega
    have hf:=iv hlt (by rw [<- HX.out];exact fun h=>h2 h.2);rw [hf] at hb;subst hb;go_wp2_with (go_at_call 46;go_in)
    go_ret;exact ⟨rfl,rfl⟩
   have hf:=iv hlt (by rw [<- HX.out];exact fun h=>h1 h.1);rw [hf] at hb;subst hb;go_wp2_with (go_at_call 46;go_in)
   go_ret;exact ⟨rfl,rfl⟩
  have hf:=dS (zs:=zs) (fun j hj=>HG.out j (by omega));rw [hf] at hb;subst hb;clear hs;go_wp2;go_ret;exact ⟨rfl,rfl⟩
theorem eI(a:OA)(n cap:Nat)(zs:List Int)(w:World)(hn:n=zs.length)(hs:aZ w a zs)(hl:zs.length<= 2000000)(b:Bool)(hb:ce zs=b):
 Calls prog 195 #[.slice a n cap] w fun e w'=>e=.returned (.bool b)/\w'=w:=by
 subst hn;go_enter func195,ntmps195
 go_wp2;go_loop [7] (fun i=>∃ k:Nat,k<= zs.length/\i=Vi k/\∀ j,j<k->0<= zs.getD j 0/\zs.getD j 0<= 65535) (fun i=>zs.length-(intOf i).toNat)
 case atStart=>exact ⟨0,Nat.zero_le _,rfl,fun j hj=>absurd hj (Nat.not_lt_zero _)⟩
 case round=>
  obtain ⟨k,hk,rfl,hg⟩:=hrel;have HG:Hid (∀ j,j<k->0<= zs.getD j 0/\zs.getD j 0<= 65535):=hg;clear hg;by_cases hlt:k<zs.length
  ·obtain ⟨bb,off,rfl,_,hc⟩:=cj hs hlt
   have hi:(k:Int)<(zs.length:Int):=by omega
   obtain ⟨x,hx⟩:∃ x,x=zs.getD k 0:=⟨_,rfl⟩
   have HX:Hid (x=zs.getD k 0):=hx;rw [<- hx] at hc;clear hs hx;by_cases h1:0<= x
   ·by_cases h2:x<= 65535
    ·go_wp2_with (go_at_call 106;go_in)
     go_round
     case rel=>
      first
       |exact ⟨k+1,by omega,by go_num,fun j hj=>by
        by_cases e:j=k
        ·subst e;rw [<- HX.out];exact ⟨h1,h2⟩
        exact HG.out j (by omega)⟩
       |exact ⟨_,_,⟨k+1,by omega,by go_num,fun j hj=>by
        by_cases e:j=k
        ·subst e;rw [<- HX.out];exact ⟨h1,h2⟩
        exact HG.out j (by omega)⟩,rfl,rfl⟩
     case measure=>simp [intOf];omega
    have hf:=iv hlt (by rw [<- HX.out];exact fun h=>h2 h.2);rw [hf] at hb;subst hb;go_wp2_with (go_at_call 106;go_in)
    go_ret;exact ⟨rfl,rfl⟩
   have hf:=iv hlt (by rw [<- HX.out];exact fun h=>h1 h.1);rw [hf] at hb;subst hb;go_wp2_with (go_at_call 106;go_in)
   go_ret;exact ⟨rfl,rfl⟩
  have hf:=dS (zs:=zs) (fun j hj=>HG.out j (by omega));rw [hf] at hb;subst hb;clear hs;go_wp2;go_ret;exact ⟨rfl,rfl⟩
theorem oe(kd pl nn wa:Int)(a1 a2:OA)(l1 l2 c1 c2:Nat)(w:World)(hm1:l1<= 2000000)(hm2:l2<= 20000000)(z:Bool)(hz:bR true false false false nn l1 l2 wa=z):
 Calls prog 162 #[rq kd pl nn wa a1 a2 l1 l2 c1 c2,.bool true,.bool false,.bool false,.bool false] w fun e w'=>e=.returned (.bool z)/\Below w.heap.size w w':=by
 have B0:=aa w (.cells #[Vi kd,Vi pl,Vi nn,.slice a1 l1 c1,.slice a2 l2 c2,Vi wa] 86);subst hz;by_cases h1:l1=0
 ·skip
  by_cases h2:l2=0
  ·skip
   by_cases ha:wa=0
   ·skip
    have e:bR true false false false nn l1 l2 wa=true:=by simp [bR,h1,h2,ha]
    rw [e];clear e;subst h1;subst h2;subst ha;go_enter func162,ntmps162
    go_wp2;go_ret;exact ⟨rfl,B0⟩
   have e:bR true false false false nn l1 l2 wa=false:=by simp [bR,h1,h2,ha]
   rw [e];clear e;subst h1;subst h2;have e2:(wa == 0)=false:=by simp [ha]
   go_enter func162,ntmps162
   go_wp2;go_ret;exact ⟨rfl,B0⟩
  have e:bR true false false false nn l1 l2 wa=false:=by simp [bR,h1,h2]
  rw [e];have h2i:¬ (l2:Int)=0:=by omega
  clear e;subst h1;go_enter func162,ntmps162
  go_wp2;go_ret;exact ⟨rfl,B0⟩
 have e:bR true false false false nn l1 l2 wa=false:=by simp [bR,h1]
 rw [e];have h1i:¬ (l1:Int)=0:=by omega
 clear e;go_enter func162,ntmps162
 go_wp2;go_ret;exact ⟨rfl,B0⟩
theorem og(kd pl nn wa:Int)(a1 a2:OA)(l1 l2 c1 c2:Nat)(w:World)(hm1:l1<= 2000000)(hm2:l2<= 20000000)(z:Bool)(hz:bR false false true false nn l1 l2 wa=z):
 Calls prog 162 #[rq kd pl nn wa a1 a2 l1 l2 c1 c2,.bool false,.bool false,.bool true,.bool false] w fun e w'=>e=.returned (.bool z)/\Below w.heap.size w w':=by
 have B0:=aa w (.cells #[Vi kd,Vi pl,Vi nn,.slice a1 l1 c1,.slice a2 l2 c2,Vi wa] 86);subst hz;by_cases hn:nn=0
 ·skip
  by_cases h1:l1=0
  ·skip
   by_cases ha:wa=0
   ·skip
    have e:bR false false true false nn l1 l2 wa=true:=by simp [bR,hn,h1,ha]
    rw [e];clear e;subst hn;subst h1;subst ha;go_enter func162,ntmps162
    go_wp2;go_ret;exact ⟨rfl,B0⟩
   have e:bR false false true false nn l1 l2 wa=false:=by simp [bR,hn,h1,ha]
   rw [e];clear e;subst hn;subst h1;have e2:(wa == 0)=false:=by simp [ha]
   go_enter func162,ntmps162
   go_wp2;go_ret;exact ⟨rfl,B0⟩
  have e:bR false false true false nn l1 l2 wa=false:=by simp [bR,hn,h1]
  rw [e];have h1i:¬ (l1:Int)=0:=by omega
  clear e;subst hn;go_enter func162,ntmps162
  go_wp2;go_ret;exact ⟨rfl,B0⟩
 have e:bR false false true false nn l1 l2 wa=false:=by simp [bR,hn]
 rw [e];clear e;go_enter func162,ntmps162
 go_wp2;go_ret;exact ⟨rfl,B0⟩
theorem oh(kd pl nn wa:Int)(a1 a2:OA)(l1 l2 c1 c2:Nat)(w:World)(hm1:l1<= 2000000)(hm2:l2<= 20000000)(z:Bool)(hz:bR false true false false nn l1 l2 wa=z):
 Calls prog 162 #[rq kd pl nn wa a1 a2 l1 l2 c1 c2,.bool false,.bool true,.bool false,.bool false] w fun e w'=>e=.returned (.bool z)/\Below w.heap.size w w':=by
 have B0:=aa w (.cells #[Vi kd,Vi pl,Vi nn,.slice a1 l1 c1,.slice a2 l2 c2,Vi wa] 86);subst hz;by_cases hn:nn=0
 ·skip
  by_cases h2:l2=0
  ·skip
   by_cases ha:wa=0
   ·skip
    have e:bR false true false false nn l1 l2 wa=true:=by simp [bR,hn,h2,ha]
    rw [e];clear e;subst hn;subst h2;subst ha;go_enter func162,ntmps162
    go_wp2;go_ret;exact ⟨rfl,B0⟩
   have e:bR false true false false nn l1 l2 wa=false:=by simp [bR,hn,h2,ha]
   rw [e];clear e;subst hn;subst h2;have e2:(wa == 0)=false:=by simp [ha]
   go_enter func162,ntmps162
   go_wp2;go_ret;exact ⟨rfl,B0⟩
  have e:bR false true false false nn l1 l2 wa=false:=by simp [bR,hn,h2]
  rw [e];have h2i:¬ (l2:Int)=0:=by omega
  clear e;subst hn;go_enter func162,ntmps162
  go_wp2;go_ret;exact ⟨rfl,B0⟩
 have e:bR false true false false nn l1 l2 wa=false:=by simp [bR,hn]
 rw [e];clear e;go_enter func162,ntmps162
 go_wp2;go_ret;exact ⟨rfl,B0⟩
theorem oi(kd pl nn wa:Int)(a1 a2:OA)(l1 l2 c1 c2:Nat)(w:World)(hm1:l1<= 2000000)(hm2:l2<= 20000000)(z:Bool)(hz:bR true true false true nn l1 l2 wa=z):
 Calls prog 162 #[rq kd pl nn wa a1 a2 l1 l2 c1 c2,.bool true,.bool true,.bool false,.bool true] w fun e w'=>e=.returned (.bool z)/\Below w.heap.size w w':=by
 have B0:=aa w (.cells #[Vi kd,Vi pl,Vi nn,.slice a1 l1 c1,.slice a2 l2 c2,Vi wa] 86);subst hz;by_cases h2:l2=0
 ·skip
  have e:bR true true false true nn l1 l2 wa=true:=by simp [bR,h2]
  rw [e];clear e;subst h2;go_enter func162,ntmps162
  go_wp2;go_ret;exact ⟨rfl,B0⟩
 have e:bR true true false true nn l1 l2 wa=false:=by simp [bR,h2]
 rw [e];have h2i:¬ (l2:Int)=0:=by omega
 clear e;go_enter func162,ntmps162
 go_wp2;go_ret;exact ⟨rfl,B0⟩
theorem fW(a a':OA)(n n' cap cap':Nat)(zs:List Int)(w:World)(hn:n=zs.length)(hn':n'=zs.length)(hs:aZ w a zs)(hs':aZ w a' zs)(hl:zs.length<= 2000000):
 Calls prog 177 #[.slice a n cap,.slice a' n' cap'] w fun e w'=>e=.returned (.bool true)/\Below w.heap.size w w':=by
 subst hn hn';go_enter func177,ntmps177
 go_wp2;go_loopw [13] (fun i wr=>∃ k:Nat,k<= zs.length/\i=Vi k/\∃ n,wr=w.drewN n) (fun i _=>zs.length-(intOf i).toNat)
 case atStart=>exact ⟨0,Nat.zero_le _,rfl,0,rfl⟩
 case round=>
  obtain ⟨k,hk,rfl,n,rfl⟩:=hrel;by_cases hlt:k<zs.length
  ·obtain ⟨b,off,rfl,_,hc⟩:=cj hs hlt
   obtain ⟨b',off',rfl,_,hc'⟩:=cj hs' hlt;have hi:(k:Int)<(zs.length:Int):=by omega
   clear hs hs';go_wp2;go_quiet (fail)
   go_wp2;go_roundw
   case rel=>first|exact ⟨k+1,by omega,by go_num,_,rfl⟩|exact ⟨_,_,⟨k+1,by omega,by go_num,_,rfl⟩,rfl,rfl⟩
   case measure=>simp [intOf];omega
  clear hs hs';go_wp2;go_ret;exact ⟨rfl,cF _ _⟩
theorem f8(a a':OA)(n n' cap cap':Nat)(w:World)(hne:¬ (n:Int)=(n':Int))(h1:n<= 20000000)(h2:n'<= 20000000):
 Calls prog 177 #[.slice a n cap,.slice a' n' cap'] w fun e w'=>e=.returned (.bool false)/\Below w.heap.size w w':=by
 go_enter func177,ntmps177
 go_wp2;go_ret;exact ⟨rfl,Br⟩
theorem iw(a a':OA)(n n' cap cap':Nat)(zs:List Bool)(w:World)(hn:n=zs.length)(hn':n'=zs.length)(hs:be w a zs)(hs':be w a' zs)(hl:zs.length<= 2000000):
 Calls prog 178 #[.slice a n cap,.slice a' n' cap'] w fun e w'=>e=.returned (.bool true)/\Below w.heap.size w w':=by
 subst hn hn';go_enter func178,ntmps178
 go_wp2;go_loopw [13] (fun i wr=>∃ k:Nat,k<= zs.length/\i=Vi k/\∃ n,wr=w.drewN n) (fun i _=>zs.length-(intOf i).toNat)
 case atStart=>exact ⟨0,Nat.zero_le _,rfl,0,rfl⟩
 case round=>
  obtain ⟨k,hk,rfl,n,rfl⟩:=hrel;by_cases hlt:k<zs.length
  ·obtain ⟨b,off,rfl,_,hc⟩:=b7 hs hlt
   obtain ⟨b',off',rfl,_,hc'⟩:=b7 hs' hlt;have hi:(k:Int)<(zs.length:Int):=by omega
   clear hs hs';go_wp2;go_quiet (fail)
   go_wp2;go_roundw
   case rel=>first|exact ⟨k+1,by omega,by go_num,_,rfl⟩|exact ⟨_,_,⟨k+1,by omega,by go_num,_,rfl⟩,rfl,rfl⟩
   case measure=>simp [intOf];omega
  clear hs hs';go_wp2;go_ret;exact ⟨rfl,cF _ _⟩
theorem fN(a a':OA)(n n' cap cap':Nat)(w:World)(hne:¬ (n:Int)=(n':Int))(h1:n<= 20000000)(h2:n'<= 20000000):
 Calls prog 178 #[.slice a n cap,.slice a' n' cap'] w fun e w'=>e=.returned (.bool false)/\Below w.heap.size w w':=by
 go_enter func178,ntmps178
 go_wp2;go_ret;exact ⟨rfl,Br⟩
def pv(bits:List Bool):Nat->Nat->Int
 |0,_=>0
 |k+1,j=>if k / 8=j/\bits.getD k false=true then pv bits k j+(2 ^ (k % 8):Nat) else pv bits k j
theorem eJ(x:Int)(w:World)(h0:0<= x)(h1:x<= 9223372036854775807):
 Calls prog 197 #[Vi x] w fun e w'=>e=.returned (Vi ((x+7) / 8))/\w'=w:=by
 by_cases h:x % 8=0
 ·have e:(x+7) / 8=x / 8:=by omega
  rw [e];have h':(x % 8 == 0)=true:=by simp [h]
  clear e;go_enter func197,ntmps197
  go_wp2;go_ret;exact ⟨rfl,rfl⟩
 have e:(x+7) / 8=x / 8+1:=by omega
 rw [e];have h':(x % 8 == 0)=false:=by simp [h]
 clear e;go_enter func197,ntmps197
 go_wp2;go_ret;exact ⟨rfl,rfl⟩
def wb(x:Int):List Int:=[x / 256 % 256,x % 256]
def yt:List Int->List Int
 | []=>[]
 |x:: r=>x / 256 % 256:: x % 256:: yt r
def Nw(w w':World)(e:Ending)(zs:List Int):Prop:=
 ∃ g c n,e=.returned (.slice (some ⟨g,0,none⟩) n c)/\n=zs.length/\yk w' w.heap.size (.slice (some ⟨g,0,none⟩) n c) zs/\Below w.heap.size w w'
theorem Tryz.infoQ3:(prog.info? 3).map (fun i=>(i.zero,i.size,i.bytes))=some (some (Vi 0),1,8):=by kernel_rfl
theorem aZ.cellsAt{w:World}{ad:Addr}{zs:List Int}(h:aZ w (some ad) zs):∀ j u,(zs.map (Value.int .i64))[j]? = some u->w.cell? (ad.add j)=some u:=by
 intro j u hu;rcases h with h|⟨b,off,ha,_,hc⟩
 ·subst h;simp at hu
 obtain rfl:ad=⟨b,off,none⟩:=by simpa using ha
 have hj:j<zs.length:=by
  have:=(List.getElem?_eq_some_iff.1 hu).1;simpa using this
 have e:Addr.add ⟨b,off,none⟩ j=⟨b,off+j,none⟩:=by
  by_cases h0:j=0
  ·subst h0;simp [Addr.add]
  simp [Addr.add,h0]
 rw [e,hc j hj];rw [<- hu];simp [hj]
theorem om{w:World}{ops:Array Oper}{rest:List Oper}{o:Oper}{a:Act}{Q:Exit->Act->World->Prop}(hgd:o.guard=none)(s x:Operand)
 (ho:o.op=.call { callee:=.builtin .append,args:=#[s,x],argTypes:=#[76,76] })(base:Nat)(v:Value)(zs:List Int)(hs:a.eval s=v)(hown:bi w base v zs)
 (ad:Addr) (m c:Nat) (ys:List Int) (hx:a.eval x=.slice (some ad) m c) (hm:m=ys.length) (hsl:aZ w (some ad) ys) (hlen:zs.length+ys.length<= 4000000) (hbase:base<= w.heap.size)
 (h:∀ v' w',bi w' base v' (zs++ys)->w.grownBy w' v.ownBlock->wpList prog ops Q rest (a.put o.dst v') w'):wpList prog ops Q (o:: rest) a w:=by
 obtain ⟨i0,hi,hz0,hz1,hz2⟩:=info_parts Tryz.infoQ3;subst hm;refine wpList_append_own w hgd s x 76 ho base 3 i0 (Vi 0) 1 8 underlying76 hi hz0 hz1 hz2 rfl (by decide) v zs.length (zs.map (Value.int .i64)) hs hown ad ys.length c (ys.map (Value.int .i64)) hx (by simp) hsl.cellsAt (ints_oneCell _ _) (by unfold maxLen;omega) (by omega) hbase ?_;intro v' w' h1 h2 _;exact h v' w' (by simpa [bi] using h1) h2
theorem qH{w:World}{ys:List Int}(h:aZ w none ys):ys=[]:=by
 cases ys with
 |nil=>rfl
 |cons y r=>obtain ⟨b,off,e,_⟩:=cj (k:=0) h (by simp);simp at e
theorem pX{w:World}{ys:List Bool}(h:be w none ys):ys=[]:=by
 cases ys with
 |nil=>rfl
 |cons y r=>obtain ⟨b,off,e,_⟩:=b7 (k:=0) h (by simp);simp at e
theorem jc{w:World}{ops:Array Oper}{rest:List Oper}{o:Oper}{a:Act}{Q:Exit->Act->World->Prop}(hgd:o.guard=none)(s x:Operand)
 (ho:o.op=.call { callee:=.builtin .append,args:=#[s,x],argTypes:=#[76,76] })(base:Nat)(v:Value)(zs:List Int)(hs:a.eval s=v)(hown:bi w base v zs)
 (ad:OA) (m c:Nat) (ys:List Int) (hx:a.eval x=.slice ad m c) (hm:m=ys.length) (hsl:aZ w ad ys) (hlen:zs.length+ys.length<= 4000000) (hbase:base<= w.heap.size)
 (h:∀ v' w',bi w' base v' (zs++ys)->w.grownBy w' v.ownBlock->wpList prog ops Q rest (a.put o.dst v') w'):wpList prog ops Q (o:: rest) a w:=by
 cases ad with
 |some ad=>exact om hgd s x ho base v zs hs hown ad m c ys hx hm hsl hlen hbase h
 |none=>
  obtain rfl:=qH hsl;obtain rfl:m=0:=hm;obtain ⟨i0,hi,hz0,hz1,hz2⟩:=info_parts Tryz.infoQ3
  have hgo:∀ (sa:OA) (sn sc:Nat),sn<= sc->v=.slice sa sn sc->wpList prog ops Q (o:: rest) a w:=by
   rintro sa sn sc hcap rfl;exact Lib.wpList_append_run _ hgd s x _ _ ho _ _ hs hx _ _ (run_append_nothing w 76 76 o.type 3 i0 underlying76 hi sa sn sc hcap _ (Src.ofNil w underlying76 c)) (h _ w (by simpa using hown) ⟨rfl,rfl,rfl,Nl,fun _ _ _=>rfl⟩)
  rcases hown.2 with ⟨e,_⟩|⟨g,cap',cur,hv,_,hh,h3,_⟩
  ·exact hgo _ _ _ (Nat.le_refl 0) e
  exact hgo _ _ _ h3 hv
theorem qI{w:World}{ad:Addr}{ys:List Bool}(h:be w (some ad) ys):∀ j u,(ys.map Value.bool)[j]? = some u->w.cell? (ad.add j)=some u:=by
 intro j u hu;rw [List.getElem?_map] at hu;by_cases hj:j<ys.length
 ·obtain ⟨b,off,e,_,hc⟩:=b7 h hj
  simp at e;subst e;rw [List.getElem?_eq_getElem hj] at hu;simp at hu;subst hu;have:ys.getD j false=ys[j]:=by simp [List.getD_eq_getElem?_getD,hj]
  rw [this] at hc;by_cases h0:j=0
  ·subst h0;simpa [Addr.add] using hc
  simpa [Addr.add,h0] using hc
 rw [List.getElem?_eq_none (by omega)] at hu;simp at hu
theorem gC{w:World}{ops:Array Oper}{rest:List Oper}{o:Oper}{a:Act}{Q:Exit->Act->World->Prop}(hgd:o.guard=none)(s x:Operand)
 (ho:o.op=.call { callee:=.builtin .append,args:=#[s,x],argTypes:=#[77,77] })(base:Nat)(v:Value)(zs:List Bool)(hs:a.eval s=v)(hown:bD w base v zs)
 (ad:OA) (m c:Nat) (ys:List Bool) (hx:a.eval x=.slice ad m c) (hm:m=ys.length) (hsl:be w ad ys) (hlen:zs.length+ys.length<= 4000000) (hbase:base<= w.heap.size)
 (h:∀ v' w',bD w' base v' (zs++ys)->w.grownBy w' v.ownBlock->wpList prog ops Q rest (a.put o.dst v') w'):wpList prog ops Q (o:: rest) a w:=by
 obtain ⟨i0,hi,hz0,hz1,hz2⟩:=info_parts Tryz.info4;cases ad with
 |some ad=>
  subst hm;have hml:zs.length+ys.length<= maxLen:=by unfold maxLen;omega
  refine wpList_append_own _ hgd s x 77 ho base 4 i0 (.bool false) 1 1 underlying77 hi hz0 hz1 hz2 rfl (by decide) v zs.length (zs.map Value.bool) hs hown ad ys.length c (ys.map Value.bool) hx (by simp) (qI hsl) (by intro u hu;obtain ⟨y,_,rfl⟩:=List.mem_map.mp hu;rfl) hml (by omega) hbase ?_;intro v' w' o' g' _;exact h v' w' (by simpa [bD] using o') g'
 |none=>
  obtain rfl:=pX hsl;obtain rfl:m=0:=hm
  have hgo:∀ (sa:OA) (sn sc:Nat),sn<= sc->v=.slice sa sn sc->wpList prog ops Q (o:: rest) a w:=by
   rintro sa sn sc hcap rfl;exact Lib.wpList_append_run _ hgd s x _ _ ho _ _ hs hx _ _ (run_append_nothing w 77 77 o.type 4 i0 underlying77 hi sa sn sc hcap _ (Src.ofNil w underlying77 c)) (h _ w (by simpa using hown) ⟨rfl,rfl,rfl,Nl,fun _ _ _=>rfl⟩)
  rcases hown.2 with ⟨e,_⟩|⟨g,cap',cur,hv,_,hh,h3,_⟩
  ·exact hgo _ _ _ (Nat.le_refl 0) e
  exact hgo _ _ _ h3 hv
theorem vn(u:World)(base:Nat)(hb:base<= u.heap.size):bi (u.alloc (.cells #[] 3)) base (.slice (some ⟨u.heap.size,0,none⟩) 0 0) []:=⟨rfl,.inr ⟨u.heap.size,0,#[],rfl,hb,ae.new u #[] 3,by simp,by simp,rfl,rfl⟩⟩
theorem rX(u:World)(base:Nat)(hb:base<= u.heap.size):bD (u.alloc (.cells #[] 4)) base (.slice (some ⟨u.heap.size,0,none⟩) 0 0) []:=⟨rfl,.inr ⟨u.heap.size,0,#[],rfl,hb,ae.new u #[] 4,by simp,by simp,rfl,rfl⟩⟩
theorem iy{w:World}{base:Nat}{v:Value}{zs:List Bool}(h:bD w base v zs):∃ a c n,v=.slice a n c/\n=zs.length:=by
 obtain ⟨_,h2⟩:=h;rcases h2 with ⟨hv,h3⟩|⟨g,cap,cur,hv,hg,hh,_⟩
 ·exact ⟨none,0,0,hv,h3.symm⟩
 exact ⟨_,cap,_,hv,rfl⟩
theorem jC{w:World}{base:Nat}{v:Value}{zs:List Int}(h:bi w base v zs):∃ a c n,v=.slice a n c/\n=zs.length:=by
 obtain ⟨_,h2⟩:=h;rcases h2 with ⟨hv,h3⟩|⟨g,cap,cur,hv,hg,hh,_⟩
 ·exact ⟨none,0,0,hv,h3.symm⟩
 exact ⟨_,cap,_,hv,rfl⟩
end Go.Proofs.YtohikbpolofklaaGreat
namespace Go.Proofs.YtohikbpolofklaaGreat
open Go.RowKit Go.Joins Go.Proofs.Tryz
theorem ld(F:Nat->List Value)(vs:List Value)(n:Nat):(List.range (n+1)).flatMap (fun k=>if k=n then vs else F k)=(List.range n).flatMap F++vs:=by
 rw [List.range_succ,List.flatMap_append];congr 1
 ·have:∀ l:List Nat,(∀ x ∈ l,x<n)->l.flatMap (fun k=>if k=n then vs else F k)=l.flatMap F:=by
   intro l;induction l with
   |nil=>intro _;rfl
   |cons x r ih=>
    intro h;rw [List.flatMap_cons,List.flatMap_cons,ih (fun y hy=>h y (by simp [hy]))];have:=h x (by simp);rw [if_neg (by omega)]
  exact this _ (fun x hx=>List.mem_range.1 hx)
 simp
theorem kh(F:Nat->List Value)(s:Nat):∀ n,(∀ k,k<n->(F k).length=s)->((List.range n).flatMap F).length=n*s
 |0,_=>by simp
 |n+1,h=>by
  rw [List.range_succ,List.flatMap_append,List.length_append,kh F s n (fun k hk=>h k (by omega))];simp [h n (by omega),Nat.add_mul]
theorem jy(F:Nat->List Value)(s:Nat):∀ n,(∀ k,k<n->(F k).length=s)->∀ k j,k<n->j<s->((List.range n).flatMap F)[k*s+j]? = (F k)[j]?
 |0,_,k,j,hk,_=>by omega
 |n+1,h,k,j,hk,hj=>by
  have hl:=kh F s n (fun k hk=>h k (by omega));rw [List.range_succ,List.flatMap_append];by_cases e:k=n
  ·subst e
   rw [List.getElem?_append_right (by omega),hl,Nat.add_sub_cancel_left];simp
  have hk':k<n:=by omega
  have:(k+1)*s<= n*s:=Nat.mul_le_mul_right s hk';rw [Nat.add_mul,Nat.one_mul] at this;rw [List.getElem?_append_left (by omega)];exact jy F s n (fun k hk=>h k (by omega)) k j hk' hj
def ki(w:World)(base:Nat)(v:Value)(ts:List Tr)(vs:List Value):Prop:=
 ∃ K:Nat->Sk,∀ i u,vs[i]? = some u->aQ w (ac ts i) (K i) u/\∀ b,(K i).bl b->base<= b/\v.ownBlock≠some b
theorem ki.kept{w w':World}{base:Nat}{v v':Value}{ts:List Tr}{vs:List Value}(h:ki w base v ts vs)(hg:w.grownBy w' v.ownBlock)(hv:v'.ownBlock=v.ownBlock\/v'.ownBlock=some w.heap.size):ki w' base v' ts vs:=by
 obtain ⟨K,h⟩:=h;refine ⟨K,fun i u hu=>⟨(h i u hu).1.same hg.size (fun b hb=>hg.block b ((h i u hu).1.lt hb) (fun e=>((h i u hu).2 b hb).2 e.symm)),fun b hb=>⟨((h i u hu).2 b hb).1,?_⟩⟩⟩
 rcases hv with e|e
 ·rw [e];exact ((h i u hu).2 b hb).2
 rw [e];intro q;have:=(h i u hu).1.lt hb;have:=Option.some.inj q;omega
def bE(w:World)(base:Nat)(e:TypeId)(s:Nat)(v:Value)(n:Nat)(f:Nat->List Tr):Prop:=
 ∃ F:Nat->List Value,w.ownsRow base e s v n ((List.range n).flatMap F)/\∀ k,k<n->(F k).length=s/\ki w base v (f k) (F k)
theorem bE.below{w w':World}{base:Nat}{e:TypeId}{s n:Nat}{v:Value}{f:Nat->List Tr}(h:bE w base e s v n f)(hb:Below w.heap.size w w'):bE w' base e s v n f:=by
 obtain ⟨F,h1,h2⟩:=h;refine ⟨F,?_,fun k hk=>⟨(h2 k hk).1,?_⟩⟩
 ·refine World.ownsRow.kept h1 (gZ hb (some w.heap.size)) ?_
  cases e:v.ownBlock with
  |none=>exact .inl rfl
  |some k=>exact .inr (fun e2=>by have:=(World.ownsRow.lt h1 k e).2;simp at e2;omega)
 obtain ⟨K,h3⟩:=(h2 k hk).2;exact ⟨K,fun i u hu=>⟨(h3 i u hu).1.below hb,(h3 i u hu).2⟩⟩
theorem bE.nil(w:World)(base:Nat)(e:TypeId)(s:Nat)(f:Nat->List Tr):bE w base e s (Zs) 0 f:=
 ⟨fun _=>[],⟨by simp,.inl ⟨rfl,rfl⟩⟩,fun k hk=>absurd hk (Nat.not_lt_zero _)⟩
theorem oo{w:World}{ops:Array Oper}{rest:List Oper}{o:Oper}{a:Act}{Q:Exit->Act->World->Prop}(hgd:o.guard=none)(s x:Operand)(t e:TypeId)(sz by':Nat)(z:Value)
 (ho:o.op=.call { callee:=.builtin .append,args:=#[s,x],argTypes:=#[t,t] })(ht:prog.underlying t=some (.slice e))(hinfo:(prog.info? e).map (fun i=>(i.zero,i.size,i.bytes))=some (some z,sz,by'))(hzs:z.cells.size=sz)(hsz:0<sz)(hby:by'<= 10000)
 (base:Nat) (v:Value) (n:Nat) (f:Nat->List Tr) (hs:a.eval s=v) (hown:bE w base e sz v n f)
 (g c:Nat) (vs:List Value) (hx:a.eval x=.slice (some ⟨g,0,none⟩) 1 c) (hvs:vs.length=sz) (hb:∀ j u,vs[j]? = some u->w.cell? ⟨g,j,none⟩=some u) (h1:∀ u ∈ vs,u.oneCell'=true) (hel:ki w base v (f n) vs) (hlen:n<= 2000000) (hbase:base<= w.heap.size)
 (h:∀ v' w',bE w' base e sz v' (n+1) f->w.grownBy w' v.ownBlock->(∀ k,v.ownBlock=some k->base<= k)->wpList prog ops Q rest (a.put o.dst v') w'):wpList prog ops Q (o:: rest) a w:=by
 obtain ⟨F,r1,r2⟩:=hown;obtain ⟨i0,hi,hzz⟩:=Option.map_eq_some_iff.1 hinfo;simp only [Prod.mk.injEq] at hzz;obtain ⟨hz0,hz1,hz2⟩:=hzz
 refine wpList_append_own_at w hgd s x t ho base e i0 z sz by' ht hi hz0 hz1 hz2 hzs hsz v n ((List.range n).flatMap F) hs r1 ⟨g,0,none⟩ 1 c vs hx (by rw [hvs];simp) (fun j u hu=>by
  have e1:(⟨g,0,none⟩:Addr).add j=⟨g,j,none⟩:=by unfold Addr.add;split <;> simp_all
  rw [e1];exact hb j u hu) h1 (by unfold maxLen;omega) (by have:(n+1)*by'<= 2000001*10000:=Nat.mul_le_mul (by omega) hby;omega) hbase ?_
 intro v' w' k1 k2 _ k4;refine h v' w' ⟨fun k=>if k=n then vs else F k,?_,fun k hk=>?_⟩ k2 (fun k hk=>(World.ownsRow.lt r1 k hk).1)
 ·rw [ld];exact k1
 by_cases e:k=n
 ·subst e
  simp only [if_true];exact ⟨hvs,hel.kept k2 k4⟩
 simp only [if_neg e];exact ⟨(r2 k (by omega)).1,(r2 k (by omega)).2.kept k2 k4⟩
theorem az.elG{w:World}{base lo hi:Nat}{v:Value}{ts:List Tr}{vs:List Value}(h:az w lo hi ts vs)(hl:base<= lo)(hv:∀ b,v.ownBlock=some b->b<lo):ki w base v ts vs:=by
 obtain ⟨K,h1,h2,h3,h4⟩:=h;refine ⟨K,fun i u hu=>⟨h2 i u hu,fun b hb=>?_⟩⟩
 have hi':i<ts.length:=by rw [<- h1];exact (List.getElem?_eq_some_iff.1 hu).1
 have:=(h3 i hi').2 b hb;exact ⟨by omega,fun e=>by have:=hv b e;omega⟩
def vo(w w':World)(e:Ending)(kd pl nn wa:Int)(ws:List Int)(bs:List Bool):Prop:=
 ∃ r1 r2 l1 l2 c1 c2,e=.returned (.agg (dZ kd pl nn wa r1 r2 l1 l2 c1 c2))/\l1=ws.length/\l2=bs.length/\bi w' w.heap.size (.slice r1 l1 c1) ws/\bD w' w.heap.size (.slice r2 l2 c2) bs/\Below w.heap.size w w'
theorem ae.six2{w:World}{g:Nat}{t:TypeId}{v0 v1 v2 v3 v4 v5:Value}(h:ae w g t #[v0,v1,v2,v3,v4,v5]):(w.cell? ⟨g,0,none⟩=some v0/\w.cell? ⟨g,1,none⟩=some v1/\w.cell? ⟨g,2,none⟩=some v2/\w.cell? ⟨g,3,none⟩=some v3/\w.cell? ⟨g,4,none⟩=some v4/\w.cell? ⟨g,5,none⟩=some v5)/\(w.frozen? ⟨g,0,none⟩=false/\w.frozen? ⟨g,1,none⟩=false/\w.frozen? ⟨g,2,none⟩=false/\w.frozen? ⟨g,3,none⟩=false/\w.frozen? ⟨g,4,none⟩=false/\w.frozen? ⟨g,5,none⟩=false):=
 ⟨⟨h.cell 0 rfl,h.cell 1 rfl,h.cell 2 rfl,h.cell 3 rfl,h.cell 4 rfl,h.cell 5 rfl⟩,⟨h.fro 0,h.fro 1,h.fro 2,h.fro 3,h.fro 4,h.fro 5⟩⟩
theorem fB{B:Nat}{w0 w w':World}{g:Nat}(hb:Below B w0 w)(hg:w.grownBy w' (some g))(h1:B<= g)(h2:B<= w.heap.size):Below B w0 w':=
 hb.grown hg h2 (fun k hk=>by have:=Option.some.inj hk;omega)
theorem mt(kd pl nn wa:Int)(q1 q2:OA)(m1 m2 k1 k2:Nat)(ws:List Int)(bs:List Bool)(w:World)(h1:m1=ws.length)(h2:m2=bs.length)(s1:aZ w q1 ws)(s2:be w q2 bs)(hl1:ws.length<= 2000000)(hl2:bs.length<= 2000000):
 Calls prog 122 #[.agg (dZ kd pl nn wa q1 q2 m1 m2 k1 k2)] w fun e w'=>vo w w' e kd pl nn wa ws bs:=by
 obtain ⟨B,hB⟩:∃ B,B=w.heap.size:=⟨_,rfl⟩
 obtain ⟨W,hW⟩:∃ W,W=(w.alloc (.cells (dZ kd pl nn wa q1 q2 m1 m2 k1 k2) 86)).alloc (.cells jK 86):=⟨_,rfl⟩
 have bW:Below w.heap.size w W:=by rw [hW];exact af (aa _ _) (aa _ _)
 have HW:Hid (Below w.heap.size w W/\ae W B 86 (dZ kd pl nn wa q1 q2 m1 m2 k1 k2)/\ae W (B+1) 86 jK/\w.heap.size<= W.heap.size):=⟨bW,by rw [hW,hB];exact (ae.new w _ _).below (aa _ _),by rw [hW,hB];have:=ae.new (w.alloc (.cells (dZ kd pl nn wa q1 q2 m1 m2 k1 k2) 86)) jK 86;simpa using this,bW.size⟩
 have HS:Hid (m1=ws.length/\m2=bs.length/\aZ w q1 ws/\be w q2 bs/\w.heap.size=B):=⟨h1,h2,s1,s2,hB.symm⟩
 clear bW h1 h2 s1 s2;go_enter func122,ntmps122
 go_upto_region 1 with fail
 rw [<- hW,<- hB];clear hW hB;obtain ⟨⟨y0,y1,y2,y3,y4,y5⟩,_⟩:=(HW.out.2.1.below (aa W (.cells #[] 3))).six2;go_upto_region 2 with (at_builtin;refine jc rfl (.tmp 3) (.tmp 5) rfl w.heap.size (.slice (some ⟨W.heap.size,0,none⟩) 0 0) [] rfl (vn W w.heap.size HW.out.2.2.2) q1 m1 k1 ws rfl HS.out.1 (HS.out.2.2.1.below (af HW.out.1 (aa _ _))) (by simp;omega) (by have:=HW.out.2.2.2;simp;omega) ?_;intro v1 w1 O1 g1';have g1:(W.alloc (.cells #[] 3)).grownBy w1 (some W.heap.size):=g1';clear g1';have HU:Hid (bi w1 w.heap.size v1 ws/\Below w.heap.size w w1/\ae w1 B 86 (dZ kd pl nn wa q1 q2 m1 m2 k1 k2)/\ae w1 (B+1) 86 jK):=⟨by simpa using O1,fB (af HW.out.1 (aa _ _)) g1 HW.out.2.2.2 (by have:=HW.out.2.2.2;simp;omega),(HW.out.2.1.below (aa _ _)).grown g1 (by have:=HW.out.2.1.lt;intro e9;have:=Option.some.inj e9;omega),(HW.out.2.2.1.below (aa _ _)).grown g1 (by have:=HW.out.2.2.1.lt;intro e9;have:=Option.some.inj e9;omega)⟩;clear O1 g1;obtain ⟨a1,c1,n1,hv1,hn1⟩:=jC HU.out.1;subst hv1;have HN1:Hid (n1=ws.length):=hn1;clear hn1;obtain ⟨⟨x0,x1,x2,x3,x4,x5⟩,⟨f0,f1,f2,f3,f4,f5⟩⟩:=HU.out.2.2.1.six2)
 obtain ⟨W2,hW2⟩:∃ W2,W2=w1.setCell ⟨B,3,none⟩ (.slice a1 n1 c1):=⟨_,rfl⟩
 have HV:Hid (bi W2 w.heap.size (.slice a1 n1 c1) ws/\Below w.heap.size w W2/\ae W2 B 86 (dZ kd pl nn wa a1 q2 n1 m2 c1 k2)/\ae W2 (B+1) 86 jK/\w.heap.size<= W2.heap.size):=by
  have hb:Below w.heap.size w W2:=by rw [hW2];exact HU.out.2.1.setCell (p:=⟨B,3,none⟩) (by show w.heap.size<= B;rw [HS.out.2.2.2.2];exact Nl) _
  exact ⟨by rw [hW2];exact bn HU.out.1 ⟨_,HU.out.2.2.1⟩ (by decide),hb,by rw [hW2];have h9:=HU.out.2.2.1.set 3 (.slice a1 n1 c1);simpa using h9,by rw [hW2];exact HU.out.2.2.2.setNe (by omega),hb.size⟩
 rw [<- hW2];clear hW2 HU x0 x1 x2 x3 x4 x5 f0 f1 f2 f3 f4 f5 y0 y1 y2 y3 y4 y5 HW;obtain ⟨⟨y0,y1,y2,y3,y4,y5⟩,_⟩:=(HV.out.2.2.1.below (aa W2 (.cells #[] 4))).six2;go_upto_region 3 with (at_builtin;refine gC rfl (.tmp 8) (.tmp 10) rfl w.heap.size (.slice (some ⟨W2.heap.size,0,none⟩) 0 0) [] rfl (rX W2 w.heap.size HV.out.2.2.2.2) q2 m2 k2 bs rfl HS.out.2.1 (HS.out.2.2.2.1.below (af HV.out.2.1 (aa _ _))) (by simp;omega) (by have:=HV.out.2.2.2.2;simp;omega) ?_;intro v2 w2 O2 g2';have g2:(W2.alloc (.cells #[] 4)).grownBy w2 (some W2.heap.size):=g2';clear g2';have HU:Hid (bD w2 w.heap.size v2 bs/\Below w.heap.size w w2/\ae w2 B 86 (dZ kd pl nn wa a1 q2 n1 m2 c1 k2)/\ae w2 (B+1) 86 jK/\bi w2 w.heap.size (.slice a1 n1 c1) ws):=⟨by simpa using O2,fB (af HV.out.2.1 (aa _ _)) g2 HV.out.2.2.2.2 (by have:=HV.out.2.2.2.2;simp;omega),(HV.out.2.2.1.below (aa _ _)).grown g2 (by have:=HV.out.2.2.1.lt;intro e9;have:=Option.some.inj e9;omega),(HV.out.2.2.2.1.below (aa _ _)).grown g2 (by have:=HV.out.2.2.2.1.lt;intro e9;have:=Option.some.inj e9;omega),(bi.below HV.out.1 (aa _ _)).kept g2 (.inr (by intro e9;have:=(World.ownsRow.lt HV.out.1 _ e9).2;simp at this))⟩;clear O2 g2;obtain ⟨a2,c2,n2,hv2,hn2⟩:=iy HU.out.1;subst hv2;have HN2:Hid (n2=bs.length):=hn2;clear hn2;obtain ⟨⟨x0,x1,x2,x3,x4,x5⟩,⟨f0,f1,f2,f3,f4,f5⟩⟩:=HU.out.2.2.1.six2)
 obtain ⟨W3,hW3⟩:∃ W3,W3=w2.setCell ⟨B,4,none⟩ (.slice a2 n2 c2):=⟨_,rfl⟩
 have HX:Hid (bi W3 w.heap.size (.slice a1 n1 c1) ws/\bD W3 w.heap.size (.slice a2 n2 c2) bs/\Below w.heap.size w W3/\ae W3 B 86 (dZ kd pl nn wa a1 a2 n1 n2 c1 c2)/\ae W3 (B+1) 86 jK):=by
  have hb:Below w.heap.size w W3:=by rw [hW3];exact HU.out.2.1.setCell (p:=⟨B,4,none⟩) (by show w.heap.size<= B;rw [HS.out.2.2.2.2];exact Nl) _
  exact ⟨by rw [hW3];exact bn HU.out.2.2.2.2 ⟨_,HU.out.2.2.1⟩ (by decide),by rw [hW3];exact bn HU.out.1 ⟨_,HU.out.2.2.1⟩ (by decide),hb,by rw [hW3];have h9:=HU.out.2.2.1.set 4 (.slice a2 n2 c2);simpa using h9,by rw [hW3];exact HU.out.2.2.2.1.setNe (by omega)⟩
 rw [<- hW3];clear hW3 HU HV x0 x1 x2 x3 x4 x5 f0 f1 f2 f3 f4 f5 y0 y1 y2 y3 y4 y5;obtain ⟨⟨y0,y1,y2,y3,y4,y5⟩,_⟩:=HX.out.2.2.2.1.six2;obtain ⟨⟨x0,x1,x2,x3,x4,x5⟩,⟨f0,f1,f2,f3,f4,f5⟩⟩:=HX.out.2.2.2.2.six2;have HY:Hid (bi (aF W3 (B+1) 0 (dZ kd pl nn wa a1 a2 n1 n2 c1 c2).toList) w.heap.size (.slice a1 n1 c1) ws/\bD (aF W3 (B+1) 0 (dZ kd pl nn wa a1 a2 n1 n2 c1 c2).toList) w.heap.size (.slice a2 n2 c2) bs/\Below w.heap.size w (aF W3 (B+1) 0 (dZ kd pl nn wa a1 a2 n1 n2 c1 c2).toList)):=⟨fu HX.out.1 ⟨_,HX.out.2.2.2.2⟩ (by decide),fu HX.out.2.1 ⟨_,HX.out.2.2.2.2⟩ (by decide),aD (by have:=HS.out.2.2.2.2;omega) _ _ _ HX.out.2.2.1⟩
 clear HX;go_wp2;refine bodyPost_ret (v:=.agg (dZ kd pl nn wa a1 a2 n1 n2 c1 c2)) (by simp [results,results122,go_sem,x0,x1,x2,x3,x4,x5]) rfl ⟨a1,a2,n1,n2,c1,c2,rfl,HN1.out,HN2.out,HY.out.1,HY.out.2.1,HY.out.2.2⟩
theorem kj(kd pl nn wa:Int)(q1 q2:OA)(m1 m2 k1 k2:Nat)(ws:List Int)(bs:List Bool)(w:World)(h1:m1=ws.length)(h2:m2=bs.length)(s1:aZ w q1 ws)(s2:be w q2 bs)(hl1:m1<= 2000000)(hl2:m2<= 2000000):
 Calls prog 122 #[.agg (dZ kd pl nn wa q1 q2 m1 m2 k1 k2)] w fun e w'=>xy w w' e kd pl nn wa m1 m2 ws bs:=by
 refine (mt kd pl nn wa q1 q2 m1 m2 k1 k2 ws bs w h1 h2 s1 s2 (by omega) (by omega)).mono ?_;rintro e w' ⟨r1,r2,l1,l2,c1,c2,he,e1,e2,o1,o2,hb⟩;obtain rfl:l1=m1:=by omega
 obtain rfl:l2=m2:=by omega
 exact ⟨r1,r2,c1,c2,he,o1,o2,hb⟩
def tR(w w':World)(e:Ending)(kd fl pl nn:Int)(ws:List Int)(bs:List Bool):Prop:=
 ∃ r1 r2 l1 l2 c1 c2,e=.returned (.agg (dY kd fl pl nn r1 r2 l1 l2 c1 c2))/\l1=ws.length/\l2=bs.length/\bi w' w.heap.size (.slice r1 l1 c1) ws/\bD w' w.heap.size (.slice r2 l2 c2) bs/\Below w.heap.size w w'
theorem lh(kd fl pl nn:Int)(q1 q2:OA)(m1 m2 k1 k2:Nat)(ws:List Int)(bs:List Bool)(w:World)(h1:m1=ws.length)(h2:m2=bs.length)(s1:aZ w q1 ws)(s2:be w q2 bs)(hl1:ws.length<= 2000000)(hl2:bs.length<= 2000000):
 Calls prog 160 #[.agg (dY kd fl pl nn q1 q2 m1 m2 k1 k2)] w fun e w'=>tR w w' e kd fl pl nn ws bs:=by
 obtain ⟨B,hB⟩:∃ B,B=w.heap.size:=⟨_,rfl⟩
 obtain ⟨W,hW⟩:∃ W,W=(w.alloc (.cells (dY kd fl pl nn q1 q2 m1 m2 k1 k2) 162)).alloc (.cells jL 162):=⟨_,rfl⟩
 have bW:Below w.heap.size w W:=by rw [hW];exact af (aa _ _) (aa _ _)
 have HW:Hid (Below w.heap.size w W/\ae W B 162 (dY kd fl pl nn q1 q2 m1 m2 k1 k2)/\ae W (B+1) 162 jL/\w.heap.size<= W.heap.size):=⟨bW,by rw [hW,hB];exact (ae.new w _ _).below (aa _ _),by rw [hW,hB];have:=ae.new (w.alloc (.cells (dY kd fl pl nn q1 q2 m1 m2 k1 k2) 162)) jL 162;simpa using this,bW.size⟩
 have HS:Hid (m1=ws.length/\m2=bs.length/\aZ w q1 ws/\be w q2 bs/\w.heap.size=B):=⟨h1,h2,s1,s2,hB.symm⟩
 clear bW h1 h2 s1 s2;go_enter func160,ntmps160
 go_upto_region 1 with fail
 rw [<- hW,<- hB];clear hW hB;obtain ⟨⟨y0,y1,y2,y3,y4,y5⟩,_⟩:=(HW.out.2.1.below (aa W (.cells #[] 3))).six2;go_upto_region 2 with (at_builtin;refine jc rfl (.tmp 3) (.tmp 5) rfl w.heap.size (.slice (some ⟨W.heap.size,0,none⟩) 0 0) [] rfl (vn W w.heap.size HW.out.2.2.2) q1 m1 k1 ws rfl HS.out.1 (HS.out.2.2.1.below (af HW.out.1 (aa _ _))) (by simp;omega) (by have:=HW.out.2.2.2;simp;omega) ?_;intro v1 w1 O1 g1';have g1:(W.alloc (.cells #[] 3)).grownBy w1 (some W.heap.size):=g1';clear g1';have HU:Hid (bi w1 w.heap.size v1 ws/\Below w.heap.size w w1/\ae w1 B 162 (dY kd fl pl nn q1 q2 m1 m2 k1 k2)/\ae w1 (B+1) 162 jL):=⟨by simpa using O1,fB (af HW.out.1 (aa _ _)) g1 HW.out.2.2.2 (by have:=HW.out.2.2.2;simp;omega),(HW.out.2.1.below (aa _ _)).grown g1 (by have:=HW.out.2.1.lt;intro e9;have:=Option.some.inj e9;omega),(HW.out.2.2.1.below (aa _ _)).grown g1 (by have:=HW.out.2.2.1.lt;intro e9;have:=Option.some.inj e9;omega)⟩;clear O1 g1;obtain ⟨a1,c1,n1,hv1,hn1⟩:=jC HU.out.1;subst hv1;have HN1:Hid (n1=ws.length):=hn1;clear hn1;obtain ⟨⟨x0,x1,x2,x3,x4,x5⟩,⟨f0,f1,f2,f3,f4,f5⟩⟩:=HU.out.2.2.1.six2)
 obtain ⟨W2,hW2⟩:∃ W2,W2=w1.setCell ⟨B,4,none⟩ (.slice a1 n1 c1):=⟨_,rfl⟩
 have HV:Hid (bi W2 w.heap.size (.slice a1 n1 c1) ws/\Below w.heap.size w W2/\ae W2 B 162 (dY kd fl pl nn a1 q2 n1 m2 c1 k2)/\ae W2 (B+1) 162 jL/\w.heap.size<= W2.heap.size):=by
  have hb:Below w.heap.size w W2:=by rw [hW2];exact HU.out.2.1.setCell (p:=⟨B,4,none⟩) (by show w.heap.size<= B;rw [HS.out.2.2.2.2];exact Nl) _
  exact ⟨by rw [hW2];exact bn HU.out.1 ⟨_,HU.out.2.2.1⟩ (by decide),hb,by rw [hW2];have h9:=HU.out.2.2.1.set 4 (.slice a1 n1 c1);simpa using h9,by rw [hW2];exact HU.out.2.2.2.setNe (by omega),hb.size⟩
 rw [<- hW2];clear hW2 HU x0 x1 x2 x3 x4 x5 f0 f1 f2 f3 f4 f5 y0 y1 y2 y3 y4 y5 HW;obtain ⟨⟨y0,y1,y2,y3,y4,y5⟩,_⟩:=(HV.out.2.2.1.below (aa W2 (.cells #[] 4))).six2;go_upto_region 3 with (at_builtin;refine gC rfl (.tmp 8) (.tmp 10) rfl w.heap.size (.slice (some ⟨W2.heap.size,0,none⟩) 0 0) [] rfl (rX W2 w.heap.size HV.out.2.2.2.2) q2 m2 k2 bs rfl HS.out.2.1 (HS.out.2.2.2.1.below (af HV.out.2.1 (aa _ _))) (by simp;omega) (by have:=HV.out.2.2.2.2;simp;omega) ?_;intro v2 w2 O2 g2';have g2:(W2.alloc (.cells #[] 4)).grownBy w2 (some W2.heap.size):=g2';clear g2';have HU:Hid (bD w2 w.heap.size v2 bs/\Below w.heap.size w w2/\ae w2 B 162 (dY kd fl pl nn a1 q2 n1 m2 c1 k2)/\ae w2 (B+1) 162 jL/\bi w2 w.heap.size (.slice a1 n1 c1) ws):=⟨by simpa using O2,fB (af HV.out.2.1 (aa _ _)) g2 HV.out.2.2.2.2 (by have:=HV.out.2.2.2.2;simp;omega),(HV.out.2.2.1.below (aa _ _)).grown g2 (by have:=HV.out.2.2.1.lt;intro e9;have:=Option.some.inj e9;omega),(HV.out.2.2.2.1.below (aa _ _)).grown g2 (by have:=HV.out.2.2.2.1.lt;intro e9;have:=Option.some.inj e9;omega),(bi.below HV.out.1 (aa _ _)).kept g2 (.inr (by intro e9;have:=(World.ownsRow.lt HV.out.1 _ e9).2;simp at this))⟩;clear O2 g2;obtain ⟨a2,c2,n2,hv2,hn2⟩:=iy HU.out.1;subst hv2;have HN2:Hid (n2=bs.length):=hn2;clear hn2;obtain ⟨⟨x0,x1,x2,x3,x4,x5⟩,⟨f0,f1,f2,f3,f4,f5⟩⟩:=HU.out.2.2.1.six2)
 obtain ⟨W3,hW3⟩:∃ W3,W3=w2.setCell ⟨B,5,none⟩ (.slice a2 n2 c2):=⟨_,rfl⟩
 have HX:Hid (bi W3 w.heap.size (.slice a1 n1 c1) ws/\bD W3 w.heap.size (.slice a2 n2 c2) bs/\Below w.heap.size w W3/\ae W3 B 162 (dY kd fl pl nn a1 a2 n1 n2 c1 c2)/\ae W3 (B+1) 162 jL):=by
  have hb:Below w.heap.size w W3:=by rw [hW3];exact HU.out.2.1.setCell (p:=⟨B,5,none⟩) (by show w.heap.size<= B;rw [HS.out.2.2.2.2];exact Nl) _
  exact ⟨by rw [hW3];exact bn HU.out.2.2.2.2 ⟨_,HU.out.2.2.1⟩ (by decide),by rw [hW3];exact bn HU.out.1 ⟨_,HU.out.2.2.1⟩ (by decide),hb,by rw [hW3];have h9:=HU.out.2.2.1.set 5 (.slice a2 n2 c2);simpa using h9,by rw [hW3];exact HU.out.2.2.2.1.setNe (by omega)⟩
 rw [<- hW3];clear hW3 HU HV x0 x1 x2 x3 x4 x5 f0 f1 f2 f3 f4 f5 y0 y1 y2 y3 y4 y5;obtain ⟨⟨y0,y1,y2,y3,y4,y5⟩,_⟩:=HX.out.2.2.2.1.six2;obtain ⟨⟨x0,x1,x2,x3,x4,x5⟩,⟨f0,f1,f2,f3,f4,f5⟩⟩:=HX.out.2.2.2.2.six2;have HY:Hid (bi (aF W3 (B+1) 0 (dY kd fl pl nn a1 a2 n1 n2 c1 c2).toList) w.heap.size (.slice a1 n1 c1) ws/\bD (aF W3 (B+1) 0 (dY kd fl pl nn a1 a2 n1 n2 c1 c2).toList) w.heap.size (.slice a2 n2 c2) bs/\Below w.heap.size w (aF W3 (B+1) 0 (dY kd fl pl nn a1 a2 n1 n2 c1 c2).toList)):=⟨fu HX.out.1 ⟨_,HX.out.2.2.2.2⟩ (by decide),fu HX.out.2.1 ⟨_,HX.out.2.2.2.2⟩ (by decide),aD (by have:=HS.out.2.2.2.2;omega) _ _ _ HX.out.2.2.1⟩
 clear HX;go_wp2;refine bodyPost_ret (v:=.agg (dY kd fl pl nn a1 a2 n1 n2 c1 c2)) (by simp [results,results160,go_sem,x0,x1,x2,x3,x4,x5]) rfl ⟨a1,a2,n1,n2,c1,c2,rfl,HN1.out,HN2.out,HY.out.1,HY.out.2.1,HY.out.2.2⟩
theorem jM(kd fl pl nn:Int)(q1 q2:OA)(m1 m2 k1 k2:Nat)(ws:List Int)(bs:List Bool)(w:World)(h1:m1=ws.length)(h2:m2=bs.length)(s1:aZ w q1 ws)(s2:be w q2 bs)(hl1:m1<= 2000000)(hl2:m2<= 2000000):
 Calls prog 160 #[.agg (dY kd fl pl nn q1 q2 m1 m2 k1 k2)] w fun e w'=>xA w w' e kd fl pl nn m1 m2 ws bs:=by
 refine (lh kd fl pl nn q1 q2 m1 m2 k1 k2 ws bs w h1 h2 s1 s2 (by omega) (by omega)).mono ?_;rintro e w' ⟨r1,r2,l1,l2,c1,c2,he,e1,e2,o1,o2,hb⟩;obtain rfl:l1=m1:=by omega
 obtain rfl:l2=m2:=by omega
 exact ⟨r1,r2,c1,c2,he,o1,o2,hb⟩
theorem gD(X:VQ)(a1:OA)(l1 c1:Nat)(a2:OA)(l2 c2:Nat)(w:World)(r1:Rd w 0 (aw X.ws) (.slice a1 l1 c1))(r2:Rd w 0 (ai X.bs) (.slice a2 l2 c2))(hz:ax 6 (ac (qT X))<= 1048576):
 Calls prog 122 #[.agg (qL X a1 l1 c1 a2 l2 c2).toArray] w fun e w'=>∃ b1 d1 b2 d2,e=.returned (.agg (qL X b1 l1 d1 b2 l2 d2).toArray)/\az w' w.heap.size w'.heap.size (qT X) (qL X b1 l1 d1 b2 l2 d2)/\Below w.heap.size w w':=by
 rw [cC] at hz;obtain ⟨a9,c9,h9,-,hm1,hs1⟩:=r1.ints;simp only [Value.slice.injEq] at h9;obtain ⟨rfl,rfl,rfl⟩:=h9;obtain ⟨a9,c9,h9,-,hm2,hs2⟩:=r2.bools;simp only [Value.slice.injEq] at h9;obtain ⟨rfl,rfl,rfl⟩:=h9;refine (kj X.kd X.pl X.n X.wa a1 a2 _ _ c1 c2 X.ws X.bs w rfl rfl hs1 hs2 (by omega) (by omega)).mono ?_;rintro e w' ⟨g1,g2,d1,d2,rfl,h1,h2,h3⟩;exact ⟨_,_,_,_,rfl,VQ.own h1 h2,h3⟩
theorem mu(X:VA)(a1:OA)(l1 c1:Nat)(a2:OA)(l2 c2:Nat)(w:World)(r1:Rd w 0 (aw X.ws) (.slice a1 l1 c1))(r2:Rd w 0 (ai X.bs) (.slice a2 l2 c2))(hz:ax 6 (ac (aT X))<= 1048576):
 Calls prog 160 #[.agg (aL X a1 l1 c1 a2 l2 c2).toArray] w fun e w'=>∃ b1 d1 b2 d2,e=.returned (.agg (aL X b1 l1 d1 b2 l2 d2).toArray)/\az w' w.heap.size w'.heap.size (aT X) (aL X b1 l1 d1 b2 l2 d2)/\Below w.heap.size w w':=by
 rw [db] at hz;obtain ⟨a9,c9,h9,-,hm1,hs1⟩:=r1.ints;simp only [Value.slice.injEq] at h9;obtain ⟨rfl,rfl,rfl⟩:=h9;obtain ⟨a9,c9,h9,-,hm2,hs2⟩:=r2.bools;simp only [Value.slice.injEq] at h9;obtain ⟨rfl,rfl,rfl⟩:=h9;refine (jM X.kd X.fl X.pl X.n a1 a2 _ _ c1 c2 X.ws X.bs w rfl rfl hs1 hs2 (by omega) (by omega)).mono ?_;rintro e w' ⟨g1,g2,d1,d2,rfl,h1,h2,h3⟩;exact ⟨_,_,_,_,rfl,VA.own h1 h2,h3⟩
structure TC(w:World)(t:TypeId)(Z:Array Value)(W:World)(O:Array Value)(ts:List Tr)(vs:List Value):Prop where
 b:Below w.heap.size w W
 o:ae W w.heap.size t O
 z:ae W (w.heap.size+1) t Z
 h:w.heap.size+1+1<= W.heap.size
 q:az W (w.heap.size+1+1) W.heap.size ts vs
theorem TC.new{w W:World}{t:TypeId}{Z O:Array Value}(hW:W=(w.alloc (.cells O t)).alloc (.cells Z t)):Hid (TC w t Z W O [] []):=by
 subst hW;refine ⟨af (aa w _) (aa _ _),(ae.new w _ _).below (aa _ _),?_,by simp,az.nil _ _ _⟩
 have:=ae.new (w.alloc (.cells O t)) Z t;simpa using this
theorem TC.st{w W w1 V:World}{t:TypeId}{Z O:Array Value}{ts us:List Tr}{ws xs:List Value}(g:Hid (TC w t Z W O ts ws))(hb:Below W.heap.size W w1){j:Nat}{vs:List Value}(hV:V=aF w1 w.heap.size j vs)(O':Array Value)(hR:az w1 W.heap.size w1.heap.size us xs)(hO:O'=bO O j vs:=by simp [bO]):Hid (TC w t Z V O' (ts++us) (ws++xs)):=by
 have hg:w1.grownBy V (some w.heap.size):=by rw [hV];exact bf _ _ _
 have h1:=hb.size;have h2:=hg.size;have h3:=g.out.h;have h4:=az.next g.out.q hb hR hg (by omega) h3;subst hV hO;exact ⟨aD (by omega) _ _ _ (af g.out.b hb),ae.stL _ _ (g.out.o.below hb),ae.stNe (by omega) _ _ (g.out.z.below hb),by omega,h4⟩
theorem TC.fin{w W V:World}{t:TypeId}{Z O:Array Value}{ts:List Tr}{ws:List Value}(g:Hid (TC w t Z W O ts ws)){L:List Value}(hV:V=aF W (w.heap.size+1) 0 L)(hZ:L.toArray=bO Z 0 L:=by simp [bO]):Hid (Below w.heap.size w V/\ae V (w.heap.size+1) t L.toArray/\az V w.heap.size V.heap.size ts ws):=by
 have hg:W.grownBy V (some (w.heap.size+1)):=by rw [hV];exact bf _ _ _
 have h2:=hg.size;have h3:=g.out.h;exact ⟨by rw [hV];exact aD (by omega) _ _ _ g.out.b,by rw [hV,hZ];exact ae.stL _ _ g.out.z,(g.out.q.kept hg (by omega) Nl).mono (by omega) h2⟩
theorem km(X:VL)(a1:OA)(l1 c1:Nat)(a2:OA)(l2 c2:Nat)(w:World)(r1:Rd w 0 (aw X.q.ws) (.slice a1 l1 c1))(r2:Rd w 0 (ai X.q.bs) (.slice a2 l2 c2))(hz:ax 9 (ac (aJ X))<= 1048576):
 Calls prog 93 #[.agg (bh X a1 l1 c1 a2 l2 c2).toArray] w fun e w'=>∃ b1 d1 b2 d2,e=.returned (.agg (bh X b1 l1 d1 b2 l2 d2).toArray)/\az w' w.heap.size w'.heap.size (aJ X) (bh X b1 l1 d1 b2 l2 d2)/\Below w.heap.size w w':=by
 have HZ:Hid (ax 6 (ac (qT X.q))<= 1048576):=by
  rw [dy] at hz;show ax 6 (ac (qT X.q))<= 1048576;simp only [cC];omega
 obtain ⟨W,hW⟩:∃ W,W=(w.alloc (.cells (bh X a1 l1 c1 a2 l2 c2).toArray 88)).alloc (.cells pV 88):=⟨_,rfl⟩
 have G0:=TC.new hW;have HR:=dM (And.intro r1 r2);clear hz r1 r2;go_enter func93,ntmps93
 go_upto_region 1 with fail
 rw [<- hW];clear hW;obtain ⟨⟨y0,y1,y2,y3,y4,y5,y6,y7,y8⟩,-⟩:=G0.out.o.tc9;go_wp2_with fail
 refine (jb X.q a1 l1 c1 a2 l2 c2 _ (HR.out.1.below G0.out.b) (HR.out.2.below G0.out.b) HZ.out).mono ?_;rintro e w1 ⟨b1,d1,b2,d2,rfl,q,hb⟩;clear y0 y1 y2 y3 y4 y5 y6 y7 y8;obtain ⟨⟨z0,z1,z2,z3,z4,z5,z6,z7,z8⟩,zf⟩:=(G0.out.o.below hb).tc9;have g3:=zf 3;have g4:=zf 4;have g5:=zf 5;have g6:=zf 6;have g7:=zf 7;have g8:=zf 8;obtain ⟨W1,hX⟩:∃ z,z=aF w1 w.heap.size 3 [Vi X.q.kd,Vi X.q.pl,Vi X.q.n,.slice b1 l1 d1,.slice b2 l2 d2,Vi X.q.wa]:=⟨_,rfl⟩
 have G1:=TC.st G0 hb hX (bh X b1 l1 d1 b2 l2 d2).toArray q;simp only [aF,Nat.reduceAdd,Nat.zero_add] at hX;clear hb q;go_upto_region 2 with fail
 rw [<- hX];clear hX zf z0 z1 z2 z3 z4 z5 z6 z7 z8 g3 g4 g5 g6 g7 g8;obtain ⟨V,hV⟩:∃ V,V=aF W1 (w.heap.size+1) 0 (bh X b1 l1 d1 b2 l2 d2):=⟨_,rfl⟩
 have H9:=TC.fin G1 hV;have hr:W1.rangeAt w.heap.size 0 (bh X b1 l1 d1 b2 l2 d2):=G1.out.o.all;have ht:=G1.out.z.there 0 9 (by simp);clear G1;refine wp_region_lit ?_;refine wpList_load_mid rfl 88 (.tmp 1) rfl w.heap.size 0 rfl (bh X b1 l1 d1 b2 l2 d2) _ hr underlying88 rfl (by kernel_rfl) ?_;refine wpList_store_mid rfl 88 (.tmp 2) (.tmp 7) rfl (w.heap.size+1) 0 (bh X b1 l1 d1 b2 l2 d2).toArray rfl rfl ht (by kernel_rfl) (by simp [Value.oneCell']) ?_;rw [bm,<- hV];clear hV hr ht;refine wpList_nil ?_;go_wp2;obtain ⟨⟨y0,y1,y2,y3,y4,y5,y6,y7,y8⟩,-⟩:=H9.out.2.1.tc9;obtain ⟨B,-,O⟩:=H9.out;refine bodyPost_ret (v:=.agg (bh X b1 l1 d1 b2 l2 d2).toArray) (by simp [results,results93,go_sem,y0,y1,y2,y3,y4,y5,y6,y7,y8]) rfl ⟨b1,d1,b2,d2,rfl,az.leaf (Vi X.id) (az.leaf (Vi X.pa) (az.leaf (Vi X.un) O B.size) B.size) B.size,B⟩
theorem iO(X:VL)(a1:OA)(l1 c1:Nat)(a2:OA)(l2 c2:Nat)(w:World)(r1:Rd w 0 (aw X.q.ws) (.slice a1 l1 c1))(r2:Rd w 0 (ai X.q.bs) (.slice a2 l2 c2))(hz:ax 9 (ac (aJ X))<= 1048576):
 Calls prog 81 #[.agg (bh X a1 l1 c1 a2 l2 c2).toArray] w fun e w'=>∃ b1 d1 b2 d2,e=.returned (.agg (bh X b1 l1 d1 b2 l2 d2).toArray)/\az w' w.heap.size w'.heap.size (aJ X) (bh X b1 l1 d1 b2 l2 d2)/\Below w.heap.size w w':=by
 have HZ:Hid (ax 6 (ac (qT X.q))<= 1048576):=by
  rw [dy] at hz;show ax 6 (ac (qT X.q))<= 1048576;simp only [cC];omega
 obtain ⟨W,hW⟩:∃ W,W=(w.alloc (.cells (bh X a1 l1 c1 a2 l2 c2).toArray 88)).alloc (.cells pV 88):=⟨_,rfl⟩
 have G0:=TC.new hW;have HR:=dM (And.intro r1 r2);clear hz r1 r2;go_enter func81,ntmps81
 go_upto_region 1 with fail
 rw [<- hW];clear hW;obtain ⟨⟨y0,y1,y2,y3,y4,y5,y6,y7,y8⟩,-⟩:=G0.out.o.tc9;go_wp2_with fail
 refine (gD X.q a1 l1 c1 a2 l2 c2 _ (HR.out.1.below G0.out.b) (HR.out.2.below G0.out.b) HZ.out).mono ?_;rintro e w1 ⟨b1,d1,b2,d2,rfl,q,hb⟩;clear y0 y1 y2 y3 y4 y5 y6 y7 y8;obtain ⟨⟨z0,z1,z2,z3,z4,z5,z6,z7,z8⟩,zf⟩:=(G0.out.o.below hb).tc9;have g3:=zf 3;have g4:=zf 4;have g5:=zf 5;have g6:=zf 6;have g7:=zf 7;have g8:=zf 8;obtain ⟨W1,hX⟩:∃ z,z=aF w1 w.heap.size 3 [Vi X.q.kd,Vi X.q.pl,Vi X.q.n,.slice b1 l1 d1,.slice b2 l2 d2,Vi X.q.wa]:=⟨_,rfl⟩
 have G1:=TC.st G0 hb hX (bh X b1 l1 d1 b2 l2 d2).toArray q;simp only [aF,Nat.reduceAdd,Nat.zero_add] at hX;clear hb q;go_upto_region 2 with fail
 rw [<- hX];clear hX zf z0 z1 z2 z3 z4 z5 z6 z7 z8 g3 g4 g5 g6 g7 g8;obtain ⟨V,hV⟩:∃ V,V=aF W1 (w.heap.size+1) 0 (bh X b1 l1 d1 b2 l2 d2):=⟨_,rfl⟩
 have H9:=TC.fin G1 hV;have hr:W1.rangeAt w.heap.size 0 (bh X b1 l1 d1 b2 l2 d2):=G1.out.o.all;have ht:=G1.out.z.there 0 9 (by simp);clear G1;refine wp_region_lit ?_;refine wpList_load_mid rfl 88 (.tmp 1) rfl w.heap.size 0 rfl (bh X b1 l1 d1 b2 l2 d2) _ hr underlying88 rfl (by kernel_rfl) ?_;refine wpList_store_mid rfl 88 (.tmp 2) (.tmp 7) rfl (w.heap.size+1) 0 (bh X b1 l1 d1 b2 l2 d2).toArray rfl rfl ht (by kernel_rfl) (by simp [Value.oneCell']) ?_;rw [bm,<- hV];clear hV hr ht;refine wpList_nil ?_;go_wp2;obtain ⟨⟨y0,y1,y2,y3,y4,y5,y6,y7,y8⟩,-⟩:=H9.out.2.1.tc9;obtain ⟨B,-,O⟩:=H9.out;refine bodyPost_ret (v:=.agg (bh X b1 l1 d1 b2 l2 d2).toArray) (by simp [results,results81,go_sem,y0,y1,y2,y3,y4,y5,y6,y7,y8]) rfl ⟨b1,d1,b2,d2,rfl,az.leaf (Vi X.id) (az.leaf (Vi X.pa) (az.leaf (Vi X.un) O B.size) B.size) B.size,B⟩
theorem mN(n:Nat)(f:Nat->VL)(a:OA)(n' cap:Nat)(w:World)(hs:Rd w 0 (.list 9 n (fun k=>ac (aJ (f k)))) (.slice a n' cap))(hz:(Tr.list 9 n (fun k=>ac (aJ (f k)))).sz<= 1048576):
 Calls prog 92 #[.slice a n' cap,.func (.func 93) #[] #[]] w fun e w'=>∃ b d,e=.returned (.slice b n' d)/\dk w' w.heap.size (.list 9 n (fun k=>ac (aJ (f k)))) (.slice b n' d)/\Below w.heap.size w w':=by
 obtain ⟨a9,c9,h9,-,hn⟩:=hs.shape;simp only [Value.slice.injEq] at h9;obtain ⟨-,rfl,-⟩:=h9;clear a9 c9;have hn1:n'<= 1048576:=by rw [Tr.sz_list] at hz;omega
 have HZ:Hid (∀ k,k<n'->ax 9 (ac (aJ (f k)))<= 1048576):=by
  show ∀ k,k<n'->ax 9 (ac (aJ (f k)))<= 1048576;intro k hk;rw [Tr.sz_list] at hz;have:=ci (fun k=>ax 9 (ac (aJ (f k)))) hk;omega
 have hmk:=ct (P:=prog) 85 88 (.agg pV) 9 104 underlying85 (by kernel_rfl) .i64 .i64 n' (by omega) (by omega);have HS:Hid (Rd w 0 (.list 9 n' (fun k=>ac (aJ (f k)))) (.slice a n' cap)/\n'<= maxLen):=⟨hs,hn⟩
 clear hs hz hn;go_enter func92,ntmps92
 go_wp2;clear hmk;go_loopw [13] (fun i wr=>∃ (k:Nat),k<= n'/\i=Vi k/\bU wr w.heap.size 88 9 n' (fun i=>aJ (f i)) k/\Below w.heap.size w wr) (fun i _=>n'-(intOf i).toNat)
 case atStart=>exact ⟨0,Nat.zero_le _,rfl,bU.start (aM.made w (pV).toList n' _ (by simp)),Br.alloc Nl _⟩
 case round=>
  obtain ⟨k,hk,rfl,hrow,hb⟩:=hrel;by_cases hlt:k<n'
  ·have hi:(k:Int)<(n':Int):=by omega
   obtain ⟨b,off,vs,rfl,_,hb0,hlen,hr,hrd⟩:=(HS.out.1.below hb).at hlt;obtain ⟨a1,c1,a2,c2,rfl,r1,r2⟩:=VL.cells hrd hlen;clear hlen hrd;have HK:Hid (bU wr w.heap.size 88 9 n' (fun i=>aJ (f i)) k/\True/\Below w.heap.size w wr/\Rd wr 0 (aw (f k).q.ws) (.slice a1 ((f k).q.ws.length) c1)/\Rd wr 0 (ai (f k).q.bs) (.slice a2 ((f k).q.bs.length) c2)):=⟨hrow,trivial,hb,r1,r2⟩
   clear hrow hb hb0 r1 r2;go_wp2_with (first|(refine wpList_load_mid rfl 88 _ rfl b (off+k*9) rfl _ _ hr underlying88 rfl (by kernel_rfl) ?_)|fail)
   refine (km (f k) a1 ((f k).q.ws.length) c1 a2 ((f k).q.bs.length) c2 _ (HK.out.2.2.2.1.below (aa _ _)) (HK.out.2.2.2.2.below (aa _ _)) (HZ.out k hlt)).mono ?_;rintro e w1 ⟨b1,d1,b2,d2,rfl,q1,hb1⟩;have hb1:=af (aa wr _) hb1;have q1:=q1.mono (lo':=wr.heap.size) (by simp) Nl;obtain ⟨F1,R1⟩:=(HK.out.1.cg (Cg.ofBelow (S:=fun _=>False) hb1) (fun b h=>h.elim)).row;obtain ⟨W2,hW2⟩:∃ W2,W2=aF w1 w.heap.size (k*9) (bh (f k) b1 ((f k).q.ws.length) d1 b2 ((f k).q.bs.length) d2):=⟨_,rfl⟩
   have H2:Hid (bU W2 w.heap.size 88 9 n' (fun i=>aJ (f i)) (k+1)/\Below w.heap.size w W2):=⟨by rw [hW2];exact HK.out.1.step (S:=fun _=>False) hlt (Cg.ofBelow hb1) (fun b h=>h.elim) q1 rfl,by rw [hW2];exact aD Nl _ _ _ (af HK.out.2.2.1 hb1)⟩
   have ht:=R1.there hlt (m:=9) Nl;clear R1 hb1 HK hr q1;go_wp2_with (first|(refine wpList_store_mid rfl 88 _ _ rfl w.heap.size (k*9) (bh (f k) b1 ((f k).q.ws.length) d1 b2 ((f k).q.bs.length) d2).toArray rfl rfl ht (by kernel_rfl) (by simp [Value.oneCell']) ?_;rw [bm,<- hW2];clear hW2 ht)|fail)
   go_roundw
   case rel=>
    exact ⟨k+1,by omega,by go_num,H2.out.1,H2.out.2⟩
   case measure=>simp [intOf];omega
  have hi:¬ (k:Int)<(n':Int):=by omega
  have e9:k=n':=by omega
  subst e9;have HR:Hid (bU wr w.heap.size 88 9 k (fun i=>aJ (f i)) k/\Below w.heap.size w wr):=⟨hrow,hb⟩
  clear hrow hb;go_wp2;go_ret;exact ⟨_,_,rfl,HR.out.1.done Nl HS.out.2 (fun _ _=>rfl),HR.out.2⟩
end Go.Proofs.YtohikbpolofklaaGreat
namespace Go.Proofs.YtohikbpolofklaaGreat
open Go.Proofs.Tryz
def cy(a b:Ru):Prop:=a.u<b.u\/(a.u=b.u/\(a.s<b.s\/(a.s=b.s/\a.lo<b.lo)))
instance (a b:Ru):Decidable (cy a b):=by unfold cy;infer_instance
def cK(a b:Ru):Prop:=¬ cy b a
theorem cK.trans{a b c:Ru}(h:cK a b)(h':cK b c):cK a c:=by unfold cK cy at*;omega
theorem cK.refl(a:Ru):cK a a:=by unfold cK cy;omega
theorem cy.le{a b:Ru}(h:cy a b):cK a b:=by unfold cK;unfold cy at*;omega
def aE(f:Nat->Ru)(a b:Nat):Prop:=∀ i j,a<= i->i<j->j<b->cK (f i) (f j)
theorem aE.le{f:Nat->Ru}{a b i j:Nat}(h:aE f a b)(h1:a<= i)(h2:i<= j)(h3:j<b):cK (f i) (f j):=by
 by_cases e:i=j
 ·subst e;exact cK.refl _
 exact h i j h1 (by omega) h3
def aK(a b:Nat)(f g:Nat->Ru):Prop:=
 ∃ σ τ:Nat->Nat,(∀ k,(k<a\/b<= k)->σ k=k/\τ k=k)/\(∀ k,a<= k->k<b->a<= σ k/\σ k<b/\a<= τ k/\τ k<b)/\(∀ k,τ (σ k)=k/\σ (τ k)=k)/\∀ k,g k=f (σ k)
theorem aK.refl(a b:Nat)(f:Nat->Ru):aK a b f f:=⟨id,id,fun _ _=>⟨rfl,rfl⟩,fun _ h1 h2=>⟨h1,h2,h1,h2⟩,fun _=>⟨rfl,rfl⟩,fun _=>rfl⟩
theorem aK.trans{a b:Nat}{f g h:Nat->Ru}(p:aK a b f g)(q:aK a b g h):aK a b f h:=by
 obtain ⟨σ,τ,h1,h2,h3,h4⟩:=p;obtain ⟨σ',τ',g1,g2,g3,g4⟩:=q;refine ⟨fun k=>σ (σ' k),fun k=>τ' (τ k),fun k hk=>?_,fun k ha hb=>?_,fun k=>⟨?_,?_⟩,fun k=>by rw [g4,h4]⟩
 ·have e1:=g1 k hk
  have e2:=h1 k hk;simp only;rw [e1.1,e2.2,e2.1,e1.2];exact ⟨rfl,rfl⟩
 ·have e1:=g2 k ha hb
  have e2:=h2 k ha hb;have e3:=h2 (σ' k) e1.1 e1.2.1;have e4:=g2 (τ k) e2.2.2.1 e2.2.2.2;exact ⟨e3.1,e3.2.1,e4.2.2.1,e4.2.2.2⟩
 ·simp only;rw [(h3 _).1,(g3 _).1]
 simp only;rw [(g3 _).2,(h3 _).2]
theorem aK.mono{a b a' b':Nat}{f g:Nat->Ru}(p:aK a b f g)(h1:a'<= a)(h2:b<= b'):aK a' b' f g:=by
 obtain ⟨σ,τ,p1,p2,p3,p4⟩:=p;refine ⟨σ,τ,fun k hk=>p1 k (by omega),fun k ha hb=>?_,p3,p4⟩
 by_cases e:a<= k/\k<b
 ·have:=p2 k e.1 e.2
  omega
 have:=p1 k (by omega);omega
theorem aK.out{a b:Nat}{f g:Nat->Ru}(p:aK a b f g){k:Nat}(h:k<a\/b<= k):g k=f k:=by
 obtain ⟨σ,τ,p1,_,_,p4⟩:=p;rw [p4,(p1 k h).1]
theorem aK.from'{a b:Nat}{f g:Nat->Ru}(p:aK a b f g){k:Nat}(h1:a<= k)(h2:k<b):∃ j,a<= j/\j<b/\g k=f j:=by
 obtain ⟨σ,τ,_,p2,_,p4⟩:=p;exact ⟨σ k,(p2 k h1 h2).1,(p2 k h1 h2).2.1,p4 k⟩
def cS(i j k:Nat):Nat:=if k=i then j else if k=j then i else k
theorem pu(i j k:Nat):cS i j (cS i j k)=k:=by unfold cS;split <;> split <;> (try split) <;> omega
theorem aK.swap{a b i j:Nat}(f:Nat->Ru)(h1:a<= i)(h2:i<b)(h3:a<= j)(h4:j<b):aK a b f (fun k=>f (cS i j k)):=by
 refine ⟨cS i j,cS i j,fun k hk=>?_,fun k ha hb=>?_,fun k=>⟨pu i j k,pu i j k⟩,fun k=>rfl⟩
 ·have:cS i j k=k:=by unfold cS;rw [if_neg (by omega),if_neg (by omega)]
  exact ⟨this,this⟩
 have:a<= cS i j k/\cS i j k<b:=by unfold cS;split <;> (try split) <;> omega
 exact ⟨this.1,this.2,this.1,this.2⟩
def hU(h:Nat->Ru)(a i j:Nat):Prop:=
 (∀ p q,a<= p->p<q->q<= i->p≠j->q≠j->cK (h p) (h q))/\(∀ q,j<q->q<= i->cK (h j) (h q))
theorem hU.start{h:Nat->Ru}{a i:Nat}(hs:aE h a i):hU h a i i:=
 ⟨fun p q h1 h2 h3 _ h5=>hs p q h1 h2 (by omega),fun q h1 h2=>by omega⟩
theorem hU.step{h:Nat->Ru}{a i j:Nat}(H:hU h a i j)(hj:a<j)(hi:j<= i)(hlt:cy (h j) (h (j-1))):hU (fun k=>h (cS j (j-1) k)) a i (j-1):=by
 obtain ⟨H1,H2⟩:=H;have ej:cS j (j-1) j=j-1:=by simp [cS]
 have ej':cS j (j-1) (j-1)=j:=by unfold cS;rw [if_neg (by omega),if_pos rfl]
 have eo:∀ k,k≠j->k≠j-1->cS j (j-1) k=k:=fun k h1 h2=>by unfold cS;rw [if_neg h1,if_neg h2]
 refine ⟨fun p q h1 h2 h3 h4 h5=>?_,fun q h1 h2=>?_⟩
 ·show cK (h (cS j (j-1) p)) (h (cS j (j-1) q))
  by_cases ep:p=j
  ·subst ep
   rw [ej,eo q (by omega) h5];exact H1 (p-1) q (by omega) (by omega) h3 (by omega) (by omega)
  rw [eo p ep h4];by_cases eq:q=j
  ·subst eq
   rw [ej];exact H1 p (q-1) h1 (by omega) (by omega) ep (by omega)
  rw [eo q eq h5];exact H1 p q h1 h2 h3 ep eq
 show cK (h (cS j (j-1) (j-1))) (h (cS j (j-1) q));rw [ej'];by_cases eq:q=j
 ·subst eq
  rw [ej];exact hlt.le
 rw [eo q eq (by omega)];exact H2 q (by omega) h2
theorem hU.fin{h:Nat->Ru}{a i j:Nat}(H:hU h a i j)(hi:j<= i)(hx:j<= a\/¬ cy (h j) (h (j-1))):aE h a (i+1):=by
 obtain ⟨H1,H2⟩:=H;intro p q h1 h2 h3;by_cases ep:p=j
 ·subst ep;exact H2 q h2 (by omega)
 by_cases eq:q=j
 ·subst eq
  rcases hx with hx|hx
  ·omega
  have e1:cK (h (q-1)) (h q):=hx;by_cases e2:p=q-1
  ·subst e2;exact e1
  exact (H1 p (q-1) h1 (by omega) (by omega) ep (by omega)).trans e1
 exact H1 p q h1 h2 (by omega) ep eq
end Go.Proofs.YtohikbpolofklaaGreat
namespace Go.Proofs.YtohikbpolofklaaGreat
open Go.RowKit Go.Proofs.Tryz
theorem gw{l:Array Bool}{i:Nat}(h:i<l.size)(x y:Bool):l.getD i x=l.getD i y:=by
 simp [Array.getD,h]
theorem lR(l:List Bool)(i:Nat)(h:l[i]? = some false):(l.set i true).count false+1=l.count false:=by
 induction l generalizing i with
 |nil=>simp at h
 |cons x r ih=>
  cases i with
  |zero=>simp at h;subst h;simp
  |succ i=>simp at h;have:=ih i h;cases x <;> simp <;> omega
theorem lS{md:Region.Mode}{ops:Array Oper}{l:Array Bool}{i:Nat}(h:i ∈ Region.ready md ops l):
 i<ops.size/\l.getD i true=false/\∀ o,ops[i]? = some o->∀ e ∈ o.after,Region.binds md e=true->l.getD e.on false=true:=by
 unfold Region.ready at h;rw [List.mem_filter] at h;obtain ⟨h1,h2⟩:=h;simp only [Bool.and_eq_true,Bool.not_eq_true'] at h2;refine ⟨List.mem_range.1 h1,h2.1,fun o ho e he hb=>?_⟩
 have h3:=h2.2;rw [ho] at h3;simp only [Option.map_some,Option.getD_some,Array.all_eq_true_iff_forall_mem] at h3;have h4:=h3 e he;simpa [hb] using h4
theorem rY{md:Region.Mode}{ops:Array Oper}{l:Array Bool}{i:Nat}{o:Oper}(hi:i<ops.size)(ho:ops[i]? = some o)(hl:l.getD i true=false)(hd:∀ e ∈ o.after,Region.binds md e=true->l.getD e.on false=true):i ∈ Region.ready md ops l:=by
 unfold Region.ready;rw [List.mem_filter];refine ⟨List.mem_range.2 hi,?_⟩
 simp only [Bool.and_eq_true,Bool.not_eq_true'];refine ⟨hl,?_⟩
 rw [ho];simp only [Option.map_some,Option.getD_some,Array.all_eq_true_iff_forall_mem];intro e he;cases hb:Region.binds md e
 ·rfl
 simpa using hd e he hb
def jN(md:Region.Mode)(ops:Array Oper):Bool:=(List.range ops.size).all fun i=>((ops[i]?).map (·.after.all fun e=>!Region.binds md e||decide (e.on<i))).getD true
theorem tS{md:Region.Mode}{ops:Array Oper}(h:jN md ops=true):∀ i o,ops[i]? = some o->∀ e ∈ o.after,Region.binds md e=true->e.on<i:=by
 intro i o ho e he hb;unfold jN at h;rw [List.all_eq_true] at h;have hi:i<ops.size:=(Array.getElem?_eq_some_iff.1 ho).1;have h1:=h i (List.mem_range.2 hi);rw [ho] at h1;simp only [Option.map_some,Option.getD_some,Array.all_eq_true_iff_forall_mem] at h1;have h2:=h1 e he;simpa [hb] using h2
theorem jd{P:Program}{ops:Array Oper}{Q:Exit->Act->World->Prop}{md:Region.Mode}(Inv:Array Bool->Act->World->Prop)
 (hordB:jN md ops=true)
 (hend:∀ l a w,Inv l a w->(∀ i,i<ops.size->l.getD i true=true)->Q .normal a w)
 (hstep:∀ l a w i o,Inv l a w->ops[i]? = some o->l.getD i true=false->(∀ e ∈ o.after,Region.binds md e=true->l.getD e.on false=true) ->
  ∀ K:Act->World->Prop,(∀ a w,Inv (l.setIfInBounds i true) a w->K a w)->if Region.wanted o (yielded ops a.tmps)=true then Oper.wp P o a w K Q else K (a.put o.dst undef) w):
 ∀ (fuel:Nat) (l:Array Bool) (a:Act) (w:World),l.size=ops.size->l.toList.count false<= fuel->Inv l a w->wpAny P md ops Q fuel l a w:=by
 have hord:=tS hordB
 have hall:∀ l:Array Bool,l.size=ops.size->Region.ready md ops l=[]->∀ i,i<ops.size->l.getD i true=true:=by
  intro l hs hr i;induction i using Nat.strongRecOn with
  |ind i ih=>
   intro hi;cases hl:l.getD i true
   ·obtain ⟨o,ho⟩:∃ o,ops[i]? = some o:=⟨ops[i],by simp [hi]⟩
    have:i ∈ Region.ready md ops l:=rY hi ho hl (fun e he hb=>by
     have h1:=hord i o ho e he hb;rw [gw (by omega) false true];exact ih e.on h1 (by omega))
    rw [hr] at this;simp at this
   rfl
 intro fuel;induction fuel with
 |zero=>
  intro l a w hs hc hI
  have hr:Region.ready md ops l=[]:=by
   apply List.eq_nil_iff_forall_not_mem.2;intro i hi;obtain ⟨h1,h2,_⟩:=lS hi
   have h3:l.toList[i]? = some false:=by
    have h4:i<l.size:=by omega
    rw [Array.getElem?_toList];simp [Array.getD,h4] at h2;simp [h4,h2]
   have:=lR l.toList i h3;omega
  exact ⟨hr,hend l a w hI (hall l hs hr)⟩
 |succ fuel ih=>
  intro l a w hs hc hI;refine ⟨fun hr=>hend l a w hI (hall l hs hr),fun i hi=>?_⟩
  obtain ⟨h1,h2,h3⟩:=lS hi;obtain ⟨o,ho⟩:∃ o,ops[i]? = some o:=⟨ops[i],by simp [h1]⟩
  refine wpOp_step ho (fun K' hK'=>hstep l a w i o hI ho h2 (h3 o ho) K' (fun a' w' hI'=>hK' a' w' (ih _ a' w' (by simpa using hs) ?_ hI')))
  have h4:l.toList[i]? = some false:=by
   have h5:i<l.size:=by omega
   rw [Array.getElem?_toList];simp [Array.getD,h5] at h2;simp [h5,h2]
  have:=lR l.toList i h4;rw [Array.toList_setIfInBounds];omega
end Go.Proofs.YtohikbpolofklaaGreat
