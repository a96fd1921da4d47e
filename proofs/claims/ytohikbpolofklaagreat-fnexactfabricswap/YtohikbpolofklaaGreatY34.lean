/- Texts that the proof needs, joined: P2. -/
import Derived.Test.YtohikbpolofklaaGreatY1
import Derived.Test.YtohikbpolofklaaGreatY33
set_option linter.unusedVariables false
set_option linter.unusedSimpArgs false
set_option maxHeartbeats 4000000
set_option maxRecDepth 20000
namespace Go.Proofs.YtohikbpolofklaaGreat
open Go.RowKit Go.Proofs.Tryz
def bF(a n w b:Bool)(pl nn:Int)(l1 l2:Nat):Bool:=(a||decide (pl=0)) && ((n||decide (nn=0)) && ((w||decide (l1=0)) && (b||decide (l2=0))))
def ig(kd pl nn:Int)(l1 l2:Nat):Bool:=
 if kd=1\/kd=2 then bF false false false true pl nn l1 l2 && (aB l2 1 2000 && decide (l2 % 8=0))
 else if kd=3\/kd=4\/kd=23 then bF false false true false pl nn l1 l2 && aB l1 1 125
 else if kd=5 then bF true false false true pl nn l1 l2 && decide (l2=1)
 else if kd=6 then bF true false true false pl nn l1 l2 && decide (l1=1)
 else if kd=22 then bF true false true false pl nn l1 l2 && decide (l1=2)
 else if kd=15 then bF true true false false pl nn l1 l2 && aB nn 1 1968
 else bF true true false false pl nn l1 l2 && aB nn 1 123
def dK(kd fl pl nn:Int)(ws:List Int)(l1 l2:Nat):Bool:=cR kd && (aB fl 0 255 && (ce ws && (aB pl 0 65535 && (if 0<fl then bF false false false false pl nn l1 l2 else ig kd pl nn l1 l2))))
theorem oF(kd fl pl nn:Int)(a1 a2:OA)(l1 l2 c1 c2:Nat)(w:World)(hm1:l1<= 2000000)(hm2:l2<= 20000000)(z:Bool)(hz:bF false false false false pl nn l1 l2=z):
 Calls prog 185 #[rp kd fl pl nn a1 a2 l1 l2 c1 c2,.bool false,.bool false,.bool false,.bool false] w fun e w'=>e=.returned (.bool z)/\Below w.heap.size w w':=by
 have B0:=aa w (.cells #[Vi kd,Vi fl,Vi pl,Vi nn,.slice a1 l1 c1,.slice a2 l2 c2] 162);subst hz;by_cases hA:pl=0
 ·skip
  by_cases hN:nn=0
  ·skip
   by_cases h1:l1=0
   ·skip
    by_cases h2:l2=0
    ·skip
     have e:bF false false false false pl nn l1 l2=true:=by simp [bF,hA,hN,h1,h2]
     rw [e];clear e;subst hA;subst hN;subst h1;subst h2;go_enter func185,ntmps185
     go_wp2;go_ret;exact ⟨rfl,B0⟩
    skip
    have e:bF false false false false pl nn l1 l2=false:=by simp [bF,hA,hN,h1,h2]
    rw [e];have h2i:((l2:Int) == 0)=false:=by simp [h2]
    clear e;subst hA;subst hN;subst h1;go_enter func185,ntmps185
    go_wp2;go_ret;exact ⟨rfl,B0⟩
   skip
   have e:bF false false false false pl nn l1 l2=false:=by simp [bF,hA,hN,h1]
   rw [e];have h1i:((l1:Int) == 0)=false:=by simp [h1]
   clear e;subst hA;subst hN;go_enter func185,ntmps185
   go_wp2;go_ret;exact ⟨rfl,B0⟩
  skip
  have e:bF false false false false pl nn l1 l2=false:=by simp [bF,hA,hN]
  rw [e];have eN:(nn == 0)=false:=by simp [hN]
  clear e;subst hA;go_enter func185,ntmps185
  go_wp2;go_ret;exact ⟨rfl,B0⟩
 skip
 have e:bF false false false false pl nn l1 l2=false:=by simp [bF,hA]
 rw [e];have eA:(pl == 0)=false:=by simp [hA]
 clear e;go_enter func185,ntmps185
 go_wp2;go_ret;exact ⟨rfl,B0⟩
theorem oG(kd fl pl nn:Int)(a1 a2:OA)(l1 l2 c1 c2:Nat)(w:World)(hm1:l1<= 2000000)(hm2:l2<= 20000000)(z:Bool)(hz:bF false false false true pl nn l1 l2=z):
 Calls prog 185 #[rp kd fl pl nn a1 a2 l1 l2 c1 c2,.bool false,.bool false,.bool false,.bool true] w fun e w'=>e=.returned (.bool z)/\Below w.heap.size w w':=by
 have B0:=aa w (.cells #[Vi kd,Vi fl,Vi pl,Vi nn,.slice a1 l1 c1,.slice a2 l2 c2] 162);subst hz;by_cases hA:pl=0
 ·skip
  by_cases hN:nn=0
  ·skip
   by_cases h1:l1=0
   ·skip
    have e:bF false false false true pl nn l1 l2=true:=by simp [bF,hA,hN,h1]
    rw [e];clear e;subst hA;subst hN;subst h1;go_enter func185,ntmps185
    go_wp2;go_ret;exact ⟨rfl,B0⟩
   skip
   have e:bF false false false true pl nn l1 l2=false:=by simp [bF,hA,hN,h1]
   rw [e];have h1i:((l1:Int) == 0)=false:=by simp [h1]
   clear e;subst hA;subst hN;go_enter func185,ntmps185
   go_wp2;go_ret;exact ⟨rfl,B0⟩
  skip
  have e:bF false false false true pl nn l1 l2=false:=by simp [bF,hA,hN]
  rw [e];have eN:(nn == 0)=false:=by simp [hN]
  clear e;subst hA;go_enter func185,ntmps185
  go_wp2;go_ret;exact ⟨rfl,B0⟩
 skip
 have e:bF false false false true pl nn l1 l2=false:=by simp [bF,hA]
 rw [e];have eA:(pl == 0)=false:=by simp [hA]
 clear e;go_enter func185,ntmps185
 go_wp2;go_ret;exact ⟨rfl,B0⟩
theorem oH(kd fl pl nn:Int)(a1 a2:OA)(l1 l2 c1 c2:Nat)(w:World)(hm1:l1<= 2000000)(hm2:l2<= 20000000)(z:Bool)(hz:bF false false true false pl nn l1 l2=z):
 Calls prog 185 #[rp kd fl pl nn a1 a2 l1 l2 c1 c2,.bool false,.bool false,.bool true,.bool false] w fun e w'=>e=.returned (.bool z)/\Below w.heap.size w w':=by
 have B0:=aa w (.cells #[Vi kd,Vi fl,Vi pl,Vi nn,.slice a1 l1 c1,.slice a2 l2 c2] 162);subst hz;by_cases hA:pl=0
 ·skip
  by_cases hN:nn=0
  ·skip
   by_cases h2:l2=0
   ·skip
    have e:bF false false true false pl nn l1 l2=true:=by simp [bF,hA,hN,h2]
    rw [e];clear e;subst hA;subst hN;subst h2;go_enter func185,ntmps185
    go_wp2;go_ret;exact ⟨rfl,B0⟩
   skip
   have e:bF false false true false pl nn l1 l2=false:=by simp [bF,hA,hN,h2]
   rw [e];have h2i:((l2:Int) == 0)=false:=by simp [h2]
   clear e;subst hA;subst hN;go_enter func185,ntmps185
   go_wp2;go_ret;exact ⟨rfl,B0⟩
  skip
  have e:bF false false true false pl nn l1 l2=false:=by simp [bF,hA,hN]
  rw [e];have eN:(nn == 0)=false:=by simp [hN]
  clear e;subst hA;go_enter func185,ntmps185
  go_wp2;go_ret;exact ⟨rfl,B0⟩
 skip
 have e:bF false false true false pl nn l1 l2=false:=by simp [bF,hA]
 rw [e];have eA:(pl == 0)=false:=by simp [hA]
 clear e;go_enter func185,ntmps185
 go_wp2;go_ret;exact ⟨rfl,B0⟩
theorem oI(kd fl pl nn:Int)(a1 a2:OA)(l1 l2 c1 c2:Nat)(w:World)(hm1:l1<= 2000000)(hm2:l2<= 20000000)(z:Bool)(hz:bF true false false true pl nn l1 l2=z):
 Calls prog 185 #[rp kd fl pl nn a1 a2 l1 l2 c1 c2,.bool true,.bool false,.bool false,.bool true] w fun e w'=>e=.returned (.bool z)/\Below w.heap.size w w':=by
 have B0:=aa w (.cells #[Vi kd,Vi fl,Vi pl,Vi nn,.slice a1 l1 c1,.slice a2 l2 c2] 162);subst hz;by_cases hN:nn=0
 ·skip
  by_cases h1:l1=0
  ·skip
   have e:bF true false false true pl nn l1 l2=true:=by simp [bF,hN,h1]
   rw [e];clear e;subst hN;subst h1;go_enter func185,ntmps185
   go_wp2;go_ret;exact ⟨rfl,B0⟩
  skip
  have e:bF true false false true pl nn l1 l2=false:=by simp [bF,hN,h1]
  rw [e];have h1i:((l1:Int) == 0)=false:=by simp [h1]
  clear e;subst hN;go_enter func185,ntmps185
  go_wp2;go_ret;exact ⟨rfl,B0⟩
 skip
 have e:bF true false false true pl nn l1 l2=false:=by simp [bF,hN]
 rw [e];have eN:(nn == 0)=false:=by simp [hN]
 clear e;go_enter func185,ntmps185
 go_wp2;go_ret;exact ⟨rfl,B0⟩
theorem oJ(kd fl pl nn:Int)(a1 a2:OA)(l1 l2 c1 c2:Nat)(w:World)(hm1:l1<= 2000000)(hm2:l2<= 20000000)(z:Bool)(hz:bF true false true false pl nn l1 l2=z):
 Calls prog 185 #[rp kd fl pl nn a1 a2 l1 l2 c1 c2,.bool true,.bool false,.bool true,.bool false] w fun e w'=>e=.returned (.bool z)/\Below w.heap.size w w':=by
 have B0:=aa w (.cells #[Vi kd,Vi fl,Vi pl,Vi nn,.slice a1 l1 c1,.slice a2 l2 c2] 162);subst hz;by_cases hN:nn=0
 ·skip
  by_cases h2:l2=0
  ·skip
   have e:bF true false true false pl nn l1 l2=true:=by simp [bF,hN,h2]
   rw [e];clear e;subst hN;subst h2;go_enter func185,ntmps185
   go_wp2;go_ret;exact ⟨rfl,B0⟩
  skip
  have e:bF true false true false pl nn l1 l2=false:=by simp [bF,hN,h2]
  rw [e];have h2i:((l2:Int) == 0)=false:=by simp [h2]
  clear e;subst hN;go_enter func185,ntmps185
  go_wp2;go_ret;exact ⟨rfl,B0⟩
 skip
 have e:bF true false true false pl nn l1 l2=false:=by simp [bF,hN]
 rw [e];have eN:(nn == 0)=false:=by simp [hN]
 clear e;go_enter func185,ntmps185
 go_wp2;go_ret;exact ⟨rfl,B0⟩
theorem oK(kd fl pl nn:Int)(a1 a2:OA)(l1 l2 c1 c2:Nat)(w:World)(hm1:l1<= 2000000)(hm2:l2<= 20000000)(z:Bool)(hz:bF true true false false pl nn l1 l2=z):
 Calls prog 185 #[rp kd fl pl nn a1 a2 l1 l2 c1 c2,.bool true,.bool true,.bool false,.bool false] w fun e w'=>e=.returned (.bool z)/\Below w.heap.size w w':=by
 have B0:=aa w (.cells #[Vi kd,Vi fl,Vi pl,Vi nn,.slice a1 l1 c1,.slice a2 l2 c2] 162);subst hz;by_cases h1:l1=0
 ·skip
  by_cases h2:l2=0
  ·skip
   have e:bF true true false false pl nn l1 l2=true:=by simp [bF,h1,h2]
   rw [e];clear e;subst h1;subst h2;go_enter func185,ntmps185
   go_wp2;go_ret;exact ⟨rfl,B0⟩
  skip
  have e:bF true true false false pl nn l1 l2=false:=by simp [bF,h1,h2]
  rw [e];have h2i:((l2:Int) == 0)=false:=by simp [h2]
  clear e;subst h1;go_enter func185,ntmps185
  go_wp2;go_ret;exact ⟨rfl,B0⟩
 skip
 have e:bF true true false false pl nn l1 l2=false:=by simp [bF,h1]
 rw [e];have h1i:((l1:Int) == 0)=false:=by simp [h1]
 clear e;go_enter func185,ntmps185
 go_wp2;go_ret;exact ⟨rfl,B0⟩
theorem rj(a n v b:Bool)(kd fl pl nn:Int)(a1 a2:OA)(l1 l2 c1 c2:Nat)(w:World)(h:a=false/\n=false/\v=false/\b=false\/a=false/\n=false/\v=false/\b=true\/a=false/\n=false/\v=true/\b=false\/a=true/\n=false/\v=false/\b=true\/a=true/\n=false/\v=true/\b=false\/a=true/\n=true/\v=false/\b=false)(hm1:l1<= 2000000)(hm2:l2<= 20000000):
 Calls prog 185 #[rp kd fl pl nn a1 a2 l1 l2 c1 c2,.bool a,.bool n,.bool v,.bool b] w fun e w'=>Below w.heap.size w w'/\((bF a n v b pl nn l1 l2=true/\e=.returned (.bool true))\/(bF a n v b pl nn l1 l2=false/\e=.returned (.bool false))):=by
 obtain ⟨rfl,rfl,rfl,rfl⟩|⟨rfl,rfl,rfl,rfl⟩|⟨rfl,rfl,rfl,rfl⟩|⟨rfl,rfl,rfl,rfl⟩|⟨rfl,rfl,rfl,rfl⟩|⟨rfl,rfl,rfl,rfl⟩:=h
 ·exact bo (oF _ _ _ _ _ _ _ _ _ _ _ hm1 hm2 _ rfl)
 ·exact bo (oG _ _ _ _ _ _ _ _ _ _ _ hm1 hm2 _ rfl)
 ·exact bo (oH _ _ _ _ _ _ _ _ _ _ _ hm1 hm2 _ rfl)
 ·exact bo (oI _ _ _ _ _ _ _ _ _ _ _ hm1 hm2 _ rfl)
 ·exact bo (oJ _ _ _ _ _ _ _ _ _ _ _ hm1 hm2 _ rfl)
 exact bo (oK _ _ _ _ _ _ _ _ _ _ _ hm1 hm2 _ rfl)
theorem lw(kd fl pl nn:Int)(a1 a2:OA)(l1 l2 c1 c2:Nat)(ws:List Int)(w:World)(h1:l1=ws.length)(s1:aZ w a1 ws)(hl1:ws.length<= 2000000)(hl2:l2<= 20000000)(b:Bool)(hb:dK kd fl pl nn ws l1 l2=b):
 Calls prog 164 #[rp kd fl pl nn a1 a2 l1 l2 c1 c2] w fun e w'=>e=.returned (.bool b)/\Below w.heap.size w w':=by
 obtain ⟨B0,X0⟩:=bx w #[Vi kd,Vi fl,Vi pl,Vi nn,.slice a1 l1 c1,.slice a2 l2 c2] 162;have S1:=dM (s1.below B0);have H1:Hid (l1=ws.length):=h1;clear h1 s1;subst hb;cases hK:cR kd
 ·go_enter func164,ntmps164
  go_wp2_with (go_at_call 184;refine (kI _ _ _ hK).mono ?_;rintro e wx ⟨rfl,rfl⟩)
  go_ret;exact ⟨by simp [dK,hK],B0⟩
 by_cases h0:0<fl
 rotate_left
 rcases of_decide_eq_true hK with rfl|rfl|rfl|rfl|rfl|rfl|rfl|rfl|rfl|rfl
 all_goals
  go_enter func164,ntmps164
  go_wp2_with (first
   |(go_at_call 184;refine (kI _ _ _ hK).mono ?_;rintro e wx ⟨rfl,rfl⟩)
   |(go_at_call 161;refine (bo (hJ _ _ _ ws _ H1.out S1.out hl1 _ rfl)).mono ?_;rintro e wx ⟨rfl,⟨hW,rfl⟩|⟨hW,rfl⟩⟩)
   |(go_at_call 46;refine (ll _ _ _ _).mono ?_;rintro e wx ⟨rfl,⟨hN,hm,rfl⟩|⟨hN,rfl⟩⟩)
   |(go_at_call 185;refine (rj _ _ _ _ _ _ _ _ _ _ _ _ _ _ _ (by simp) (by have:=H1.out;omega) hl2).mono ?_;rintro e w1 ⟨b',⟨hZ,rfl⟩|⟨hZ,rfl⟩⟩ <;> (have B1:=ak B0 b';obtain ⟨y0,y1,y2,y3,y4,y5⟩:=(X0.below b').six;clear B0 X0)))
  all_goals
   go_ret;refine ⟨?_,by assumption⟩
   first|(simp [dK,ig, *,show ¬ 0<fl by omega];done)|(simp [dK,ig, *];done)|(simp [dK,ig, *,show ¬ 0<fl by omega];rw [Bool.eq_iff_iff];simp;omega)
theorem nB(kd fl pl nn:Int)(a1 a2:OA)(l1 l2 c1 c2:Nat)(ws:List Int)(bs:List Bool)(w:World)(h1:l1=ws.length)(h2:l2=bs.length)(s1:aZ w a1 ws)(s2:be w a2 bs)(hl1:ws.length<= 2000000)(hl2:bs.length<= 2000000):
 Calls prog 164 #[rp kd fl pl nn a1 a2 l1 l2 c1 c2] w fun e w'=>e=.returned (.bool (dK kd fl pl nn ws l1 l2))/\Below w.heap.size w w':=
 lw kd fl pl nn a1 a2 l1 l2 c1 c2 ws w h1 s1 hl1 (by omega) _ rfl
end Go.Proofs.YtohikbpolofklaaGreat
