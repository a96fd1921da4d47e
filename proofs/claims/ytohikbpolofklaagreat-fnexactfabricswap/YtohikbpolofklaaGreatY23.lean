/- Texts that the proof needs, joined: Cf1 Q2. -/
import Derived.Test.YtohikbpolofklaaGreatY21
import Derived.Test.YtohikbpolofklaaGreatY22
import Derived.Test.YtohikbpolofklaaGreatY16
set_option linter.unusedVariables false
set_option linter.unusedSimpArgs false
set_option maxHeartbeats 4000000
set_option maxRecDepth 20000
namespace Go.Proofs.YtohikbpolofklaaGreat
open Go.RowKit Go.Proofs.Tryz
theorem ae.thr{w:World}{g:Nat}{t:TypeId}{v0 v1 v2:Value}(h:ae w g t #[v0,v1,v2]):(w.cell? ⟨g,0,none⟩=some v0/\w.cell? ⟨g,1,none⟩=some v1/\w.cell? ⟨g,2,none⟩=some v2)/\w.frozen? ⟨g,0,none⟩=false/\w.frozen? ⟨g,1,none⟩=false/\w.frozen? ⟨g,2,none⟩=false:=
 ⟨⟨h.cell 0 rfl,h.cell 1 rfl,h.cell 2 rfl⟩,h.fro 0,h.fro 1,h.fro 2⟩
theorem aM.setc{w:World}{g g' j:Nat}{t:TypeId}{s n:Nat}{F:Nat->List Value}{y:Value}(h:aM w g t s n F)(hne:g'≠g):aM (w.setCell ⟨g',j,none⟩ y) g t s n F:=by
 obtain ⟨cs,h1,h2⟩:=h;exact ⟨cs,ae.setNe h1 (Ne.symm hne),h2⟩
abbrev fC(wt tr:Int)(a:OA)(n c:Nat):Array Value:=#[Vi wt,Vi tr,.slice a n c]
def jf(wt tr:Int)(b:Bool):Bool:=(aB wt 1 100 && aB tr 0 5) && b
theorem jQ(wt tr:Int)(a:OA)(n cap:Nat)(f:Nat->Ru)(w:World)(hs:dU w a n f)(hl:n<= 2000000)(b:Bool)(hb:b=true↔ eK f n):
 Calls prog 44 #[.agg (fC wt tr a n cap)] w fun e w'=>e=.returned (.bool (jf wt tr b))/\Below w.heap.size w w':=by
 have bW:=aa w (.cells (fC wt tr a n cap) 35);have HS:Hid (dU (w.alloc (.cells (fC wt tr a n cap) 35)) a n f/\Below w.heap.size w (w.alloc (.cells (fC wt tr a n cap) 35))):=⟨fd.below hs bW,bW⟩
 have HB:Hid (b=true↔ eK f n):=hb;clear hs bW hb;obtain ⟨c1,hc1⟩:∃ c1,c1=aB wt 1 100:=⟨_,rfl⟩
 obtain ⟨c2,hc2⟩:∃ c2,c2=aB tr 0 5:=⟨_,rfl⟩
 have HE:Hid (jf wt tr b=(c1 && c2 && b)/\aB wt 1 100=c1/\aB tr 0 5=c2):=⟨by unfold jf;rw [hc1,hc2],hc1.symm,hc2.symm⟩
 rw [HE.out.1];clear hc1 hc2;go_enter func44,ntmps44
 go_wp2_with fail
 refine (aI _ _ _ _ c1 HE.out.2.1).mono ?_;rintro e w1 ⟨rfl,rfl⟩;cases c1
 case false=>
  go_wp2;go_ret;exact ⟨rfl,HS.out.2⟩
 go_wp2_with fail
 refine (aI _ _ _ _ c2 HE.out.2.2).mono ?_;rintro e w1 ⟨rfl,rfl⟩;cases c2
 case false=>
  go_wp2;go_ret;exact ⟨rfl,HS.out.2⟩
 go_wp2_with fail
 refine (gM a n cap f _ HS.out.1 hl b HB.out).mono ?_;rintro e w2 ⟨rfl,b2⟩;have B2:=ak HS.out.2 b2;clear b2;go_wp2;go_ret;exact ⟨rfl,B2⟩
theorem p7(x:Int)(w:World)(b:Bool)(hb:aB x 1 100=b):Calls prog 95 #[Vi x] w fun e w'=>e=.returned (.bool b)/\w'=w:=by
 subst hb;unfold aB;by_cases h1:1<= x
 ·by_cases h2:x<= 100
  ·rw [decide_eq_true ⟨h1,h2⟩]
   go_enter func95,ntmps95
   go_wp2_with (go_at_call 142;go_in)
   go_ret;exact ⟨rfl,rfl⟩
  rw [decide_eq_false (fun h=>h2 h.2)];go_enter func95,ntmps95
  go_wp2_with (go_at_call 142;go_in)
  go_ret;exact ⟨rfl,rfl⟩
 rw [decide_eq_false (fun h=>h1 h.1)];go_enter func95,ntmps95
 go_wp2_with (go_at_call 142;go_in)
 go_ret;exact ⟨rfl,rfl⟩
theorem oB(x:Int)(w:World)(b:Bool)(hb:aB x 0 5=b):Calls prog 96 #[Vi x] w fun e w'=>e=.returned (.bool b)/\w'=w:=by
 subst hb;unfold aB;by_cases h1:0<= x
 ·by_cases h2:x<= 5
  ·rw [decide_eq_true ⟨h1,h2⟩]
   go_enter func96,ntmps96
   go_wp2;go_ret;exact ⟨rfl,rfl⟩
  rw [decide_eq_false (fun h=>h2 h.2)];go_enter func96,ntmps96
  go_wp2;go_ret;exact ⟨rfl,rfl⟩
 rw [decide_eq_false (fun h=>h1 h.1)];go_enter func96,ntmps96
 go_wp2;go_ret;exact ⟨rfl,rfl⟩
theorem jR(wt tr:Int)(a:OA)(n cap:Nat)(f:Nat->Ru)(w:World)(hs:dU w a n f)(hl:n<= 2000000)(h64:∀ k,k<n->-9223372036854775808<= (f k).sh/\(f k).sh<= 9223372036854775807)(b:Bool)(hb:b=true↔ eK f n):
 Calls prog 60 #[.agg (fC wt tr a n cap)] w fun e w'=>e=.returned (.bool (jf wt tr b))/\Below w.heap.size w w':=by
 have bW:=aa w (.cells (fC wt tr a n cap) 35);have HS:Hid (dU (w.alloc (.cells (fC wt tr a n cap) 35)) a n f/\Below w.heap.size w (w.alloc (.cells (fC wt tr a n cap) 35))):=⟨fd.below hs bW,bW⟩
 have HB:Hid ((b=true↔ eK f n)/\∀ k,k<n->-9223372036854775808<= (f k).sh/\(f k).sh<= 9223372036854775807):=⟨hb,h64⟩
 clear hs bW hb h64;obtain ⟨c1,hc1⟩:∃ c1,c1=aB wt 1 100:=⟨_,rfl⟩
 obtain ⟨c2,hc2⟩:∃ c2,c2=aB tr 0 5:=⟨_,rfl⟩
 have HE:Hid (jf wt tr b=(c1 && c2 && b)/\aB wt 1 100=c1/\aB tr 0 5=c2):=⟨by unfold jf;rw [hc1,hc2],hc1.symm,hc2.symm⟩
 rw [HE.out.1];clear hc1 hc2;go_enter func60,ntmps60
 go_wp2_with fail
 refine (p7 _ _ c1 HE.out.2.1).mono ?_;rintro e w1 ⟨rfl,rfl⟩;cases c1
 case false=>
  go_wp2;go_ret;exact ⟨rfl,HS.out.2⟩
 go_wp2_with fail
 refine (oB _ _ c2 HE.out.2.2).mono ?_;rintro e w1 ⟨rfl,rfl⟩;cases c2
 case false=>
  go_wp2;go_ret;exact ⟨rfl,HS.out.2⟩
 go_wp2_with fail
 refine (gL a n cap f _ HS.out.1 hl HB.out.2 b HB.out.1).mono ?_;rintro e w2 ⟨rfl,b2⟩;have B2:=ak HS.out.2 b2;clear b2;go_wp2;go_ret;exact ⟨rfl,B2⟩
def dO(kd pl nn wa:Int)(l1 l2:Nat):Bool:=
 if kd=1\/kd=2 then bR true false false false nn l1 l2 wa && (aB nn 1 2000 && dr pl nn)
 else if kd=3\/kd=4 then bR true false false false nn l1 l2 wa && (aB nn 1 125 && dr pl nn)
 else if kd=5 then bR false false true false nn l1 l2 wa && decide (l2=1)
 else if kd=6 then bR false true false false nn l1 l2 wa && decide (l1=1)
 else if kd=15 then bR false false true false nn l1 l2 wa && (aB l2 1 1968 && dr pl l2)
 else if kd=16 then bR false true false false nn l1 l2 wa && (aB l1 1 123 && dr pl l1)
 else if kd=22 then bR false true false false nn l1 l2 wa && decide (l1=2)
 else if kd=23 then bR true true false true nn l1 l2 wa && (aB nn 1 125 && (dr pl nn && (aB l1 1 121 && dr wa l1)))
 else false
def bN(kd pl nn wa:Int)(ws:List Int)(l1 l2:Nat):Bool:=ce ws && (aB pl 0 65535 && dO kd pl nn wa l1 l2)
theorem lk{x lo hi:Int}(h:aB x lo hi=true):lo<= x/\x<= hi:=by unfold aB at h;exact of_decide_eq_true h
theorem ll(x lo hi:Int)(w:World):Calls prog 46 #[Vi x,Vi lo,Vi hi] w fun e w'=>w'=w/\((aB x lo hi=true/\(lo<= x/\x<= hi)/\e=.returned (.bool true))\/(aB x lo hi=false/\e=.returned (.bool false))):=
 (aI x lo hi w _ rfl).mono (by rintro e w' ⟨rfl,rfl⟩;cases h:aB x lo hi <;> simp;exact lk h)
theorem bo{n:Nat}{ar:Array Value}{w:World}{b:Bool}{Q:World->Prop}(h:Calls prog n ar w fun e w'=>e=.returned (.bool b)/\Q w'):Calls prog n ar w fun e w'=>Q w'/\((b=true/\e=.returned (.bool true))\/(b=false/\e=.returned (.bool false))):=
 h.mono (by rintro e w' ⟨rfl,q⟩;cases b <;> simp [q])
theorem qQ(n v b a:Bool)(kd pl nn wa:Int)(a1 a2:OA)(l1 l2 c1 c2:Nat)(w:World)(h:n=true/\v=false/\b=false/\a=false\/n=false/\v=false/\b=true/\a=false\/n=false/\v=true/\b=false/\a=false\/n=true/\v=true/\b=false/\a=true)(hm1:l1<= 2000000)(hm2:l2<= 20000000):
 Calls prog 162 #[rq kd pl nn wa a1 a2 l1 l2 c1 c2,.bool n,.bool v,.bool b,.bool a] w fun e w'=>Below w.heap.size w w'/\((bR n v b a nn l1 l2 wa=true/\e=.returned (.bool true))\/(bR n v b a nn l1 l2 wa=false/\e=.returned (.bool false))):=by
 obtain ⟨rfl,rfl,rfl,rfl⟩|⟨rfl,rfl,rfl,rfl⟩|⟨rfl,rfl,rfl,rfl⟩|⟨rfl,rfl,rfl,rfl⟩:=h
 ·exact bo (oe _ _ _ _ _ _ _ _ _ _ _ hm1 hm2 _ rfl)
 ·exact bo (og _ _ _ _ _ _ _ _ _ _ _ hm1 hm2 _ rfl)
 ·exact bo (oh _ _ _ _ _ _ _ _ _ _ _ hm1 hm2 _ rfl)
 exact bo (oi _ _ _ _ _ _ _ _ _ _ _ hm1 hm2 _ rfl)
theorem mw(kd:Int)(pl nn wa:Int)(a1 a2:OA)(l1 l2 c1 c2:Nat)(ws:List Int)(w:World)(h1:l1=ws.length)(s1:aZ w a1 ws)(hl1:ws.length<= 2000000)(hl2:l2<= 20000000)(b:Bool)(hb:bN kd pl nn wa ws l1 l2=b):
 Calls prog 125 #[rq kd pl nn wa a1 a2 l1 l2 c1 c2] w fun e w'=>e=.returned (.bool b)/\Below w.heap.size w w':=by
 obtain ⟨B0,X0⟩:=bx w #[Vi kd,Vi pl,Vi nn,.slice a1 l1 c1,.slice a2 l2 c2,Vi wa] 86;have S1:=dM (s1.below B0);have H1:Hid (l1=ws.length):=h1;clear h1 s1;subst hb;rcases Decidable.em (kd=1\/kd=2\/kd=3\/kd=4\/kd=5\/kd=6\/kd=15\/kd=16\/kd=22\/kd=23) with (rfl|rfl|rfl|rfl|rfl|rfl|rfl|rfl|rfl|rfl)|hk
 rotate_right
 ·simp only [not_or] at hk
  obtain ⟨k1,k2,k3,k4,k5,k6,k7,k8,k9,k10⟩:=hk;go_enter func125,ntmps125
  go_wp2_with (first
   |(go_at_call 161;refine (bo (hJ _ _ _ ws _ H1.out S1.out hl1 _ rfl)).mono ?_;rintro e wx ⟨rfl,⟨hW,rfl⟩|⟨hW,rfl⟩⟩)
   |(go_at_call 46;refine (ll _ _ _ _).mono ?_;rintro e wx ⟨rfl,⟨hN,hm,rfl⟩|⟨hN,rfl⟩⟩))
  all_goals
   go_ret;exact ⟨by simp [bN,dO, *],B0⟩
 all_goals
  go_enter func125,ntmps125
  go_wp2_with (first
   |(go_at_call 161;refine (bo (hJ _ _ _ ws _ H1.out S1.out hl1 _ rfl)).mono ?_;rintro e wx ⟨rfl,⟨hW,rfl⟩|⟨hW,rfl⟩⟩)
   |(go_at_call 46;refine (ll _ _ _ _).mono ?_;rintro e wx ⟨rfl,⟨hN,hm,rfl⟩|⟨hN,rfl⟩⟩)
   |(go_at_call 162;refine (qQ _ _ _ _ _ _ _ _ _ _ _ _ _ _ _ (by simp) (by have:=H1.out;omega) hl2).mono ?_;rintro e w1 ⟨b',⟨hZ,rfl⟩|⟨hZ,rfl⟩⟩ <;> (have B1:=ak B0 b';obtain ⟨y0,y1,y2,y3,y4,y5⟩:=(X0.below b').six;clear B0 X0))
   |(go_at_call 163;refine (bo (pW _ _ _ (by omega) (by omega) _ rfl)).mono ?_;rintro e wx ⟨rfl,⟨hF,rfl⟩|⟨hF,rfl⟩⟩))
  all_goals
   go_ret;refine ⟨?_,by assumption⟩
   simp [bN,dO, *];try (rw [Bool.eq_iff_iff];simp;omega)
end Go.Proofs.YtohikbpolofklaaGreat
