/- Texts that the proof needs, joined: R4 G1 G2. -/
import Derived.Test.YtohikbpolofklaaGreatY25
import Derived.Test.YtohikbpolofklaaGreatY32
import Derived.Test.YtohikbpolofklaaGreatY2
import Derived.Test.YtohikbpolofklaaGreatY31
set_option linter.unusedVariables false
set_option linter.unusedSimpArgs false
set_option maxHeartbeats 2000000
namespace Go.Proofs.YtohikbpolofklaaGreat
open Go.RowKit Go.Proofs.Tryz
def xG(zs:List Int)(i:Nat):Int:=if i+2<= zs.length then zs.getD i 0*256+zs.getD (i+1) 0 else 0
def wsF(zs:List Int)(f:Nat):List Int:=(List.range ((zs.length-f) / 2)).map (fun k=>xG zs (f+2*k))
def wsT(zs:List Int)(f k:Nat):List Int:=(List.range k).map (fun k=>xG zs (f+2*k))
def NwI(w w':World)(e:Ending)(zs:List Int):Prop:=∃ a c n,e=.returned (.slice a n c)/\n=zs.length/\bi w' w.heap.size (.slice a n c) zs/\Below w.heap.size w w'
def cR(k:Int):Bool:=decide (k=1\/k=2\/k=3\/k=4\/k=5\/k=6\/k=15\/k=16\/k=22\/k=23)
theorem iF(k:Int)(w:World)(b:Bool)(hb:cR k=b):Calls prog 200 #[Vi k] w fun e w'=>e=.returned (.bool b)/\w'=w:=by
 by_cases hk:k=1\/k=2\/k=3\/k=4\/k=5\/k=6\/k=15\/k=16\/k=22\/k=23
 ·have e:cR k=true:=decide_eq_true hk
  rw [e] at hb;subst hb;clear e;obtain rfl|rfl|rfl|rfl|rfl|rfl|rfl|rfl|rfl|rfl:=hk
  all_goals (
   go_enter func200,ntmps200
   go_wp2;go_ret;exact ⟨rfl,rfl⟩)
 have e:cR k=false:=decide_eq_false hk;rw [e] at hb;subst hb;have h1:¬ k=1:=by omega
 have h2:¬ k=2:=by omega
 have h3:¬ k=3:=by omega
 have h4:¬ k=4:=by omega
 have h5:¬ k=5:=by omega
 have h6:¬ k=6:=by omega
 have h15:¬ k=15:=by omega
 have h16:¬ k=16:=by omega
 have h22:¬ k=22:=by omega
 have h23:¬ k=23:=by omega
 clear hk e;go_enter func200,ntmps200
 go_wp2;go_ret;exact ⟨rfl,rfl⟩
theorem kI(k:Int)(w:World)(b:Bool)(hb:cR k=b):Calls prog 184 #[Vi k] w fun e w'=>e=.returned (.bool b)/\w'=w:=by
 by_cases hk:k=1\/k=2\/k=3\/k=4\/k=5\/k=6\/k=15\/k=16\/k=22\/k=23
 ·have e:cR k=true:=decide_eq_true hk
  rw [e] at hb;subst hb;clear e;obtain rfl|rfl|rfl|rfl|rfl|rfl|rfl|rfl|rfl|rfl:=hk
  all_goals (
   go_enter func184,ntmps184
   go_wp2_with (go_at_call 46;go_in)
   go_ret;exact ⟨rfl,rfl⟩)
 have e:cR k=false:=decide_eq_false hk;rw [e] at hb;subst hb;have h15:¬ k=15:=by omega
 have h16:¬ k=16:=by omega
 have h22:¬ k=22:=by omega
 have h23:¬ k=23:=by omega
 have hq:(k == 23)=false:=by simp [h23]
 have hq1:(k == 15)=false:=by simp [h15]
 have hq2:(k == 16)=false:=by simp [h16]
 have hq3:(k == 22)=false:=by simp [h22]
 by_cases h1:1<= k
 ·have h6:¬ k<= 6:=by omega
  clear hk e;go_enter func184,ntmps184
  go_wp2_with (go_at_call 46;go_in)
  go_ret;exact ⟨rfl,rfl⟩
 clear hk e;go_enter func184,ntmps184
 go_wp2_with (go_at_call 46;go_in)
 go_ret;exact ⟨rfl,rfl⟩
def GP(w w':World)(e:Ending)(kd pl nn wa:Int)(ws:List Int)(bs:List Bool)(code:Int):Prop:=
 ∃ a1 a2 l1 l2 c1 c2,e=.returned (.tuple #[rq kd pl nn wa a1 a2 l1 l2 c1 c2,Vi code])/\l1=ws.length/\l2=bs.length/\bi w' w.heap.size (.slice a1 l1 c1) ws/\bD w' w.heap.size (.slice a2 l2 c2) bs/\Below w.heap.size w w'
end Go.Proofs.YtohikbpolofklaaGreat
