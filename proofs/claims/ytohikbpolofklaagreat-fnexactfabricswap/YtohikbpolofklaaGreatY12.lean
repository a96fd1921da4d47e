/- Texts that the proof needs, joined: Tm. -/
import Derived.Test.YtohikbpolofklaaGreatY8
import Derived.Test.YtohikbpolofklaaGreatY11
import Derived.Test.YtohikbpolofklaaGreatY5
import Derived.Test.YtohikbpolofklaaGreatY7
set_option linter.unusedVariables false
set_option linter.unusedSimpArgs false
namespace Go.Proofs.YtohikbpolofklaaGreat
open Go.RowKit Go.Joins Go.Proofs.Tryz
theorem az.lv{w:World}{lo hi:Nat}{ts:List Tr}{vs:List Value}(h:az w lo hi ts vs)(l:List Value)(hl:lo<= hi):az w lo hi (ts++l.map .leaf) (vs++l):=by
 refine h.app (mid:=hi) ?_ hl Nl;refine ⟨fun _=>.leaf,by simp,fun i v hv=>?_,fun i hi=>⟨trivial,fun b hb=>hb.elim⟩,fun _ _ _ _ _ _ x=>x.elim⟩
 have e:ac (l.map Tr.leaf) i=.leaf v:=by
  unfold ac;simp [List.getD_eq_getElem?_getD,hv]
 rw [e];exact ⟨rfl,rfl⟩
structure TM(w:World)(t s:TypeId)(A Z:Array Value)(W:World)(O:Array Value)(ts:List Tr)(vs:List Value):Prop where
 b:Below w.heap.size w W
 a:ae W w.heap.size t A
 z:ae W (w.heap.size+1) s Z
 o:ae W (w.heap.size+1+1) s O
 h:w.heap.size+1+1+1<= W.heap.size
 q:az W (w.heap.size+1+1+1) W.heap.size ts vs
theorem TM.new{w W:World}{t s:TypeId}{A Z O:Array Value}(hW:W=((w.alloc (.cells A t)).alloc (.cells Z s)).alloc (.cells O s)):Hid (TM w t s A Z W O [] []):=by
 have h:=TS.new hW;exact ⟨h.out.b,h.out.a,h.out.z,h.out.o,h.out.h,az.nil _ _ _⟩
theorem TM.st{w W w1 V:World}{t s:TypeId}{A Z O:Array Value}{ts us:List Tr}{ws xs:List Value}(g:Hid (TM w t s A Z W O ts ws))(hb:Below W.heap.size W w1){j:Nat}{vs:List Value}(hV:V=aF w1 (w.heap.size+1+1) j vs)(O':Array Value)(hR:az w1 W.heap.size w1.heap.size us xs)(hO:O'=bO O j vs:=by simp [bO]):Hid (TM w t s A Z V O' (ts++us) (ws++xs)):=by
 have hg:w1.grownBy V (some (w.heap.size+1+1)):=by rw [hV];exact bf _ _ _
 have h1:=hb.size;have h2:=hg.size;have h3:=g.out.h;have h4:=az.next g.out.q hb hR hg (by omega) h3;subst hV hO;exact ⟨aD (by omega) _ _ _ (af g.out.b hb),ae.stNe (by omega) _ _ (g.out.a.below hb),ae.stNe (by omega) _ _ (g.out.z.below hb),ae.stL _ _ (g.out.o.below hb),by omega,h4⟩
theorem TM.fin{w W V:World}{t s:TypeId}{A Z O:Array Value}{ts:List Tr}{ws:List Value}(g:Hid (TM w t s A Z W O ts ws)){L:List Value}(hV:V=aF W (w.heap.size+1) 0 L)(hZ:L.toArray=bO Z 0 L:=by simp [bO]):Hid (Below w.heap.size w V/\ae V (w.heap.size+1) s L.toArray/\az V w.heap.size V.heap.size ts ws):=by
 have hg:W.grownBy V (some (w.heap.size+1)):=by rw [hV];exact bf _ _ _
 have h2:=hg.size;have h3:=g.out.h;exact ⟨by rw [hV];exact aD (by omega) _ _ _ g.out.b,by rw [hV,hZ];exact ae.stL _ _ g.out.z,(g.out.q.kept hg (by omega) Nl).mono (by omega) h2⟩
theorem fV(n:Nat)(f:Nat->Ru)(a:OA)(n' cap:Nat)(w:World)(hs:Rd w 0 (.list 7 n (fun k=>ac (aR (f k)))) (.slice a n' cap))(hz:(Tr.list 7 n (fun k=>ac (aR (f k)))).sz<= 1048576):
 Calls prog 8 #[.slice a n' cap] w fun e w'=>∃ b d,e=.returned (.slice b n' d)/\dk w' w.heap.size (.list 7 n (fun k=>ac (aR (f k)))) (.slice b n' d)/\Below w.heap.size w w':=by
 rw [jx] at hz;obtain ⟨rfl,h1⟩:=hs.slu;obtain ⟨_,_,h9,-,hm⟩:=hs.shape;refine (ox a n' cap f w h1 (by omega)).mono ?_;rintro e w' ⟨rfl,hr,hb⟩;exact ⟨_,_,rfl,hr.own Nl hm Nl,hb⟩
end Go.Proofs.YtohikbpolofklaaGreat
