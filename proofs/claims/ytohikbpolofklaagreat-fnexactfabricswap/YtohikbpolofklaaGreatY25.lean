/- Texts that the proof needs, joined: Q4 Q5 Q6 Ln2 El1. -/
import Derived.Test.YtohikbpolofklaaGreatY16
import Derived.Test.YtohikbpolofklaaGreatY23
import Derived.Test.YtohikbpolofklaaGreatY24
import Derived.Deep.RegionWith
import Derived.Test.YtohikbpolofklaaGreatY1
set_option linter.unusedSectionVars false
set_option linter.unusedVariables false
set_option linter.unusedSimpArgs false
set_option maxHeartbeats 8000000
set_option maxRecDepth 20000
namespace Go.Proofs.YtohikbpolofklaaGreat
open Go.RowKit Go.Proofs.Tryz
abbrev lp:Array Value:=#[Vi 0,Vi 0,Vi 0,Zs,Zs,Vi 0]
theorem sE(w:World)(x:Bool){g:Nat}(hg:g=w.heap.size):be (w.alloc (.cells #[.bool x] 4)) (some ⟨g,0,none⟩) [x]:=hg ▸
 .inr ⟨_,0,rfl,by simp,fun i hi=>by
  have:i=0:=by simp at hi;omega
  subst this;simp⟩
theorem sF(w:World)(x:Int){g:Nat}(hg:g=w.heap.size):aZ (w.alloc (.cells #[Vi x] 3)) (some ⟨g,0,none⟩) [x]:=hg ▸
 .inr ⟨_,0,rfl,by simp,fun i hi=>by
  have:i=0:=by simp at hi;omega
  subst this;simp⟩
theorem sG(w:World)(x y:Int){g:Nat}(hg:g=w.heap.size):aZ (w.alloc (.cells #[Vi x,Vi y] 3)) (some ⟨g,0,none⟩) [x,y]:=hg ▸
 .inr ⟨_,0,rfl,by simp,fun i hi=>by
  have:i=0\/i=1:=by simp at hi;omega
  rcases this with rfl|rfl <;> simp⟩
theorem xg(pl nn:Int)(w:World):
 Calls prog 221 #[.agg #[Vi pl,Vi nn]] w fun e w'=>e=.returned (rq 1 pl nn 0 none none 0 0 0 0)/\Below w.heap.size w w':=by
 go_enter func221,ntmps221
 go_wp2;refine bodyPost_ret (v:=rq 1 pl nn 0 none none 0 0 0 0) (by simp [results,results221,go_sem]) rfl ?_;exact ⟨rfl,ak (aa _ _) (aa _ _)⟩
theorem xh(pl nn:Int)(w:World):
 Calls prog 222 #[.agg #[Vi pl,Vi nn]] w fun e w'=>e=.returned (rq 2 pl nn 0 none none 0 0 0 0)/\Below w.heap.size w w':=by
 go_enter func222,ntmps222
 go_wp2;refine bodyPost_ret (v:=rq 2 pl nn 0 none none 0 0 0 0) (by simp [results,results222,go_sem]) rfl ?_;exact ⟨rfl,ak (aa _ _) (aa _ _)⟩
theorem xj(pl nn:Int)(w:World):
 Calls prog 223 #[.agg #[Vi pl,Vi nn]] w fun e w'=>e=.returned (rq 3 pl nn 0 none none 0 0 0 0)/\Below w.heap.size w w':=by
 go_enter func223,ntmps223
 go_wp2;refine bodyPost_ret (v:=rq 3 pl nn 0 none none 0 0 0 0) (by simp [results,results223,go_sem]) rfl ?_;exact ⟨rfl,ak (aa _ _) (aa _ _)⟩
theorem xk(pl nn:Int)(w:World):
 Calls prog 224 #[.agg #[Vi pl,Vi nn]] w fun e w'=>e=.returned (rq 4 pl nn 0 none none 0 0 0 0)/\Below w.heap.size w w':=by
 go_enter func224,ntmps224
 go_wp2;refine bodyPost_ret (v:=rq 4 pl nn 0 none none 0 0 0 0) (by simp [results,results224,go_sem]) rfl ?_;exact ⟨rfl,ak (aa _ _) (aa _ _)⟩
theorem xl(pl:Int)(x:Bool)(w:World):
 Calls prog 225 #[.agg #[Vi pl,.bool x]] w fun e w'=>e=.returned (rq 5 pl 0 0 none (some ⟨w.heap.size+1+1,0,none⟩) 0 1 0 1)/\be w' (some ⟨w.heap.size+1+1,0,none⟩) [x]/\Below w.heap.size w w':=by
 go_enter func225,ntmps225
 go_wp2;refine bodyPost_ret (v:=rq 5 pl 0 0 none (some ⟨w.heap.size+1+1,0,none⟩) 0 1 0 1) (by simp [results,results225,go_sem]) rfl ?_;exact ⟨rfl,sE _ x (by simp),ak (ak (aa _ _) (aa _ _)) (aa _ _)⟩
theorem xm(pl x:Int)(w:World):
 Calls prog 226 #[.agg #[Vi pl,Vi x]] w fun e w'=>e=.returned (rq 6 pl 0 0 (some ⟨w.heap.size+1+1,0,none⟩) none 1 0 1 0)/\aZ w' (some ⟨w.heap.size+1+1,0,none⟩) [x]/\Below w.heap.size w w':=by
 go_enter func226,ntmps226
 go_wp2;refine bodyPost_ret (v:=rq 6 pl 0 0 (some ⟨w.heap.size+1+1,0,none⟩) none 1 0 1 0) (by simp [results,results226,go_sem]) rfl ?_;exact ⟨rfl,sF _ x (by simp),ak (ak (aa _ _) (aa _ _)) (aa _ _)⟩
theorem wg(pl:Int)(a2:OA)(l2 c2:Nat)(w:World):
 Calls prog 227 #[.agg #[Vi pl,.slice a2 l2 c2]] w fun e w'=>e=.returned (rq 15 pl 0 0 none a2 0 l2 0 c2)/\Below w.heap.size w w':=by
 go_enter func227,ntmps227
 go_wp2;refine bodyPost_ret (v:=rq 15 pl 0 0 none a2 0 l2 0 c2) (by simp [results,results227,go_sem]) rfl ?_;exact ⟨rfl,ak (aa _ _) (aa _ _)⟩
theorem wh(pl:Int)(a1:OA)(l1 c1:Nat)(w:World):
 Calls prog 228 #[.agg #[Vi pl,.slice a1 l1 c1]] w fun e w'=>e=.returned (rq 16 pl 0 0 a1 none l1 0 c1 0)/\Below w.heap.size w w':=by
 go_enter func228,ntmps228
 go_wp2;refine bodyPost_ret (v:=rq 16 pl 0 0 a1 none l1 0 c1 0) (by simp [results,results228,go_sem]) rfl ?_;exact ⟨rfl,ak (aa _ _) (aa _ _)⟩
theorem wk(pl x y:Int)(w:World):
 Calls prog 229 #[.agg #[Vi pl,Vi x,Vi y]] w fun e w'=>e=.returned (rq 22 pl 0 0 (some ⟨w.heap.size+1+1,0,none⟩) none 2 0 2 0)/\aZ w' (some ⟨w.heap.size+1+1,0,none⟩) [x,y]/\Below w.heap.size w w':=by
 go_enter func229,ntmps229
 go_wp2;refine bodyPost_ret (v:=rq 22 pl 0 0 (some ⟨w.heap.size+1+1,0,none⟩) none 2 0 2 0) (by simp [results,results229,go_sem]) rfl ?_;exact ⟨rfl,sG _ x y (by simp),ak (ak (aa _ _) (aa _ _)) (aa _ _)⟩
theorem wl(pl nn wa:Int)(a1:OA)(l1 c1:Nat)(w:World):
 Calls prog 230 #[.agg #[Vi pl,Vi nn,Vi wa,.slice a1 l1 c1]] w fun e w'=>e=.returned (rq 23 pl nn wa a1 none l1 0 c1 0)/\Below w.heap.size w w':=by
 go_enter func230,ntmps230
 go_wp2;refine bodyPost_ret (v:=rq 23 pl nn wa a1 none l1 0 c1 0) (by simp [results,results230,go_sem]) rfl ?_;exact ⟨rfl,ak (aa _ _) (aa _ _)⟩
theorem fx(kd pl nn wa nn' wa':Int)(a1 a2 a1' a2':OA)(l1 l2 c1 c2 l1' l2' c1' c2':Nat)(w:World)(hne:¬ nn=nn'):
 Calls prog 149 #[rq kd pl nn wa a1 a2 l1 l2 c1 c2,rq kd pl nn' wa' a1' a2' l1' l2' c1' c2'] w fun e w'=>e=.returned (.bool false)/\Below w.heap.size w w':=by
 obtain ⟨W0,hW0'⟩:∃ W0,W0=(w.alloc (.cells #[Vi kd,Vi pl,Vi nn,.slice a1 l1 c1,.slice a2 l2 c2,Vi wa] 86)).alloc (.cells #[Vi kd,Vi pl,Vi nn',.slice a1' l1' c1',.slice a2' l2' c2',Vi wa'] 86):=⟨_,rfl⟩
 have hW0:Hid (W0=_):=hW0';have B0:Below w.heap.size w W0:=by rw [hW0'];exact ak (aa w _) (aa _ _)
 have X0:ae W0 w.heap.size 86 #[Vi kd,Vi pl,Vi nn,.slice a1 l1 c1,.slice a2 l2 c2,Vi wa]:=by rw [hW0'];exact (ae.new w _ _).below (aa _ _)
 have Y0:ae W0 (w.heap.size+1) 86 #[Vi kd,Vi pl,Vi nn',.slice a1' l1' c1',.slice a2' l2' c2',Vi wa']:=by
  rw [hW0'];have:=ae.new (w.alloc (.cells #[Vi kd,Vi pl,Vi nn,.slice a1 l1 c1,.slice a2 l2 c2,Vi wa] 86)) #[Vi kd,Vi pl,Vi nn',.slice a1' l1' c1',.slice a2' l2' c2',Vi wa'] 86;simpa using this
 obtain ⟨x0,x1,x2,x3,x4,x5⟩:=X0.six;obtain ⟨y0,y1,y2,y3,y4,y5⟩:=Y0.six;clear hW0';go_enter func149,ntmps149
 go_upto_region 1 with fail
 rw [<- hW0.out];go_wp2;go_ret;exact ⟨rfl,B0⟩
theorem dn(kd pl nn wa nn' wa':Int)(a1 a2 a1' a2':OA)(l1 l2 c1 c2 l1' l2' c1' c2':Nat)(w:World)(hn:nn'=nn)(hne:¬ wa=wa'):
 Calls prog 149 #[rq kd pl nn wa a1 a2 l1 l2 c1 c2,rq kd pl nn' wa' a1' a2' l1' l2' c1' c2'] w fun e w'=>e=.returned (.bool false)/\Below w.heap.size w w':=by
 obtain ⟨W0,hW0'⟩:∃ W0,W0=(w.alloc (.cells #[Vi kd,Vi pl,Vi nn,.slice a1 l1 c1,.slice a2 l2 c2,Vi wa] 86)).alloc (.cells #[Vi kd,Vi pl,Vi nn',.slice a1' l1' c1',.slice a2' l2' c2',Vi wa'] 86):=⟨_,rfl⟩
 have hW0:Hid (W0=_):=hW0';have B0:Below w.heap.size w W0:=by rw [hW0'];exact ak (aa w _) (aa _ _)
 have X0:ae W0 w.heap.size 86 #[Vi kd,Vi pl,Vi nn,.slice a1 l1 c1,.slice a2 l2 c2,Vi wa]:=by rw [hW0'];exact (ae.new w _ _).below (aa _ _)
 have Y0:ae W0 (w.heap.size+1) 86 #[Vi kd,Vi pl,Vi nn',.slice a1' l1' c1',.slice a2' l2' c2',Vi wa']:=by
  rw [hW0'];have:=ae.new (w.alloc (.cells #[Vi kd,Vi pl,Vi nn,.slice a1 l1 c1,.slice a2 l2 c2,Vi wa] 86)) #[Vi kd,Vi pl,Vi nn',.slice a1' l1' c1',.slice a2' l2' c2',Vi wa'] 86;simpa using this
 obtain ⟨x0,x1,x2,x3,x4,x5⟩:=X0.six;obtain ⟨y0,y1,y2,y3,y4,y5⟩:=Y0.six;subst hn;clear hW0';go_enter func149,ntmps149
 go_upto_region 1 with fail
 rw [<- hW0.out];go_wp2;go_ret;exact ⟨rfl,B0⟩
theorem eL(kd pl nn wa nn' wa':Int)(a1 a2 a1' a2':OA)(l1 l2 c1 c2 l1' l2' c1' c2':Nat)(w:World)(hn:nn'=nn)(hw:wa'=wa)(hne:¬ (l1:Int)=(l1':Int))(h1:l1<= 20000000)(h1':l1'<= 20000000):
 Calls prog 149 #[rq kd pl nn wa a1 a2 l1 l2 c1 c2,rq kd pl nn' wa' a1' a2' l1' l2' c1' c2'] w fun e w'=>e=.returned (.bool false)/\Below w.heap.size w w':=by
 obtain ⟨W0,hW0'⟩:∃ W0,W0=(w.alloc (.cells #[Vi kd,Vi pl,Vi nn,.slice a1 l1 c1,.slice a2 l2 c2,Vi wa] 86)).alloc (.cells #[Vi kd,Vi pl,Vi nn',.slice a1' l1' c1',.slice a2' l2' c2',Vi wa'] 86):=⟨_,rfl⟩
 have hW0:Hid (W0=_):=hW0';have B0:Below w.heap.size w W0:=by rw [hW0'];exact ak (aa w _) (aa _ _)
 have X0:ae W0 w.heap.size 86 #[Vi kd,Vi pl,Vi nn,.slice a1 l1 c1,.slice a2 l2 c2,Vi wa]:=by rw [hW0'];exact (ae.new w _ _).below (aa _ _)
 have Y0:ae W0 (w.heap.size+1) 86 #[Vi kd,Vi pl,Vi nn',.slice a1' l1' c1',.slice a2' l2' c2',Vi wa']:=by
  rw [hW0'];have:=ae.new (w.alloc (.cells #[Vi kd,Vi pl,Vi nn,.slice a1 l1 c1,.slice a2 l2 c2,Vi wa] 86)) #[Vi kd,Vi pl,Vi nn',.slice a1' l1' c1',.slice a2' l2' c2',Vi wa'] 86;simpa using this
 obtain ⟨x0,x1,x2,x3,x4,x5⟩:=X0.six;obtain ⟨y0,y1,y2,y3,y4,y5⟩:=Y0.six;subst hn hw;clear hW0';go_enter func149,ntmps149
 go_upto_region 1 with fail
 rw [<- hW0.out];go_wp2_with fail
 refine (f8 _ _ _ _ _ _ _ hne h1 h1').mono ?_;rintro e w1 ⟨rfl,b'⟩;go_wp2;go_ret;exact ⟨rfl,ak B0 b'⟩
theorem dG(kd pl nn wa nn' wa':Int)(a1 a2 a1' a2':OA)(l1 l2 c1 c2 l1' l2' c1' c2':Nat)(w:World)(hn:nn'=nn)(hw:wa'=wa)(ws:List Int)(h1:l1=ws.length)(h1':l1'=ws.length)(s1:aZ w a1 ws)(s1':aZ w a1' ws)(hl1:ws.length<= 2000000)(hne:¬ (l2:Int)=(l2':Int))(h2:l2<= 20000000)(h2':l2'<= 20000000):
 Calls prog 149 #[rq kd pl nn wa a1 a2 l1 l2 c1 c2,rq kd pl nn' wa' a1' a2' l1' l2' c1' c2'] w fun e w'=>e=.returned (.bool false)/\Below w.heap.size w w':=by
 obtain ⟨W0,hW0'⟩:∃ W0,W0=(w.alloc (.cells #[Vi kd,Vi pl,Vi nn,.slice a1 l1 c1,.slice a2 l2 c2,Vi wa] 86)).alloc (.cells #[Vi kd,Vi pl,Vi nn',.slice a1' l1' c1',.slice a2' l2' c2',Vi wa'] 86):=⟨_,rfl⟩
 have hW0:Hid (W0=_):=hW0';have B0:Below w.heap.size w W0:=by rw [hW0'];exact ak (aa w _) (aa _ _)
 have X0:ae W0 w.heap.size 86 #[Vi kd,Vi pl,Vi nn,.slice a1 l1 c1,.slice a2 l2 c2,Vi wa]:=by rw [hW0'];exact (ae.new w _ _).below (aa _ _)
 have Y0:ae W0 (w.heap.size+1) 86 #[Vi kd,Vi pl,Vi nn',.slice a1' l1' c1',.slice a2' l2' c2',Vi wa']:=by
  rw [hW0'];have:=ae.new (w.alloc (.cells #[Vi kd,Vi pl,Vi nn,.slice a1 l1 c1,.slice a2 l2 c2,Vi wa] 86)) #[Vi kd,Vi pl,Vi nn',.slice a1' l1' c1',.slice a2' l2' c2',Vi wa'] 86;simpa using this
 obtain ⟨x0,x1,x2,x3,x4,x5⟩:=X0.six;obtain ⟨y0,y1,y2,y3,y4,y5⟩:=Y0.six;subst hn hw;have HH:Hid (l1=ws.length/\l1'=ws.length/\aZ W0 a1 ws/\aZ W0 a1' ws):=⟨h1,h1',s1.below B0,s1'.below B0⟩
 clear h1 h1' s1 s1';clear hW0';go_enter func149,ntmps149
 go_upto_region 1 with fail
 rw [<- hW0.out];go_wp2_with fail
 refine (fW _ _ _ _ _ _ ws _ HH.out.1 HH.out.2.1 HH.out.2.2.1 HH.out.2.2.2 hl1).mono ?_;rintro e w1 ⟨rfl,b'⟩;have b1:=ak B0 b';obtain ⟨x0,x1,x2,x3,x4,x5⟩:=(X0.below b').six;obtain ⟨y0,y1,y2,y3,y4,y5⟩:=(Y0.below b').six;go_wp2_with fail
 refine (fN _ _ _ _ _ _ _ hne h2 h2').mono ?_;rintro e w2 ⟨rfl,b2'⟩;go_wp2;go_ret;exact ⟨rfl,ak b1 b2'⟩
theorem cY(kd pl nn wa nn' wa':Int)(a1 a2 a1' a2':OA)(l1 l2 c1 c2 l1' l2' c1' c2':Nat)(w:World)(hn:nn'=nn)(hw:wa'=wa)(ws:List Int)(h1:l1=ws.length)(h1':l1'=ws.length)(s1:aZ w a1 ws)(s1':aZ w a1' ws)(hl1:ws.length<= 2000000)(bs:List Bool)(h2:l2=bs.length)(h2':l2'=bs.length)(s2:be w a2 bs)(s2':be w a2' bs)(hl2:bs.length<= 2000000):
 Calls prog 149 #[rq kd pl nn wa a1 a2 l1 l2 c1 c2,rq kd pl nn' wa' a1' a2' l1' l2' c1' c2'] w fun e w'=>e=.returned (.bool true)/\Below w.heap.size w w':=by
 obtain ⟨W0,hW0'⟩:∃ W0,W0=(w.alloc (.cells #[Vi kd,Vi pl,Vi nn,.slice a1 l1 c1,.slice a2 l2 c2,Vi wa] 86)).alloc (.cells #[Vi kd,Vi pl,Vi nn',.slice a1' l1' c1',.slice a2' l2' c2',Vi wa'] 86):=⟨_,rfl⟩
 have hW0:Hid (W0=_):=hW0';have B0:Below w.heap.size w W0:=by rw [hW0'];exact ak (aa w _) (aa _ _)
 have X0:ae W0 w.heap.size 86 #[Vi kd,Vi pl,Vi nn,.slice a1 l1 c1,.slice a2 l2 c2,Vi wa]:=by rw [hW0'];exact (ae.new w _ _).below (aa _ _)
 have Y0:ae W0 (w.heap.size+1) 86 #[Vi kd,Vi pl,Vi nn',.slice a1' l1' c1',.slice a2' l2' c2',Vi wa']:=by
  rw [hW0'];have:=ae.new (w.alloc (.cells #[Vi kd,Vi pl,Vi nn,.slice a1 l1 c1,.slice a2 l2 c2,Vi wa] 86)) #[Vi kd,Vi pl,Vi nn',.slice a1' l1' c1',.slice a2' l2' c2',Vi wa'] 86;simpa using this
 obtain ⟨x0,x1,x2,x3,x4,x5⟩:=X0.six;obtain ⟨y0,y1,y2,y3,y4,y5⟩:=Y0.six;subst hn hw;have HH:Hid (l1=ws.length/\l1'=ws.length/\aZ W0 a1 ws/\aZ W0 a1' ws):=⟨h1,h1',s1.below B0,s1'.below B0⟩
 clear h1 h1' s1 s1';have HB:Hid (l2=bs.length/\l2'=bs.length/\be W0 a2 bs/\be W0 a2' bs):=⟨h2,h2',s2.below B0,s2'.below B0⟩
 clear h2 h2' s2 s2';clear hW0';go_enter func149,ntmps149
 go_upto_region 1 with fail
 rw [<- hW0.out];go_wp2_with fail
 refine (fW _ _ _ _ _ _ ws _ HH.out.1 HH.out.2.1 HH.out.2.2.1 HH.out.2.2.2 hl1).mono ?_;rintro e w1 ⟨rfl,b'⟩;have b1:=ak B0 b';obtain ⟨x0,x1,x2,x3,x4,x5⟩:=(X0.below b').six;obtain ⟨y0,y1,y2,y3,y4,y5⟩:=(Y0.below b').six;go_wp2_with fail
 refine (iw _ _ _ _ _ _ bs _ HB.out.1 HB.out.2.1 (HB.out.2.2.1.below b') (HB.out.2.2.2.below b') hl2).mono ?_;rintro e w2 ⟨rfl,b2'⟩;go_wp2;go_ret;exact ⟨rfl,ak b1 b2'⟩
theorem wo(v:Value)(w:World):(method 348 207 v "loop.example/g00129/impl.req").run prog w=.ok (221,v) w:=by kernel_rfl
theorem uE(v:Value)(w:World):(callFunc 221 #[v]).run prog w=.ok (.enter 221 #[v]) w:=by kernel_rfl
theorem wv(v:Value)(w:World):(method 348 208 v "loop.example/g00129/impl.req").run prog w=.ok (222,v) w:=by kernel_rfl
theorem uF(v:Value)(w:World):(callFunc 222 #[v]).run prog w=.ok (.enter 222 #[v]) w:=by kernel_rfl
theorem ww(v:Value)(w:World):(method 348 209 v "loop.example/g00129/impl.req").run prog w=.ok (223,v) w:=by kernel_rfl
theorem uG(v:Value)(w:World):(callFunc 223 #[v]).run prog w=.ok (.enter 223 #[v]) w:=by kernel_rfl
theorem wz(v:Value)(w:World):(method 348 210 v "loop.example/g00129/impl.req").run prog w=.ok (224,v) w:=by kernel_rfl
theorem uH(v:Value)(w:World):(callFunc 224 #[v]).run prog w=.ok (.enter 224 #[v]) w:=by kernel_rfl
theorem wD(v:Value)(w:World):(method 348 212 v "loop.example/g00129/impl.req").run prog w=.ok (225,v) w:=by kernel_rfl
theorem uI(v:Value)(w:World):(callFunc 225 #[v]).run prog w=.ok (.enter 225 #[v]) w:=by kernel_rfl
theorem wE(v:Value)(w:World):(method 348 214 v "loop.example/g00129/impl.req").run prog w=.ok (226,v) w:=by kernel_rfl
theorem uJ(v:Value)(w:World):(callFunc 226 #[v]).run prog w=.ok (.enter 226 #[v]) w:=by kernel_rfl
theorem uK(v:Value)(w:World):(method 348 216 v "loop.example/g00129/impl.req").run prog w=.ok (227,v) w:=by kernel_rfl
theorem sH(v:Value)(w:World):(callFunc 227 #[v]).run prog w=.ok (.enter 227 #[v]) w:=by kernel_rfl
theorem uL(v:Value)(w:World):(method 348 218 v "loop.example/g00129/impl.req").run prog w=.ok (228,v) w:=by kernel_rfl
theorem sI(v:Value)(w:World):(callFunc 228 #[v]).run prog w=.ok (.enter 228 #[v]) w:=by kernel_rfl
theorem uM(v:Value)(w:World):(method 348 220 v "loop.example/g00129/impl.req").run prog w=.ok (229,v) w:=by kernel_rfl
theorem sJ(v:Value)(w:World):(callFunc 229 #[v]).run prog w=.ok (.enter 229 #[v]) w:=by kernel_rfl
theorem uN(v:Value)(w:World):(method 348 222 v "loop.example/g00129/impl.req").run prog w=.ok (230,v) w:=by kernel_rfl
theorem sK(v:Value)(w:World):(callFunc 230 #[v]).run prog w=.ok (.enter 230 #[v]) w:=by kernel_rfl
theorem sL{ws:List Int}(h:ws.length=1):ce ws=aB (ws.getD 0 0) 0 65535:=by
 unfold ce aB;rw [Bool.eq_iff_iff];simp only [decide_eq_true_eq];constructor
 ·intro hh;exact hh 0 (by omega)
 intro hh k hk;obtain rfl:k=0:=by omega
 exact hh
theorem sM{ws:List Int}(h:ws.length=2):ce ws=(aB (ws.getD 0 0) 0 65535 && aB (ws.getD 1 0) 0 65535):=by
 unfold ce aB;rw [Bool.eq_iff_iff];simp only [decide_eq_true_eq,Bool.and_eq_true];constructor
 ·intro hh;exact ⟨hh 0 (by omega),hh 1 (by omega)⟩
 intro hh k hk;obtain rfl|rfl:k=0\/k=1:=by omega
 ·exact hh.1
 exact hh.2
theorem sN{bs:List Bool}(h:bs.length=1):bs=[bs.getD 0 false]:=by
 match bs,h with
 | [x],_=>rfl
theorem m6{ws:List Int}(h:ws.length=1):ws=[ws.getD 0 0]:=by
 match ws,h with
 | [x],_=>rfl
theorem m7{ws:List Int}(h:ws.length=2):ws=[ws.getD 0 0,ws.getD 1 0]:=by
 match ws,h with
 | [x,y],_=>rfl
section
variable (pl nn wa:Int) (ws:List Int) (l1 l2:Nat) (h1:l1=ws.length)
include pl nn wa ws l1 l2 h1
theorem xn:bN 1 pl nn wa ws l1 l2=(bX pl nn 2000 && (decide (wa=0) && (decide (l1=0) && (decide (l2=0))))):=by
 by_cases hl:l1=0
 ·have hW:ce ws=true:=dS (fun k hk=>by omega)
  rw [Bool.eq_iff_iff];simp [bN,dO,bR,aB,dr,bX,hW,hl];omega
 rw [Bool.eq_iff_iff];simp [bN,dO,bR,hl]
theorem xo:bN 2 pl nn wa ws l1 l2=(bX pl nn 2000 && (decide (wa=0) && (decide (l1=0) && (decide (l2=0))))):=by
 by_cases hl:l1=0
 ·have hW:ce ws=true:=dS (fun k hk=>by omega)
  rw [Bool.eq_iff_iff];simp [bN,dO,bR,aB,dr,bX,hW,hl];omega
 rw [Bool.eq_iff_iff];simp [bN,dO,bR,hl]
theorem xq:bN 3 pl nn wa ws l1 l2=(bX pl nn 125 && (decide (wa=0) && (decide (l1=0) && (decide (l2=0))))):=by
 by_cases hl:l1=0
 ·have hW:ce ws=true:=dS (fun k hk=>by omega)
  rw [Bool.eq_iff_iff];simp [bN,dO,bR,aB,dr,bX,hW,hl];omega
 rw [Bool.eq_iff_iff];simp [bN,dO,bR,hl]
theorem xr:bN 4 pl nn wa ws l1 l2=(bX pl nn 125 && (decide (wa=0) && (decide (l1=0) && (decide (l2=0))))):=by
 by_cases hl:l1=0
 ·have hW:ce ws=true:=dS (fun k hk=>by omega)
  rw [Bool.eq_iff_iff];simp [bN,dO,bR,aB,dr,bX,hW,hl];omega
 rw [Bool.eq_iff_iff];simp [bN,dO,bR,hl]
theorem xt:bN 5 pl nn wa ws l1 l2=(decide (l2=1) && (aB pl 0 65535 && (decide (nn=0) && (decide (wa=0) && (decide (l1=0)))))):=by
 by_cases hl:l1=0
 ·have hW:ce ws=true:=dS (fun k hk=>by omega)
  rw [Bool.eq_iff_iff];simp [bN,dO,bR,aB,dr,bX,hW,hl];omega
 rw [Bool.eq_iff_iff];simp [bN,dO,bR,hl]
theorem xu:bN 6 pl nn wa ws l1 l2=(decide (l1=1) && (aB pl 0 65535 && (aB (ws.getD 0 0) 0 65535 && (decide (nn=0) && (decide (wa=0) && (decide (l2=0))))))):=by
 by_cases hl:l1=1
 ·rw [Bool.eq_iff_iff,bN,sL (by omega)];simp [bN,dO,bR,aB,dr,bX,hl];omega
 rw [Bool.eq_iff_iff];simp [bN,dO,bR,hl]
theorem wF:bN 15 pl nn wa ws l1 l2=(bX pl (l2:Int) 1968 && (decide (nn=0) && (decide (wa=0) && (decide (l1=0))))):=by
 by_cases hl:l1=0
 ·have hW:ce ws=true:=dS (fun k hk=>by omega)
  rw [Bool.eq_iff_iff];simp [bN,dO,bR,aB,dr,bX,hW,hl];omega
 rw [Bool.eq_iff_iff];simp [bN,dO,bR,hl]
theorem wG:bN 16 pl nn wa ws l1 l2=(bX pl (l1:Int) 123 && (ce ws && (decide (nn=0) && (decide (wa=0) && (decide (l2=0)))))):=by
 cases hW:ce ws
 ·simp [bN,hW]
 rw [Bool.eq_iff_iff];simp [bN,dO,bR,aB,dr,bX,hW];omega
theorem wH:bN 22 pl nn wa ws l1 l2=(decide (l1=2) && (aB pl 0 65535 && (aB (ws.getD 0 0) 0 65535 && (aB (ws.getD 1 0) 0 65535 && (decide (nn=0) && (decide (wa=0) && (decide (l2=0)))))))):=by
 by_cases hl:l1=2
 ·rw [Bool.eq_iff_iff,bN,sM (by omega)];simp [bN,dO,bR,aB,dr,bX,hl];omega
 rw [Bool.eq_iff_iff];simp [bN,dO,bR,hl]
theorem wI:bN 23 pl nn wa ws l1 l2=(bX pl nn 125 && (bX wa (l1:Int) 121 && (ce ws && (decide (l2=0))))):=by
 cases hW:ce ws
 ·simp [bN,hW]
 rw [Bool.eq_iff_iff];simp [bN,dO,bR,aB,dr,bX,hW];omega
end
theorem cJ(kd pl nn wa:Int)(a1 a2:OA)(l1 l2 c1 c2:Nat)(w:World)(q:Value)
 (hq:∀ u,Below w.heap.size w u->Calls prog 186 #[rq kd pl nn wa a1 a2 l1 l2 c1 c2] u fun e u'=>e=.returned q/\Below u.heap.size u u')
 (hi:∀ u,Below w.heap.size w u->Calls prog 187 #[q] u fun e u'=>e=.returned (.bool false)/\Below u.heap.size u u')
 :Calls prog 169 #[rq kd pl nn wa a1 a2 l1 l2 c1 c2] w fun e w'=>e=.returned .nilIface/\Below w.heap.size w w':=by
 obtain ⟨B0,X0⟩:=bx w #[Vi kd,Vi pl,Vi nn,.slice a1 l1 c1,.slice a2 l2 c2,Vi wa] 86;obtain ⟨x0,x1,x2,x3,x4,x5⟩:=X0.six;go_enter func169,ntmps169
 go_wp2_with fail
 refine (hq _ B0).mono ?_;rintro e w1 ⟨rfl,b'⟩;have B1:=ak B0 b';have Y:=X0.below b';clear X0 x0 x1 x2 x3 x4 x5 hq;go_upto_region 2 with fail
 refine wp_region_any (by kernel_rfl) ?_
 (try (change wpAny _ _ _ _ _ _ _ (World.drew _)))
 refine wpAny_ready (rs:=[0]) (by kernel_rfl) (by simp) ?_;refine AllReady.cons rfl (fun K hK=>?_) AllReady.nil;go_simp;refine hK _ _ ?_;clear hK K;refine wpAny_ready (rs:=[1]) (by kernel_rfl) (by simp) ?_;refine AllReady.cons rfl (fun K hK=>?_) AllReady.nil;go_simp;go_wp2_with (go_at_call 187;refine (hi _ (by first|exact B1|exact B1.drew)).mono ?_;rintro e w2 ⟨rfl,b2'⟩;have B2:=ak (by first|exact B1|exact B1.drew) b2';have Y2:=(Y.below Br.drew).below b2';clear b2' Y hi)
 try (refine hK _ _ ?_;clear hK K)
 obtain ⟨y0,y1,y2,y3,y4,y5⟩:=Y2.six;refine wpAny_ready (rs:=[2]) (by kernel_rfl) (by simp) ?_;refine AllReady.cons rfl (fun K hK=>?_) AllReady.nil;go_simp;refine hK _ _ ?_;clear hK K;refine wpAny_ready (rs:=[3,5]) (by kernel_rfl) (by simp) ?_;refine AllReady.cons rfl (fun K hK=>?_) ?_
 ·skip
  go_simp;refine hK _ _ ?_;clear hK K;refine wpAny_ready (rs:=[4,5]) (by kernel_rfl) (by simp) ?_;refine AllReady.cons rfl (fun K hK=>?_) ?_
  ·skip
   go_simp;refine hK _ _ ?_;clear hK K;refine wpAny_ready (rs:=[5]) (by kernel_rfl) (by simp) ?_;refine AllReady.cons rfl (fun K hK=>?_) AllReady.nil;go_simp;refine hK _ _ ?_;clear hK K;refine wpAny_ready (rs:=[6]) (by kernel_rfl) (by simp) ?_;refine AllReady.cons rfl (fun K hK=>?_) AllReady.nil;go_simp;refine hK _ _ ?_;clear hK K;refine wpAny_ready (rs:=[7]) (by kernel_rfl) (by simp) ?_;refine AllReady.cons rfl (fun K hK=>?_) AllReady.nil;go_simp;refine hK _ _ ?_;clear hK K;refine wpAny_done (by kernel_rfl) ?_ _;go_wp2;go_ret;exact ⟨rfl,B2⟩
  refine AllReady.cons rfl (fun K hK=>?_) AllReady.nil;go_simp;refine hK _ _ ?_;clear hK K;refine wpAny_ready (rs:=[4]) (by kernel_rfl) (by simp) ?_;refine AllReady.cons rfl (fun K hK=>?_) AllReady.nil;go_simp;refine hK _ _ ?_;clear hK K;refine wpAny_ready (rs:=[6]) (by kernel_rfl) (by simp) ?_;refine AllReady.cons rfl (fun K hK=>?_) AllReady.nil;go_simp;refine hK _ _ ?_;clear hK K;refine wpAny_ready (rs:=[7]) (by kernel_rfl) (by simp) ?_;refine AllReady.cons rfl (fun K hK=>?_) AllReady.nil;go_simp;refine hK _ _ ?_;clear hK K;refine wpAny_done (by kernel_rfl) ?_ _;go_wp2;go_ret;exact ⟨rfl,B2⟩
 refine AllReady.cons rfl (fun K hK=>?_) AllReady.nil;go_simp;refine hK _ _ ?_;clear hK K;refine wpAny_ready (rs:=[3]) (by kernel_rfl) (by simp) ?_;refine AllReady.cons rfl (fun K hK=>?_) AllReady.nil;go_simp;refine hK _ _ ?_;clear hK K;refine wpAny_ready (rs:=[4]) (by kernel_rfl) (by simp) ?_;refine AllReady.cons rfl (fun K hK=>?_) AllReady.nil;go_simp;refine hK _ _ ?_;clear hK K;refine wpAny_ready (rs:=[6]) (by kernel_rfl) (by simp) ?_;refine AllReady.cons rfl (fun K hK=>?_) AllReady.nil;go_simp;refine hK _ _ ?_;clear hK K;refine wpAny_ready (rs:=[7]) (by kernel_rfl) (by simp) ?_;refine AllReady.cons rfl (fun K hK=>?_) AllReady.nil;go_simp;refine hK _ _ ?_;clear hK K;refine wpAny_done (by kernel_rfl) ?_ _;go_wp2;go_ret;exact ⟨rfl,B2⟩
theorem en(kd pl nn wa:Int)(a1 a2:OA)(l1 l2 c1 c2:Nat)(w:World)(T:TypeId)(v:Value)(F:Nat)(bsm:Bool)
 (hq:∀ u,Below w.heap.size w u->Calls prog 186 #[rq kd pl nn wa a1 a2 l1 l2 c1 c2] u fun e u'=>e=.returned (.iface T v)/\Below u.heap.size u u')
 (hi:∀ u,Below w.heap.size w u->Calls prog 187 #[(.iface T v)] u fun e u'=>e=.returned (.bool true)/\Below u.heap.size u u')
 (hc:∀ u,(callFunc F #[v]).run prog u=.ok (.enter F #[v]) u)
 (hm:∀ u,(method 348 T v "loop.example/g00129/impl.req").run prog u=.ok (F,v) u)
 (hr:∀ u,Below w.heap.size w u->Calls prog F #[v] u fun e u'=>∃ x,e=.returned x/\Below u.heap.size u u'/\Calls prog 149 #[x,rq kd pl nn wa a1 a2 l1 l2 c1 c2] u' fun e u3=>e=.returned (.bool bsm)/\Below u'.heap.size u' u3):
 Calls prog 169 #[rq kd pl nn wa a1 a2 l1 l2 c1 c2] w fun e w'=>e=.returned (bif bsm then .iface T v else .nilIface)/\Below w.heap.size w w':=by
 obtain ⟨B0,X0⟩:=bx w #[Vi kd,Vi pl,Vi nn,.slice a1 l1 c1,.slice a2 l2 c2,Vi wa] 86;obtain ⟨x0,x1,x2,x3,x4,x5⟩:=X0.six;go_enter func169,ntmps169
 go_wp2_with fail
 refine (hq _ B0).mono ?_;rintro e w1 ⟨rfl,b'⟩;have B1:=ak B0 b';have Y:=X0.below b';clear X0 x0 x1 x2 x3 x4 x5 hq;go_upto_region 2 with fail
 refine wp_region_any (by kernel_rfl) ?_
 (try (change wpAny _ _ _ _ _ _ _ (World.drew _)))
 refine wpAny_ready (rs:=[0]) (by kernel_rfl) (by simp) ?_;refine AllReady.cons rfl (fun K hK=>?_) AllReady.nil;go_simp;refine hK _ _ ?_;clear hK K;refine wpAny_ready (rs:=[1]) (by kernel_rfl) (by simp) ?_;refine AllReady.cons rfl (fun K hK=>?_) AllReady.nil;go_simp;go_wp2_with (go_at_call 187;refine (hi _ (by first|exact B1|exact B1.drew)).mono ?_;rintro e w2 ⟨rfl,b2'⟩;have B2:=ak (by first|exact B1|exact B1.drew) b2';have Y2:=(Y.below Br.drew).below b2';clear b2' Y hi)
 try (refine hK _ _ ?_;clear hK K)
 obtain ⟨y0,y1,y2,y3,y4,y5⟩:=Y2.six;refine wpAny_ready (rs:=[2]) (by kernel_rfl) (by simp) ?_;refine AllReady.cons rfl (fun K hK=>?_) AllReady.nil;go_simp;refine hK _ _ ?_;clear hK K;refine wpAny_ready (rs:=[3,5]) (by kernel_rfl) (by simp) ?_;refine AllReady.cons rfl (fun K hK=>?_) ?_
 ·skip
  go_simp;refine hK _ _ ?_;clear hK K;refine wpAny_ready (rs:=[4,5]) (by kernel_rfl) (by simp) ?_;refine AllReady.cons rfl (fun K hK=>?_) ?_
  ·skip
   go_simp;go_wp2_with (refine (hr _ B2).mono ?_;rintro e w3 ⟨x,rfl,b3',hs⟩;have B3:=ak B2 b3';have Y3:=Y2.below b3';clear b3' Y2 y0 y1 y2 y3 y4 y5)
   try (refine hK _ _ ?_;clear hK K)
   obtain ⟨y0,y1,y2,y3,y4,y5⟩:=Y3.six;refine wpAny_ready (rs:=[5]) (by kernel_rfl) (by simp) ?_;refine AllReady.cons rfl (fun K hK=>?_) AllReady.nil;go_simp;refine hK _ _ ?_;clear hK K;refine wpAny_ready (rs:=[6]) (by kernel_rfl) (by simp) ?_;refine AllReady.cons rfl (fun K hK=>?_) AllReady.nil;go_simp;go_wp2_with (go_at_call 149;refine hs.mono ?_;rintro e w4 ⟨rfl,b4'⟩;have B4:=ak B3 b4';clear b4' hs)
   try (refine hK _ _ ?_;clear hK K)
   refine wpAny_ready (rs:=[7]) (by kernel_rfl) (by simp) ?_;refine AllReady.cons rfl (fun K hK=>?_) AllReady.nil;go_simp;refine hK _ _ ?_;clear hK K;refine wpAny_done (by kernel_rfl) ?_ _;cases bsm
   ·go_wp2
    go_ret;exact ⟨rfl,B4⟩
   go_wp2;go_ret;exact ⟨rfl,B4⟩
  refine AllReady.cons rfl (fun K hK=>?_) AllReady.nil;go_simp;refine hK _ _ ?_;clear hK K;refine wpAny_ready (rs:=[4]) (by kernel_rfl) (by simp) ?_;refine AllReady.cons rfl (fun K hK=>?_) AllReady.nil;go_simp;go_wp2_with (refine (hr _ B2).mono ?_;rintro e w3 ⟨x,rfl,b3',hs⟩;have B3:=ak B2 b3';have Y3:=Y2.below b3';clear b3' Y2 y0 y1 y2 y3 y4 y5)
  try (refine hK _ _ ?_;clear hK K)
  obtain ⟨y0,y1,y2,y3,y4,y5⟩:=Y3.six;refine wpAny_ready (rs:=[6]) (by kernel_rfl) (by simp) ?_;refine AllReady.cons rfl (fun K hK=>?_) AllReady.nil;go_simp;go_wp2_with (go_at_call 149;refine hs.mono ?_;rintro e w4 ⟨rfl,b4'⟩;have B4:=ak B3 b4';clear b4' hs)
  try (refine hK _ _ ?_;clear hK K)
  refine wpAny_ready (rs:=[7]) (by kernel_rfl) (by simp) ?_;refine AllReady.cons rfl (fun K hK=>?_) AllReady.nil;go_simp;refine hK _ _ ?_;clear hK K;refine wpAny_done (by kernel_rfl) ?_ _;cases bsm
  ·go_wp2
   go_ret;exact ⟨rfl,B4⟩
  go_wp2;go_ret;exact ⟨rfl,B4⟩
 refine AllReady.cons rfl (fun K hK=>?_) AllReady.nil;go_simp;refine hK _ _ ?_;clear hK K;refine wpAny_ready (rs:=[3]) (by kernel_rfl) (by simp) ?_;refine AllReady.cons rfl (fun K hK=>?_) AllReady.nil;go_simp;refine hK _ _ ?_;clear hK K;refine wpAny_ready (rs:=[4]) (by kernel_rfl) (by simp) ?_;refine AllReady.cons rfl (fun K hK=>?_) AllReady.nil;go_simp;go_wp2_with (refine (hr _ B2).mono ?_;rintro e w3 ⟨x,rfl,b3',hs⟩;have B3:=ak B2 b3';have Y3:=Y2.below b3';clear b3' Y2 y0 y1 y2 y3 y4 y5)
 try (refine hK _ _ ?_;clear hK K)
 obtain ⟨y0,y1,y2,y3,y4,y5⟩:=Y3.six;refine wpAny_ready (rs:=[6]) (by kernel_rfl) (by simp) ?_;refine AllReady.cons rfl (fun K hK=>?_) AllReady.nil;go_simp;go_wp2_with (go_at_call 149;refine hs.mono ?_;rintro e w4 ⟨rfl,b4'⟩;have B4:=ak B3 b4';clear b4' hs)
 try (refine hK _ _ ?_;clear hK K)
 refine wpAny_ready (rs:=[7]) (by kernel_rfl) (by simp) ?_;refine AllReady.cons rfl (fun K hK=>?_) AllReady.nil;go_simp;refine hK _ _ ?_;clear hK K;refine wpAny_done (by kernel_rfl) ?_ _;cases bsm
 ·go_wp2
  go_ret;exact ⟨rfl,B4⟩
 go_wp2;go_ret;exact ⟨rfl,B4⟩
section
variable (pl nn wa:Int) (a1 a2:OA) (l1 l2 c1 c2:Nat) (ws:List Int) (bs:List Bool) (w:World) (h1:l1=ws.length) (h2:l2=bs.length) (s1:aZ w a1 ws) (s2:be w a2 bs) (hl1:ws.length<= 2000000) (hl2:bs.length<= 2000000) (b:Bool)
include pl nn wa a1 a2 l1 l2 c1 c2 ws bs w h1 h2 s1 s2 hl1 hl2 b
theorem ky(hb:bN 1 pl nn wa ws l1 l2=b):
 Calls prog 169 #[rq 1 pl nn wa a1 a2 l1 l2 c1 c2] w fun e w'=>e=.returned (bif b then .iface 207 (.agg #[Vi pl,Vi nn]) else .nilIface)/\Below w.heap.size w w':=by
 subst hb;rw [xn _ _ _ _ _ _ h1];rw [show (bX pl nn 2000 && (decide (wa=0) && (decide (l1=0) && (decide (l2=0)))))=((bX pl nn 2000) && (decide (wa=0) && (decide (l1=0) && (decide (l2=0))))) from by simp only [Bool.and_assoc]];cases hI:(bX pl nn 2000)
 ·rw [Bool.false_and]
  exact cJ 1 pl nn wa a1 a2 l1 l2 c1 c2 w _ (fun u hu=>jg pl nn wa a1 a2 l1 l2 c1 c2 u) (fun u hu=>l8 _ _ u _ hI)
 rw [Bool.true_and];refine en 1 pl nn wa a1 a2 l1 l2 c1 c2 w _ _ 221 _ (fun u hu=>jg pl nn wa a1 a2 l1 l2 c1 c2 u) (fun u hu=>l8 _ _ u _ hI) (uE _) (wo _) (fun u hu=>(xg _ _ u).mono ?_);rintro e u' ⟨rfl,bu⟩;refine ⟨_,rfl,bu,?_⟩
 have hu2:=ak hu bu;by_cases hww:wa=0
 rotate_left
 ·rw [decide_eq_false hww]
  exact dn _ _ _ _ _ _ _ _ _ _ _ _ _ _ _ _ _ _ _ rfl (fun h=>hww h.symm)
 rw [decide_eq_true hww,Bool.true_and];by_cases hll1:l1=0
 rotate_left
 ·rw [decide_eq_false hll1]
  exact eL _ _ _ _ _ _ _ _ _ _ _ _ _ _ _ _ _ _ _ rfl hww (by omega) (by omega) (by omega)
 rw [decide_eq_true hll1,Bool.true_and];by_cases hll2:l2=0
 rotate_left
 ·rw [decide_eq_false hll2]
  exact dG _ _ _ _ _ _ _ _ _ _ _ _ _ _ _ _ _ _ _ rfl hww [] rfl hll1 (.inl rfl) (.inl rfl) (by simp) (by omega) (by omega) (by omega)
 rw [decide_eq_true hll2];exact cY _ _ _ _ _ _ _ _ _ _ _ _ _ _ _ _ _ _ _ rfl hww [] rfl hll1 (.inl rfl) (.inl rfl) (by simp) [] rfl hll2 (.inl rfl) (.inl rfl) (by simp)
theorem kz(hb:bN 2 pl nn wa ws l1 l2=b):
 Calls prog 169 #[rq 2 pl nn wa a1 a2 l1 l2 c1 c2] w fun e w'=>e=.returned (bif b then .iface 208 (.agg #[Vi pl,Vi nn]) else .nilIface)/\Below w.heap.size w w':=by
 subst hb;rw [xo _ _ _ _ _ _ h1];rw [show (bX pl nn 2000 && (decide (wa=0) && (decide (l1=0) && (decide (l2=0)))))=((bX pl nn 2000) && (decide (wa=0) && (decide (l1=0) && (decide (l2=0))))) from by simp only [Bool.and_assoc]];cases hI:(bX pl nn 2000)
 ·rw [Bool.false_and]
  exact cJ 2 pl nn wa a1 a2 l1 l2 c1 c2 w _ (fun u hu=>jh pl nn wa a1 a2 l1 l2 c1 c2 u) (fun u hu=>ma _ _ u _ hI)
 rw [Bool.true_and];refine en 2 pl nn wa a1 a2 l1 l2 c1 c2 w _ _ 222 _ (fun u hu=>jh pl nn wa a1 a2 l1 l2 c1 c2 u) (fun u hu=>ma _ _ u _ hI) (uF _) (wv _) (fun u hu=>(xh _ _ u).mono ?_);rintro e u' ⟨rfl,bu⟩;refine ⟨_,rfl,bu,?_⟩
 have hu2:=ak hu bu;by_cases hww:wa=0
 rotate_left
 ·rw [decide_eq_false hww]
  exact dn _ _ _ _ _ _ _ _ _ _ _ _ _ _ _ _ _ _ _ rfl (fun h=>hww h.symm)
 rw [decide_eq_true hww,Bool.true_and];by_cases hll1:l1=0
 rotate_left
 ·rw [decide_eq_false hll1]
  exact eL _ _ _ _ _ _ _ _ _ _ _ _ _ _ _ _ _ _ _ rfl hww (by omega) (by omega) (by omega)
 rw [decide_eq_true hll1,Bool.true_and];by_cases hll2:l2=0
 rotate_left
 ·rw [decide_eq_false hll2]
  exact dG _ _ _ _ _ _ _ _ _ _ _ _ _ _ _ _ _ _ _ rfl hww [] rfl hll1 (.inl rfl) (.inl rfl) (by simp) (by omega) (by omega) (by omega)
 rw [decide_eq_true hll2];exact cY _ _ _ _ _ _ _ _ _ _ _ _ _ _ _ _ _ _ _ rfl hww [] rfl hll1 (.inl rfl) (.inl rfl) (by simp) [] rfl hll2 (.inl rfl) (.inl rfl) (by simp)
theorem kB(hb:bN 3 pl nn wa ws l1 l2=b):
 Calls prog 169 #[rq 3 pl nn wa a1 a2 l1 l2 c1 c2] w fun e w'=>e=.returned (bif b then .iface 209 (.agg #[Vi pl,Vi nn]) else .nilIface)/\Below w.heap.size w w':=by
 subst hb;rw [xq _ _ _ _ _ _ h1];rw [show (bX pl nn 125 && (decide (wa=0) && (decide (l1=0) && (decide (l2=0)))))=((bX pl nn 125) && (decide (wa=0) && (decide (l1=0) && (decide (l2=0))))) from by simp only [Bool.and_assoc]];cases hI:(bX pl nn 125)
 ·rw [Bool.false_and]
  exact cJ 3 pl nn wa a1 a2 l1 l2 c1 c2 w _ (fun u hu=>ji pl nn wa a1 a2 l1 l2 c1 c2 u) (fun u hu=>mc _ _ u _ hI)
 rw [Bool.true_and];refine en 3 pl nn wa a1 a2 l1 l2 c1 c2 w _ _ 223 _ (fun u hu=>ji pl nn wa a1 a2 l1 l2 c1 c2 u) (fun u hu=>mc _ _ u _ hI) (uG _) (ww _) (fun u hu=>(xj _ _ u).mono ?_);rintro e u' ⟨rfl,bu⟩;refine ⟨_,rfl,bu,?_⟩
 have hu2:=ak hu bu;by_cases hww:wa=0
 rotate_left
 ·rw [decide_eq_false hww]
  exact dn _ _ _ _ _ _ _ _ _ _ _ _ _ _ _ _ _ _ _ rfl (fun h=>hww h.symm)
 rw [decide_eq_true hww,Bool.true_and];by_cases hll1:l1=0
 rotate_left
 ·rw [decide_eq_false hll1]
  exact eL _ _ _ _ _ _ _ _ _ _ _ _ _ _ _ _ _ _ _ rfl hww (by omega) (by omega) (by omega)
 rw [decide_eq_true hll1,Bool.true_and];by_cases hll2:l2=0
 rotate_left
 ·rw [decide_eq_false hll2]
  exact dG _ _ _ _ _ _ _ _ _ _ _ _ _ _ _ _ _ _ _ rfl hww [] rfl hll1 (.inl rfl) (.inl rfl) (by simp) (by omega) (by omega) (by omega)
 rw [decide_eq_true hll2];exact cY _ _ _ _ _ _ _ _ _ _ _ _ _ _ _ _ _ _ _ rfl hww [] rfl hll1 (.inl rfl) (.inl rfl) (by simp) [] rfl hll2 (.inl rfl) (.inl rfl) (by simp)
theorem kC(hb:bN 4 pl nn wa ws l1 l2=b):
 Calls prog 169 #[rq 4 pl nn wa a1 a2 l1 l2 c1 c2] w fun e w'=>e=.returned (bif b then .iface 210 (.agg #[Vi pl,Vi nn]) else .nilIface)/\Below w.heap.size w w':=by
 subst hb;rw [xr _ _ _ _ _ _ h1];rw [show (bX pl nn 125 && (decide (wa=0) && (decide (l1=0) && (decide (l2=0)))))=((bX pl nn 125) && (decide (wa=0) && (decide (l1=0) && (decide (l2=0))))) from by simp only [Bool.and_assoc]];cases hI:(bX pl nn 125)
 ·rw [Bool.false_and]
  exact cJ 4 pl nn wa a1 a2 l1 l2 c1 c2 w _ (fun u hu=>jj pl nn wa a1 a2 l1 l2 c1 c2 u) (fun u hu=>me _ _ u _ hI)
 rw [Bool.true_and];refine en 4 pl nn wa a1 a2 l1 l2 c1 c2 w _ _ 224 _ (fun u hu=>jj pl nn wa a1 a2 l1 l2 c1 c2 u) (fun u hu=>me _ _ u _ hI) (uH _) (wz _) (fun u hu=>(xk _ _ u).mono ?_);rintro e u' ⟨rfl,bu⟩;refine ⟨_,rfl,bu,?_⟩
 have hu2:=ak hu bu;by_cases hww:wa=0
 rotate_left
 ·rw [decide_eq_false hww]
  exact dn _ _ _ _ _ _ _ _ _ _ _ _ _ _ _ _ _ _ _ rfl (fun h=>hww h.symm)
 rw [decide_eq_true hww,Bool.true_and];by_cases hll1:l1=0
 rotate_left
 ·rw [decide_eq_false hll1]
  exact eL _ _ _ _ _ _ _ _ _ _ _ _ _ _ _ _ _ _ _ rfl hww (by omega) (by omega) (by omega)
 rw [decide_eq_true hll1,Bool.true_and];by_cases hll2:l2=0
 rotate_left
 ·rw [decide_eq_false hll2]
  exact dG _ _ _ _ _ _ _ _ _ _ _ _ _ _ _ _ _ _ _ rfl hww [] rfl hll1 (.inl rfl) (.inl rfl) (by simp) (by omega) (by omega) (by omega)
 rw [decide_eq_true hll2];exact cY _ _ _ _ _ _ _ _ _ _ _ _ _ _ _ _ _ _ _ rfl hww [] rfl hll1 (.inl rfl) (.inl rfl) (by simp) [] rfl hll2 (.inl rfl) (.inl rfl) (by simp)
theorem kD(hb:bN 5 pl nn wa ws l1 l2=b):
 Calls prog 169 #[rq 5 pl nn wa a1 a2 l1 l2 c1 c2] w fun e w'=>e=.returned (bif b then .iface 212 (.agg #[Vi pl,.bool (bs.getD 0 false)]) else .nilIface)/\Below w.heap.size w w':=by
 subst hb;rw [xt _ _ _ _ _ _ h1];by_cases hL:l2=1
 rotate_left
 ·rw [decide_eq_false hL]
  exact cJ 5 pl nn wa a1 a2 l1 l2 c1 c2 w .nilIface (fun u hu=>mx pl nn wa a1 a2 l1 l2 c1 c2 u (by simp;omega)) (fun u hu=>gN u)
 rw [decide_eq_true hL,Bool.true_and];rw [show (aB pl 0 65535 && (decide (nn=0) && (decide (wa=0) && (decide (l1=0)))))=((aB pl 0 65535) && (decide (nn=0) && (decide (wa=0) && (decide (l1=0))))) from by simp only [Bool.and_assoc]];cases hI:(aB pl 0 65535)
 ·rw [Bool.false_and]
  exact cJ 5 pl nn wa a1 a2 l1 l2 c1 c2 w _ (fun u hu=>jk pl nn wa a1 a2 l1 l2 c1 c2 u bs h2 (by omega) (s2.below hu)) (fun u hu=>mf _ _ u _ hI)
 rw [Bool.true_and];refine en 5 pl nn wa a1 a2 l1 l2 c1 c2 w _ _ 225 _ (fun u hu=>jk pl nn wa a1 a2 l1 l2 c1 c2 u bs h2 (by omega) (s2.below hu)) (fun u hu=>mf _ _ u _ hI) (uI _) (wD _) (fun u hu=>(xl _ _ u).mono ?_);rintro e u' ⟨rfl,n3,bu⟩;refine ⟨_,rfl,bu,?_⟩
 have hu2:=ak hu bu;by_cases hnn:nn=0
 rotate_left
 ·rw [decide_eq_false hnn]
  exact fx _ _ _ _ _ _ _ _ _ _ _ _ _ _ _ _ _ _ _ (fun h=>hnn h.symm)
 rw [decide_eq_true hnn,Bool.true_and];by_cases hww:wa=0
 rotate_left
 ·rw [decide_eq_false hww]
  exact dn _ _ _ _ _ _ _ _ _ _ _ _ _ _ _ _ _ _ _ hnn (fun h=>hww h.symm)
 rw [decide_eq_true hww,Bool.true_and];by_cases hll1:l1=0
 rotate_left
 ·rw [decide_eq_false hll1]
  exact eL _ _ _ _ _ _ _ _ _ _ _ _ _ _ _ _ _ _ _ hnn hww (by omega) (by omega) (by omega)
 rw [decide_eq_true hll1];exact cY _ _ _ _ _ _ _ _ _ _ _ _ _ _ _ _ _ _ _ hnn hww [] rfl hll1 (.inl rfl) (.inl rfl) (by simp) [bs.getD 0 false] rfl hL n3 (by have:=s2.below hu2;rw [sN (bs:=bs) (by omega)] at this;exact this) (by simp)
theorem kE(hb:bN 6 pl nn wa ws l1 l2=b):
 Calls prog 169 #[rq 6 pl nn wa a1 a2 l1 l2 c1 c2] w fun e w'=>e=.returned (bif b then .iface 214 (.agg #[Vi pl,Vi (ws.getD 0 0)]) else .nilIface)/\Below w.heap.size w w':=by
 subst hb;rw [xu _ _ _ _ _ _ h1];by_cases hL:l1=1
 rotate_left
 ·rw [decide_eq_false hL]
  exact cJ 6 pl nn wa a1 a2 l1 l2 c1 c2 w .nilIface (fun u hu=>my pl nn wa a1 a2 l1 l2 c1 c2 u (by simp;omega)) (fun u hu=>gN u)
 rw [decide_eq_true hL,Bool.true_and];rw [show (aB pl 0 65535 && (aB (ws.getD 0 0) 0 65535 && (decide (nn=0) && (decide (wa=0) && (decide (l2=0))))))=((aB pl 0 65535 && aB (ws.getD 0 0) 0 65535) && (decide (nn=0) && (decide (wa=0) && (decide (l2=0))))) from by simp only [Bool.and_assoc]];cases hI:(aB pl 0 65535 && aB (ws.getD 0 0) 0 65535)
 ·rw [Bool.false_and]
  exact cJ 6 pl nn wa a1 a2 l1 l2 c1 c2 w _ (fun u hu=>jl pl nn wa a1 a2 l1 l2 c1 c2 u ws h1 (by omega) (s1.below hu)) (fun u hu=>mg _ _ u _ hI)
 rw [Bool.true_and];refine en 6 pl nn wa a1 a2 l1 l2 c1 c2 w _ _ 226 _ (fun u hu=>jl pl nn wa a1 a2 l1 l2 c1 c2 u ws h1 (by omega) (s1.below hu)) (fun u hu=>mg _ _ u _ hI) (uJ _) (wE _) (fun u hu=>(xm _ _ u).mono ?_);rintro e u' ⟨rfl,n3,bu⟩;refine ⟨_,rfl,bu,?_⟩
 have hu2:=ak hu bu;by_cases hnn:nn=0
 rotate_left
 ·rw [decide_eq_false hnn]
  exact fx _ _ _ _ _ _ _ _ _ _ _ _ _ _ _ _ _ _ _ (fun h=>hnn h.symm)
 rw [decide_eq_true hnn,Bool.true_and];by_cases hww:wa=0
 rotate_left
 ·rw [decide_eq_false hww]
  exact dn _ _ _ _ _ _ _ _ _ _ _ _ _ _ _ _ _ _ _ hnn (fun h=>hww h.symm)
 rw [decide_eq_true hww,Bool.true_and];by_cases hll2:l2=0
 rotate_left
 ·rw [decide_eq_false hll2]
  exact dG _ _ _ _ _ _ _ _ _ _ _ _ _ _ _ _ _ _ _ hnn hww [ws.getD 0 0] rfl hL n3 (by have:=s1.below hu2;rw [m6 (ws:=ws) (by omega)] at this;exact this) (by simp) (by omega) (by omega) (by omega)
 rw [decide_eq_true hll2];exact cY _ _ _ _ _ _ _ _ _ _ _ _ _ _ _ _ _ _ _ hnn hww [ws.getD 0 0] rfl hL n3 (by have:=s1.below hu2;rw [m6 (ws:=ws) (by omega)] at this;exact this) (by simp) [] rfl hll2 (.inl rfl) (.inl rfl) (by simp)
theorem jS(hb:bN 15 pl nn wa ws l1 l2=b):
 Calls prog 169 #[rq 15 pl nn wa a1 a2 l1 l2 c1 c2] w fun e w'=>e=.returned (bif b then .iface 216 (.agg #[Vi pl,.slice a2 l2 c2]) else .nilIface)/\Below w.heap.size w w':=by
 subst hb;rw [wF _ _ _ _ _ _ h1];rw [show (bX pl (l2:Int) 1968 && (decide (nn=0) && (decide (wa=0) && (decide (l1=0)))))=((bX pl (l2:Int) 1968) && (decide (nn=0) && (decide (wa=0) && (decide (l1=0))))) from by simp only [Bool.and_assoc]];cases hI:(bX pl (l2:Int) 1968)
 ·rw [Bool.false_and]
  exact cJ 15 pl nn wa a1 a2 l1 l2 c1 c2 w _ (fun u hu=>iR pl nn wa a1 a2 l1 l2 c1 c2 u) (fun u hu=>kt _ _ _ _ u _ hI)
 rw [Bool.true_and];refine en 15 pl nn wa a1 a2 l1 l2 c1 c2 w _ _ 227 _ (fun u hu=>iR pl nn wa a1 a2 l1 l2 c1 c2 u) (fun u hu=>kt _ _ _ _ u _ hI) (sH _) (uK _) (fun u hu=>(wg _ _ _ _ u).mono ?_);rintro e u' ⟨rfl,bu⟩;refine ⟨_,rfl,bu,?_⟩
 have hu2:=ak hu bu;by_cases hnn:nn=0
 rotate_left
 ·rw [decide_eq_false hnn]
  exact fx _ _ _ _ _ _ _ _ _ _ _ _ _ _ _ _ _ _ _ (fun h=>hnn h.symm)
 rw [decide_eq_true hnn,Bool.true_and];by_cases hww:wa=0
 rotate_left
 ·rw [decide_eq_false hww]
  exact dn _ _ _ _ _ _ _ _ _ _ _ _ _ _ _ _ _ _ _ hnn (fun h=>hww h.symm)
 rw [decide_eq_true hww,Bool.true_and];by_cases hll1:l1=0
 rotate_left
 ·rw [decide_eq_false hll1]
  exact eL _ _ _ _ _ _ _ _ _ _ _ _ _ _ _ _ _ _ _ hnn hww (by omega) (by omega) (by omega)
 rw [decide_eq_true hll1];exact cY _ _ _ _ _ _ _ _ _ _ _ _ _ _ _ _ _ _ _ hnn hww [] rfl hll1 (.inl rfl) (.inl rfl) (by simp) bs h2 h2 (s2.below hu2) (s2.below hu2) hl2
theorem jT(hb:bN 16 pl nn wa ws l1 l2=b):
 Calls prog 169 #[rq 16 pl nn wa a1 a2 l1 l2 c1 c2] w fun e w'=>e=.returned (bif b then .iface 218 (.agg #[Vi pl,.slice a1 l1 c1]) else .nilIface)/\Below w.heap.size w w':=by
 subst hb;rw [wG _ _ _ _ _ _ h1];rw [show (bX pl (l1:Int) 123 && (ce ws && (decide (nn=0) && (decide (wa=0) && (decide (l2=0))))))=((bX pl (l1:Int) 123 && ce ws) && (decide (nn=0) && (decide (wa=0) && (decide (l2=0))))) from by simp only [Bool.and_assoc]];cases hI:(bX pl (l1:Int) 123 && ce ws)
 ·rw [Bool.false_and]
  exact cJ 16 pl nn wa a1 a2 l1 l2 c1 c2 w _ (fun u hu=>iS pl nn wa a1 a2 l1 l2 c1 c2 u) (fun u hu=>ku _ _ _ _ ws u h1 (s1.below hu) hl1 _ hI)
 rw [Bool.true_and];refine en 16 pl nn wa a1 a2 l1 l2 c1 c2 w _ _ 228 _ (fun u hu=>iS pl nn wa a1 a2 l1 l2 c1 c2 u) (fun u hu=>ku _ _ _ _ ws u h1 (s1.below hu) hl1 _ hI) (sI _) (uL _) (fun u hu=>(wh _ _ _ _ u).mono ?_);rintro e u' ⟨rfl,bu⟩;refine ⟨_,rfl,bu,?_⟩
 have hu2:=ak hu bu;by_cases hnn:nn=0
 rotate_left
 ·rw [decide_eq_false hnn]
  exact fx _ _ _ _ _ _ _ _ _ _ _ _ _ _ _ _ _ _ _ (fun h=>hnn h.symm)
 rw [decide_eq_true hnn,Bool.true_and];by_cases hww:wa=0
 rotate_left
 ·rw [decide_eq_false hww]
  exact dn _ _ _ _ _ _ _ _ _ _ _ _ _ _ _ _ _ _ _ hnn (fun h=>hww h.symm)
 rw [decide_eq_true hww,Bool.true_and];by_cases hll2:l2=0
 rotate_left
 ·rw [decide_eq_false hll2]
  exact dG _ _ _ _ _ _ _ _ _ _ _ _ _ _ _ _ _ _ _ hnn hww ws h1 h1 (s1.below hu2) (s1.below hu2) hl1 (by omega) (by omega) (by omega)
 rw [decide_eq_true hll2];exact cY _ _ _ _ _ _ _ _ _ _ _ _ _ _ _ _ _ _ _ hnn hww ws h1 h1 (s1.below hu2) (s1.below hu2) hl1 [] rfl hll2 (.inl rfl) (.inl rfl) (by simp)
theorem jU(hb:bN 22 pl nn wa ws l1 l2=b):
 Calls prog 169 #[rq 22 pl nn wa a1 a2 l1 l2 c1 c2] w fun e w'=>e=.returned (bif b then .iface 220 (.agg #[Vi pl,Vi (ws.getD 0 0),Vi (ws.getD 1 0)]) else .nilIface)/\Below w.heap.size w w':=by
 subst hb;rw [wH _ _ _ _ _ _ h1];by_cases hL:l1=2
 rotate_left
 ·rw [decide_eq_false hL]
  exact cJ 22 pl nn wa a1 a2 l1 l2 c1 c2 w .nilIface (fun u hu=>lm pl nn wa a1 a2 l1 l2 c1 c2 u (by simp;omega)) (fun u hu=>gN u)
 rw [decide_eq_true hL,Bool.true_and];rw [show (aB pl 0 65535 && (aB (ws.getD 0 0) 0 65535 && (aB (ws.getD 1 0) 0 65535 && (decide (nn=0) && (decide (wa=0) && (decide (l2=0)))))))=((aB pl 0 65535 && (aB (ws.getD 0 0) 0 65535 && aB (ws.getD 1 0) 0 65535)) && (decide (nn=0) && (decide (wa=0) && (decide (l2=0))))) from by simp only [Bool.and_assoc]];cases hI:(aB pl 0 65535 && (aB (ws.getD 0 0) 0 65535 && aB (ws.getD 1 0) 0 65535))
 ·rw [Bool.false_and]
  exact cJ 22 pl nn wa a1 a2 l1 l2 c1 c2 w _ (fun u hu=>iU pl nn wa a1 a2 l1 l2 c1 c2 u ws h1 (by omega) (s1.below hu)) (fun u hu=>kw _ _ _ u _ hI)
 rw [Bool.true_and];refine en 22 pl nn wa a1 a2 l1 l2 c1 c2 w _ _ 229 _ (fun u hu=>iU pl nn wa a1 a2 l1 l2 c1 c2 u ws h1 (by omega) (s1.below hu)) (fun u hu=>kw _ _ _ u _ hI) (sJ _) (uM _) (fun u hu=>(wk _ _ _ u).mono ?_);rintro e u' ⟨rfl,n3,bu⟩;refine ⟨_,rfl,bu,?_⟩
 have hu2:=ak hu bu;by_cases hnn:nn=0
 rotate_left
 ·rw [decide_eq_false hnn]
  exact fx _ _ _ _ _ _ _ _ _ _ _ _ _ _ _ _ _ _ _ (fun h=>hnn h.symm)
 rw [decide_eq_true hnn,Bool.true_and];by_cases hww:wa=0
 rotate_left
 ·rw [decide_eq_false hww]
  exact dn _ _ _ _ _ _ _ _ _ _ _ _ _ _ _ _ _ _ _ hnn (fun h=>hww h.symm)
 rw [decide_eq_true hww,Bool.true_and];by_cases hll2:l2=0
 rotate_left
 ·rw [decide_eq_false hll2]
  exact dG _ _ _ _ _ _ _ _ _ _ _ _ _ _ _ _ _ _ _ hnn hww [ws.getD 0 0,ws.getD 1 0] rfl hL n3 (by have:=s1.below hu2;rw [m7 (ws:=ws) (by omega)] at this;exact this) (by simp) (by omega) (by omega) (by omega)
 rw [decide_eq_true hll2];exact cY _ _ _ _ _ _ _ _ _ _ _ _ _ _ _ _ _ _ _ hnn hww [ws.getD 0 0,ws.getD 1 0] rfl hL n3 (by have:=s1.below hu2;rw [m7 (ws:=ws) (by omega)] at this;exact this) (by simp) [] rfl hll2 (.inl rfl) (.inl rfl) (by simp)
theorem jV(hb:bN 23 pl nn wa ws l1 l2=b):
 Calls prog 169 #[rq 23 pl nn wa a1 a2 l1 l2 c1 c2] w fun e w'=>e=.returned (bif b then .iface 222 (.agg #[Vi pl,Vi nn,Vi wa,.slice a1 l1 c1]) else .nilIface)/\Below w.heap.size w w':=by
 subst hb;rw [wI _ _ _ _ _ _ h1];rw [show (bX pl nn 125 && (bX wa (l1:Int) 121 && (ce ws && (decide (l2=0)))))=((bX pl nn 125 && (bX wa (l1:Int) 121 && ce ws)) && (decide (l2=0))) from by simp only [Bool.and_assoc]];cases hI:(bX pl nn 125 && (bX wa (l1:Int) 121 && ce ws))
 ·rw [Bool.false_and]
  exact cJ 23 pl nn wa a1 a2 l1 l2 c1 c2 w _ (fun u hu=>iT pl nn wa a1 a2 l1 l2 c1 c2 u) (fun u hu=>kx _ _ _ _ _ _ ws u h1 (s1.below hu) hl1 _ hI)
 rw [Bool.true_and];refine en 23 pl nn wa a1 a2 l1 l2 c1 c2 w _ _ 230 _ (fun u hu=>iT pl nn wa a1 a2 l1 l2 c1 c2 u) (fun u hu=>kx _ _ _ _ _ _ ws u h1 (s1.below hu) hl1 _ hI) (sK _) (uN _) (fun u hu=>(wl _ _ _ _ _ _ u).mono ?_);rintro e u' ⟨rfl,bu⟩;refine ⟨_,rfl,bu,?_⟩
 have hu2:=ak hu bu;by_cases hll2:l2=0
 rotate_left
 ·rw [decide_eq_false hll2]
  exact dG _ _ _ _ _ _ _ _ _ _ _ _ _ _ _ _ _ _ _ rfl rfl ws h1 h1 (s1.below hu2) (s1.below hu2) hl1 (by omega) (by omega) (by omega)
 rw [decide_eq_true hll2];exact cY _ _ _ _ _ _ _ _ _ _ _ _ _ _ _ _ _ _ _ rfl rfl ws h1 h1 (s1.below hu2) (s1.below hu2) hl1 [] rfl hll2 (.inl rfl) (.inl rfl) (by simp)
end
theorem jm(kd:Int)(pl nn wa:Int)(a1 a2:OA)(l1 l2 c1 c2:Nat)(ws:List Int)(bs:List Bool)(w:World)(h1:l1=ws.length)(h2:l2=bs.length)(s1:aZ w a1 ws)(s2:be w a2 bs)(hl1:ws.length<= 2000000)(hl2:bs.length<= 2000000)(k1:¬ kd=1)(k2:¬ kd=2)(k3:¬ kd=3)(k4:¬ kd=4)(k5:¬ kd=5)(k6:¬ kd=6)(k15:¬ kd=15)(k16:¬ kd=16)(k22:¬ kd=22)(k23:¬ kd=23):
 Calls prog 169 #[rq kd pl nn wa a1 a2 l1 l2 c1 c2] w fun e w'=>e=.returned .nilIface/\Below w.heap.size w w':=
 cJ kd pl nn wa a1 a2 l1 l2 c1 c2 w .nilIface (fun u hu=>kr kd pl nn wa a1 a2 l1 l2 c1 c2 u k1 k2 k3 k4 k5 k6 k15 k16 k22 k23) (fun u hu=>gN u)
abbrev WfQ(kd pl nn wa:Int)(ws:List Int):Prop:=(∀ n ∈ ws,-9223372036854775808<= n/\n<= 9223372036854775807)/\(Lit.int .i64 kd).wf=true/\(Lit.int .i64 pl).wf=true/\(Lit.int .i64 nn).wf=true/\(Lit.int .i64 wa).wf=true
theorem ib(kd pl nn wa:Int)(a1 a2:OA)(l1 l2 c1 c2:Nat)(ws:List Int)(bs:List Bool)(w:World)(h1:l1=ws.length)(h2:l2=bs.length)(s1:aZ w a1 ws)(s2:be w a2 bs)(hl1:ws.length<= 2000000)(hl2:bs.length<= 2000000):
 Calls prog 125 #[rq kd pl nn wa a1 a2 l1 l2 c1 c2] w fun e w'=>e=.returned (.bool (bN kd pl nn wa ws l1 l2))/\Below w.heap.size w w':=
 mw kd pl nn wa a1 a2 l1 l2 c1 c2 ws w h1 s1 hl1 (by omega) _ rfl
theorem wJ(T:TypeId)(v:Value)(w:World):(binOp .neq 194 (.iface T v) .nilIface).run prog w=.ok (.bool true) w:=by kernel_rfl
theorem uO(w:World):(binOp .neq 194 .nilIface .nilIface).run prog w=.ok (.bool false) w:=by kernel_rfl
theorem cq(kd pl nn wa:Int)(a1 a2:OA)(l1 l2 c1 c2:Nat)(w:World)(b:Bool)(T:TypeId)(v:Value)
 (hq:∀ u,Below w.heap.size w u->Calls prog 169 #[rq kd pl nn wa a1 a2 l1 l2 c1 c2] u fun e u'=>e=.returned (bif b then .iface T v else .nilIface)/\Below u.heap.size u u'):
 Calls prog 143 #[rq kd pl nn wa a1 a2 l1 l2 c1 c2] w fun e w'=>e=.returned (.bool b)/\Below w.heap.size w w':=by
 have B0:=aa w (.cells #[Vi kd,Vi pl,Vi nn,.slice a1 l1 c1,.slice a2 l2 c2,Vi wa] 86);have q1:=wJ T v;have q2:=uO;go_enter func143,ntmps143
 go_wp2_with fail
 refine (hq _ B0).mono ?_;rintro e w1 ⟨rfl,b'⟩;have B1:=ak B0 b';clear hq;cases b
 ·simp only [cond_false]
  go_wp2;go_ret;exact ⟨rfl,B1⟩
 simp only [cond_true];go_wp2;go_ret;exact ⟨rfl,B1⟩
theorem jW{kd pl nn wa:Int}{ws:List Int}{l1 l2:Nat}(h:bN kd pl nn wa ws l1 l2=true):kd=1\/kd=2\/kd=3\/kd=4\/kd=5\/kd=6\/kd=15\/kd=16\/kd=22\/kd=23:=by
 by_cases hk:kd=1\/kd=2\/kd=3\/kd=4\/kd=5\/kd=6\/kd=15\/kd=16\/kd=22\/kd=23
 ·exact hk
 have e:bN kd pl nn wa ws l1 l2=false:=by
  have k1:¬ kd=1:=by omega
  have k2:¬ kd=2:=by omega
  have k3:¬ kd=3:=by omega
  have k4:¬ kd=4:=by omega
  have k5:¬ kd=5:=by omega
  have k6:¬ kd=6:=by omega
  have k7:¬ kd=15:=by omega
  have k8:¬ kd=16:=by omega
  have k9:¬ kd=22:=by omega
  have k10:¬ kd=23:=by omega
  simp [bN,dO,k1,k2,k3,k4,k5,k6,k7,k8,k9,k10]
 rw [e] at h;cases h
theorem ic(kd pl nn wa:Int)(a1 a2:OA)(l1 l2 c1 c2:Nat)(ws:List Int)(bs:List Bool)(w:World)(h1:l1=ws.length)(h2:l2=bs.length)(s1:aZ w a1 ws)(s2:be w a2 bs)(hl1:ws.length<= 2000000)(hl2:bs.length<= 2000000):
 Calls prog 143 #[rq kd pl nn wa a1 a2 l1 l2 c1 c2] w fun e w'=>e=.returned (.bool (bN kd pl nn wa ws l1 l2))/\Below w.heap.size w w':=by
 by_cases hk:kd=1\/kd=2\/kd=3\/kd=4\/kd=5\/kd=6\/kd=15\/kd=16\/kd=22\/kd=23
 ·obtain rfl|rfl|rfl|rfl|rfl|rfl|rfl|rfl|rfl|rfl:=hk
  ·exact cq 1 pl nn wa a1 a2 l1 l2 c1 c2 w _ _ _ (fun u hu=>ky pl nn wa a1 a2 l1 l2 c1 c2 ws bs u h1 h2 (s1.below hu) (s2.below hu) hl1 hl2 _ rfl)
  ·exact cq 2 pl nn wa a1 a2 l1 l2 c1 c2 w _ _ _ (fun u hu=>kz pl nn wa a1 a2 l1 l2 c1 c2 ws bs u h1 h2 (s1.below hu) (s2.below hu) hl1 hl2 _ rfl)
  ·exact cq 3 pl nn wa a1 a2 l1 l2 c1 c2 w _ _ _ (fun u hu=>kB pl nn wa a1 a2 l1 l2 c1 c2 ws bs u h1 h2 (s1.below hu) (s2.below hu) hl1 hl2 _ rfl)
  ·exact cq 4 pl nn wa a1 a2 l1 l2 c1 c2 w _ _ _ (fun u hu=>kC pl nn wa a1 a2 l1 l2 c1 c2 ws bs u h1 h2 (s1.below hu) (s2.below hu) hl1 hl2 _ rfl)
  ·exact cq 5 pl nn wa a1 a2 l1 l2 c1 c2 w _ _ _ (fun u hu=>kD pl nn wa a1 a2 l1 l2 c1 c2 ws bs u h1 h2 (s1.below hu) (s2.below hu) hl1 hl2 _ rfl)
  ·exact cq 6 pl nn wa a1 a2 l1 l2 c1 c2 w _ _ _ (fun u hu=>kE pl nn wa a1 a2 l1 l2 c1 c2 ws bs u h1 h2 (s1.below hu) (s2.below hu) hl1 hl2 _ rfl)
  ·exact cq 15 pl nn wa a1 a2 l1 l2 c1 c2 w _ _ _ (fun u hu=>jS pl nn wa a1 a2 l1 l2 c1 c2 ws bs u h1 h2 (s1.below hu) (s2.below hu) hl1 hl2 _ rfl)
  ·exact cq 16 pl nn wa a1 a2 l1 l2 c1 c2 w _ _ _ (fun u hu=>jT pl nn wa a1 a2 l1 l2 c1 c2 ws bs u h1 h2 (s1.below hu) (s2.below hu) hl1 hl2 _ rfl)
  ·exact cq 22 pl nn wa a1 a2 l1 l2 c1 c2 w _ _ _ (fun u hu=>jU pl nn wa a1 a2 l1 l2 c1 c2 ws bs u h1 h2 (s1.below hu) (s2.below hu) hl1 hl2 _ rfl)
  exact cq 23 pl nn wa a1 a2 l1 l2 c1 c2 w _ _ _ (fun u hu=>jV pl nn wa a1 a2 l1 l2 c1 c2 ws bs u h1 h2 (s1.below hu) (s2.below hu) hl1 hl2 _ rfl)
 have e:bN kd pl nn wa ws l1 l2=false:=by
  cases e:bN kd pl nn wa ws l1 l2
  ·rfl
  exact absurd (jW e) hk
 rw [e];exact cq kd pl nn wa a1 a2 l1 l2 c1 c2 w false 0 .nilIface (fun u hu=>jm kd pl nn wa a1 a2 l1 l2 c1 c2 ws bs u h1 h2 (s1.below hu) (s2.below hu) hl1 hl2 (by omega) (by omega) (by omega) (by omega) (by omega) (by omega) (by omega) (by omega) (by omega) (by omega))
def xP(kd nn:Int)(l1 l2:Nat):Int:=if kd=5\/kd=15 then l2 else if kd=6\/kd=22 then 1 else if kd=16 then l1 else nn
def xQ(kd:Int):Int:=if kd=1\/kd=5\/kd=15 then 0 else if kd=2 then 1 else if kd=4 then 3 else 2
def spcV(b:Bool)(kd pl nn:Int)(l1 l2:Nat):Value:=bif b then .tuple #[Vi (xQ kd),Vi pl,Vi (xP kd nn l1 l2)] else .tuple #[Vi (-1),Vi 0,Vi 0]
end Go.Proofs.YtohikbpolofklaaGreat
namespace Go.Proofs.YtohikbpolofklaaGreat
open Go.RowKit Go.Joins Go.Proofs.Tryz
theorem qR(x hi:Int)(w:World)(b:Bool)(hb:aB x 1 hi=b):Calls prog 142 #[Vi x,Vi hi] w fun e w'=>e=.returned (.bool b)/\w'=w:=by
 subst hb;unfold aB;by_cases h1:1<= x
 ·by_cases h2:x<= hi
  ·rw [decide_eq_true (show 1<= x/\x<= hi from ⟨h1,h2⟩)]
   go_enter func142,ntmps142
   go_wp2;go_ret;exact ⟨rfl,rfl⟩
  rw [decide_eq_false (show ¬ (1<= x/\x<= hi) from fun h=>h2 h.2)];go_enter func142,ntmps142
  go_wp2;go_ret;exact ⟨rfl,rfl⟩
 rw [decide_eq_false (show ¬ (1<= x/\x<= hi) from fun h=>h1 h.1)];go_enter func142,ntmps142
 go_wp2;go_ret;exact ⟨rfl,rfl⟩
theorem xv(x:Int)(w:World)(b:Bool)(hb:aB x 0 1000000000=b):Calls prog 97 #[Vi x] w fun e w'=>e=.returned (.bool b)/\w'=w:=by
 subst hb;unfold aB;by_cases h1:0<= x
 ·by_cases h2:x<= 1000000000
  ·rw [decide_eq_true ⟨h1,h2⟩]
   go_enter func97,ntmps97
   go_wp2;go_ret;exact ⟨rfl,rfl⟩
  rw [decide_eq_false (fun h=>h2 h.2)];go_enter func97,ntmps97
  go_wp2;go_ret;exact ⟨rfl,rfl⟩
 rw [decide_eq_false (fun h=>h1 h.1)];go_enter func97,ntmps97
 go_wp2;go_ret;exact ⟨rfl,rfl⟩
theorem uP(x:Int)(w:World)(b:Bool)(hb:aB x 0 7=b):Calls prog 191 #[Vi x] w fun e w'=>e=.returned (.bool b)/\w'=w:=by
 subst hb;unfold aB;by_cases h1:0<= x
 ·by_cases h2:x<= 7
  ·rw [decide_eq_true ⟨h1,h2⟩]
   have h3:x<8:=by omega
   go_enter func191,ntmps191
   go_wp2;go_ret;exact ⟨rfl,rfl⟩
  rw [decide_eq_false (fun h=>h2 h.2)];have h3:¬ x<8:=by omega
  go_enter func191,ntmps191
  go_wp2;go_ret;exact ⟨rfl,rfl⟩
 rw [decide_eq_false (fun h=>h1 h.1)];go_enter func191,ntmps191
 go_wp2;go_ret;exact ⟨rfl,rfl⟩
theorem pw(x:Int)(w:World)(b:Bool)(hb:aB x 0 4294967295=b):Calls prog 58 #[Vi x] w fun e w'=>e=.returned (.bool b)/\w'=w:=by
 subst hb;unfold aB;by_cases h1:0<= x
 ·by_cases h2:x<= 4294967295
  ·rw [decide_eq_true ⟨h1,h2⟩]
   go_enter func58,ntmps58
   go_wp2;go_ret;exact ⟨rfl,rfl⟩
  rw [decide_eq_false (fun h=>h2 h.2)];go_enter func58,ntmps58
  go_wp2;go_ret;exact ⟨rfl,rfl⟩
 rw [decide_eq_false (fun h=>h1 h.1)];go_enter func58,ntmps58
 go_wp2;go_ret;exact ⟨rfl,rfl⟩
theorem sO(x:Int)(w:World)(b:Bool)(hb:aB x 0 5=b):Calls prog 96 #[Vi x] w fun e w'=>e=.returned (.bool b)/\w'=w:=by
 subst hb;unfold aB;by_cases h1:0<= x
 ·by_cases h2:x<= 5
  ·rw [decide_eq_true ⟨h1,h2⟩]
   go_enter func96,ntmps96
   go_wp2;go_ret;exact ⟨rfl,rfl⟩
  rw [decide_eq_false (fun h=>h2 h.2)];go_enter func96,ntmps96
  go_wp2;go_ret;exact ⟨rfl,rfl⟩
 rw [decide_eq_false (fun h=>h1 h.1)];go_enter func96,ntmps96
 go_wp2;go_ret;exact ⟨rfl,rfl⟩
theorem uQ(x:Int)(w:World)(b:Bool)(hb:aB x 1 247=b):Calls prog 103 #[Vi x] w fun e w'=>e=.returned (.bool b)/\w'=w:=by
 go_enter func103,ntmps103
 go_wp2_with fail
 refine (qR _ _ _ _ hb).mono ?_;rintro e wx ⟨rfl,rfl⟩;go_wp2;go_ret;exact ⟨rfl,rfl⟩
theorem uR(x:Int)(w:World)(b:Bool)(hb:aB x 1 100=b):Calls prog 95 #[Vi x] w fun e w'=>e=.returned (.bool b)/\w'=w:=by
 go_enter func95,ntmps95
 go_wp2_with fail
 refine (qR _ _ _ _ hb).mono ?_;rintro e wx ⟨rfl,rfl⟩;go_wp2;go_ret;exact ⟨rfl,rfl⟩
theorem px(x:Int)(w:World)(b:Bool)(hb:aB x 0 4294967295=b):Calls prog 43 #[Vi x] w fun e w'=>e=.returned (.bool b)/\w'=w:=by
 go_enter func43,ntmps43
 go_wp2_with fail
 refine (aI _ _ _ _ _ hb).mono ?_;rintro e wx ⟨rfl,rfl⟩;go_wp2;go_ret;exact ⟨rfl,rfl⟩
def dw(C:Ca):Bool:=aB C.id 0 1000000000 && (aB C.pa 0 7 && (aB C.un 1 247 && bN C.kd C.pl C.n C.wa C.ws C.ws.length C.bs.length))
def dh(kd pl nn wa:Int)(l1 l2:Nat):Bool:=(kd == 0) && ((pl == 0) && ((nn == 0) && ((wa == 0) && (((l1:Int) == 0) && ((l2:Int) == 0)))))
def dj(C:Ca)(l1 l2:Nat):Bool:=(C.id == 0) && ((C.pa == 0) && ((C.un == 0) && dh C.kd C.pl C.n C.wa l1 l2))
theorem iV(C:Ca)(g o:Nat)(a1 a2:OA)(l1 l2 c1 c2:Nat)(w:World)(d0:w.cell? ⟨g,o,none⟩=some (Vi C.id))(d1:w.cell? ⟨g,o+1,none⟩=some (Vi C.pa))(d2:w.cell? ⟨g,o+2,none⟩=some (Vi C.un))(d3:w.cell? ⟨g,o+3,none⟩=some (Vi C.kd))(d4:w.cell? ⟨g,o+4,none⟩=some (Vi C.pl))(d5:w.cell? ⟨g,o+5,none⟩=some (Vi C.n))(d6:w.cell? ⟨g,o+6,none⟩=some (.slice a1 l1 c1))(d7:w.cell? ⟨g,o+7,none⟩=some (.slice a2 l2 c2))(d8:w.cell? ⟨g,o+8,none⟩=some (Vi C.wa))(h1:l1=C.ws.length)(h2:l2=C.bs.length)(s1:aZ w a1 C.ws)(s2:be w a2 C.bs)(hl1:l1<= 2000000)(hl2:l2<= 2000000):
 Calls prog 176 #[Vp g o] w fun e w'=>e=.returned (.bool (dw C))/\Below w.heap.size w w':=by
 obtain ⟨x0,hx0⟩:∃ x,aB C.id 0 1000000000=x:=⟨_,rfl⟩
 obtain ⟨x1,hx1⟩:∃ x,aB C.pa 0 7=x:=⟨_,rfl⟩
 obtain ⟨x2,hx2⟩:∃ x,aB C.un 1 247=x:=⟨_,rfl⟩
 obtain ⟨x3,hx3⟩:∃ x,bN C.kd C.pl C.n C.wa C.ws l1 l2=x:=⟨_,rfl⟩
 have HE:Hid (dw C=(x0 && (x1 && (x2 && x3)))/\aB C.id 0 1000000000=x0/\aB C.pa 0 7=x1/\aB C.un 1 247=x2/\bN C.kd C.pl C.n C.wa C.ws l1 l2=x3/\l1=C.ws.length/\l2=C.bs.length/\aZ w a1 C.ws/\be w a2 C.bs):=⟨by unfold dw;rw [hx0,hx1,hx2,<- h1,<- h2,hx3],hx0,hx1,hx2,hx3,h1,h2,s1,s2⟩
 rw [HE.out.1];clear hx0 hx1 hx2 hx3 h1 h2 s1 s2;go_enter func176,ntmps176
 go_wp2_with fail
 refine (xv _ _ _ HE.out.2.1).mono ?_;rintro e w1 ⟨rfl,rfl⟩;cases x0
 case false=>
  go_wp2;go_ret;exact ⟨rfl,Br⟩
 go_wp2_with fail
 refine (uP _ _ _ HE.out.2.2.1).mono ?_;rintro e w1 ⟨rfl,rfl⟩;cases x1
 case false=>
  go_wp2;go_ret;exact ⟨rfl,Br⟩
 go_wp2_with fail
 refine (uQ _ _ _ HE.out.2.2.2.1).mono ?_;rintro e w1 ⟨rfl,rfl⟩;cases x2
 case false=>
  go_wp2;go_ret;exact ⟨rfl,Br⟩
 go_wp2_with fail
 refine (ic C.kd C.pl C.n C.wa a1 a2 l1 l2 c1 c2 C.ws C.bs _ HE.out.2.2.2.2.2.1 HE.out.2.2.2.2.2.2.1 HE.out.2.2.2.2.2.2.2.1 HE.out.2.2.2.2.2.2.2.2 (by have:=HE.out.2.2.2.2.2.1;omega) (by have:=HE.out.2.2.2.2.2.2.1;omega)).mono ?_;rintro e w1 ⟨rfl,b1⟩;rw [HE.out.2.2.2.2.1];clear d0 d1 d2 d3 d4 d5 d6 d7 d8;go_wp2;go_ret;exact ⟨rfl,b1⟩
theorem jD(C:Ca)(a1 a2:OA)(l1 l2 c1 c2:Nat)(w:World)(h1:l1=C.ws.length)(h2:l2=C.bs.length)(s1:aZ w a1 C.ws)(s2:be w a2 C.bs)(hl1:l1<= 2000000)(hl2:l2<= 2000000):
 Calls prog 83 #[.agg (qy C a1 a2 l1 l2 c1 c2)] w fun e w'=>e=.returned (.bool (dw C))/\Below w.heap.size w w':=by
 obtain ⟨W,hW⟩:∃ W,W=w.alloc (.cells (qy C a1 a2 l1 l2 c1 c2) 88):=⟨_,rfl⟩
 have bW:Below w.heap.size w W:=by rw [hW];exact aa _ _
 have A0:ae W w.heap.size 88 (qy C a1 a2 l1 l2 c1 c2):=by rw [hW];exact ae.new _ _ _
 obtain ⟨⟨y0,y1,y2,y3,y4,y5,y6,y7,y8⟩,_⟩:=A0.nine;obtain ⟨x0,hx0⟩:∃ x,aB C.id 0 1000000000=x:=⟨_,rfl⟩
 obtain ⟨x1,hx1⟩:∃ x,aB C.pa 0 7=x:=⟨_,rfl⟩
 obtain ⟨x2,hx2⟩:∃ x,aB C.un 1 247=x:=⟨_,rfl⟩
 obtain ⟨x3,hx3⟩:∃ x,bN C.kd C.pl C.n C.wa C.ws l1 l2=x:=⟨_,rfl⟩
 have HE:Hid (dw C=(x0 && (x1 && (x2 && x3)))/\aB C.id 0 1000000000=x0/\aB C.pa 0 7=x1/\aB C.un 1 247=x2/\bN C.kd C.pl C.n C.wa C.ws l1 l2=x3/\l1=C.ws.length/\l2=C.bs.length/\aZ W a1 C.ws/\be W a2 C.bs/\Below w.heap.size w W):=⟨by unfold dw;rw [hx0,hx1,hx2,<- h1,<- h2,hx3],hx0,hx1,hx2,hx3,h1,h2,s1.below bW,s2.below bW,bW⟩
 rw [HE.out.1];clear hx0 hx1 hx2 hx3 h1 h2 s1 s2 bW A0;go_enter func83,ntmps83
 go_upto_region 1 with fail
 rw [<- hW];clear hW;go_wp2_with fail
 refine (aI _ _ _ _ _ HE.out.2.1).mono ?_;rintro e w1 ⟨rfl,rfl⟩;cases x0
 case false=>
  go_wp2;go_ret;exact ⟨rfl,HE.out.2.2.2.2.2.2.2.2.2⟩
 go_wp2_with fail
 refine (aI _ _ _ _ _ HE.out.2.2.1).mono ?_;rintro e w1 ⟨rfl,rfl⟩;cases x1
 case false=>
  go_wp2;go_ret;exact ⟨rfl,HE.out.2.2.2.2.2.2.2.2.2⟩
 go_wp2_with fail
 refine (aI _ _ _ _ _ HE.out.2.2.2.1).mono ?_;rintro e w1 ⟨rfl,rfl⟩;cases x2
 case false=>
  go_wp2;go_ret;exact ⟨rfl,HE.out.2.2.2.2.2.2.2.2.2⟩
 go_wp2_with fail
 refine (ib C.kd C.pl C.n C.wa a1 a2 l1 l2 c1 c2 C.ws C.bs _ HE.out.2.2.2.2.2.1 HE.out.2.2.2.2.2.2.1 HE.out.2.2.2.2.2.2.2.1 HE.out.2.2.2.2.2.2.2.2.1 (by have:=HE.out.2.2.2.2.2.1;omega) (by have:=HE.out.2.2.2.2.2.2.1;omega)).mono ?_;rintro e w1 ⟨rfl,b1⟩;rw [HE.out.2.2.2.2.1];have HB:Hid (Below w.heap.size w w1):=af HE.out.2.2.2.2.2.2.2.2.2 b1;clear y0 y1 y2 y3 y4 y5 y6 y7 y8 b1;go_wp2;go_ret;exact ⟨rfl,HB.out⟩
theorem p8(kd pl nn wa:Int)(a1 a2:OA)(l1 l2 c1 c2:Nat)(w:World)(hne:¬ kd=0):
 Calls prog 149 #[rq kd pl nn wa a1 a2 l1 l2 c1 c2,rq 0 0 0 0 none none 0 0 0 0] w fun e w'=>e=.returned (.bool false)/\Below w.heap.size w w':=by
 obtain ⟨W0,hW0'⟩:∃ W0,W0=(w.alloc (.cells #[Vi kd,Vi pl,Vi nn,.slice a1 l1 c1,.slice a2 l2 c2,Vi wa] 86)).alloc (.cells lp 86):=⟨_,rfl⟩
 have hW0:Hid (W0=_):=hW0';have B0:Below w.heap.size w W0:=by rw [hW0'];exact ak (aa w _) (aa _ _)
 have X0:ae W0 w.heap.size 86 #[Vi kd,Vi pl,Vi nn,.slice a1 l1 c1,.slice a2 l2 c2,Vi wa]:=by rw [hW0'];exact (ae.new w _ _).below (aa _ _)
 have Y0:ae W0 (w.heap.size+1) 86 lp:=by
  rw [hW0'];have:=ae.new (w.alloc (.cells #[Vi kd,Vi pl,Vi nn,.slice a1 l1 c1,.slice a2 l2 c2,Vi wa] 86)) lp 86;simpa using this
 obtain ⟨x0,x1,x2,x3,x4,x5⟩:=X0.six;obtain ⟨y0,y1,y2,y3,y4,y5⟩:=Y0.six;clear hW0';go_enter func149,ntmps149
 go_upto_region 1 with fail
 rw [<- hW0.out];go_wp2;go_ret;exact ⟨rfl,B0⟩
theorem p9(kd pl nn wa:Int)(a1 a2:OA)(l1 l2 c1 c2:Nat)(w:World)(hk:kd=0)(hne:¬ pl=0):
 Calls prog 149 #[rq kd pl nn wa a1 a2 l1 l2 c1 c2,rq 0 0 0 0 none none 0 0 0 0] w fun e w'=>e=.returned (.bool false)/\Below w.heap.size w w':=by
 obtain ⟨W0,hW0'⟩:∃ W0,W0=(w.alloc (.cells #[Vi kd,Vi pl,Vi nn,.slice a1 l1 c1,.slice a2 l2 c2,Vi wa] 86)).alloc (.cells lp 86):=⟨_,rfl⟩
 have hW0:Hid (W0=_):=hW0';have B0:Below w.heap.size w W0:=by rw [hW0'];exact ak (aa w _) (aa _ _)
 have X0:ae W0 w.heap.size 86 #[Vi kd,Vi pl,Vi nn,.slice a1 l1 c1,.slice a2 l2 c2,Vi wa]:=by rw [hW0'];exact (ae.new w _ _).below (aa _ _)
 have Y0:ae W0 (w.heap.size+1) 86 lp:=by
  rw [hW0'];have:=ae.new (w.alloc (.cells #[Vi kd,Vi pl,Vi nn,.slice a1 l1 c1,.slice a2 l2 c2,Vi wa] 86)) lp 86;simpa using this
 obtain ⟨x0,x1,x2,x3,x4,x5⟩:=X0.six;obtain ⟨y0,y1,y2,y3,y4,y5⟩:=Y0.six;subst hk;clear hW0';go_enter func149,ntmps149
 go_upto_region 1 with fail
 rw [<- hW0.out];go_wp2;go_ret;exact ⟨rfl,B0⟩
theorem m8(kd pl nn wa:Int)(a1 a2:OA)(l1 l2 c1 c2:Nat)(ws:List Int)(bs:List Bool)(w:World)(h1:l1=ws.length)(h2:l2=bs.length)(hl1:l1<= 2000000)(hl2:l2<= 2000000):
 Calls prog 149 #[rq kd pl nn wa a1 a2 l1 l2 c1 c2,rq 0 0 0 0 none none 0 0 0 0] w fun e w'=>e=.returned (.bool (dh kd pl nn wa l1 l2))/\Below w.heap.size w w':=by
 by_cases q0:kd=0
 ·by_cases q1:pl=0
  ·subst q0 q1
   by_cases q2:nn=0
   ·by_cases q3:wa=0
    ·by_cases q4:l1=0
     ·by_cases q5:l2=0
      ·subst q2 q3 q4 q5
       have e1:ws=[]:=List.eq_nil_of_length_eq_zero h1.symm;have e2:bs=[]:=List.eq_nil_of_length_eq_zero h2.symm;exact cY 0 0 0 0 0 0 a1 a2 none none 0 0 c1 c2 0 0 0 0 w rfl rfl [] rfl rfl (.inl rfl) (.inl rfl) (by simp) [] rfl rfl (.inl rfl) (.inl rfl) (by simp)
      subst q2 q3 q4;have e1:ws=[]:=List.eq_nil_of_length_eq_zero h1.symm;have e9:dh 0 0 0 0 0 l2=false:=by unfold dh;simp;omega
      rw [e9];exact dG 0 0 0 0 0 0 a1 a2 none none 0 l2 c1 c2 0 0 0 0 w rfl rfl [] rfl rfl (.inl rfl) (.inl rfl) (by simp) (by omega) (by omega) (by omega)
     subst q2 q3;have e9:dh 0 0 0 0 l1 l2=false:=by unfold dh;simp;omega
     rw [e9];exact eL 0 0 0 0 0 0 a1 a2 none none l1 l2 c1 c2 0 0 0 0 w rfl rfl (by omega) (by omega) (by omega)
    subst q2;have e9:dh 0 0 0 wa l1 l2=false:=by unfold dh;simp [q3]
    rw [e9];exact dn 0 0 0 wa 0 0 a1 a2 none none l1 l2 c1 c2 0 0 0 0 w rfl q3
   have e9:dh 0 0 nn wa l1 l2=false:=by unfold dh;simp [q2]
   rw [e9];exact fx 0 0 nn wa 0 0 a1 a2 none none l1 l2 c1 c2 0 0 0 0 w q2
  have e9:dh kd pl nn wa l1 l2=false:=by unfold dh;simp [q1]
  rw [e9];exact p9 kd pl nn wa a1 a2 l1 l2 c1 c2 w q0 q1
 have e9:dh kd pl nn wa l1 l2=false:=by unfold dh;simp [q0]
 rw [e9];exact p8 kd pl nn wa a1 a2 l1 l2 c1 c2 w q0
theorem na(C:Ca)(g o:Nat)(a1 a2:OA)(l1 l2 c1 c2:Nat)(w:World)(d0:w.cell? ⟨g,o,none⟩=some (Vi C.id))(d1:w.cell? ⟨g,o+1,none⟩=some (Vi C.pa))(d2:w.cell? ⟨g,o+2,none⟩=some (Vi C.un))(d3:w.cell? ⟨g,o+3,none⟩=some (Vi C.kd))(d4:w.cell? ⟨g,o+4,none⟩=some (Vi C.pl))(d5:w.cell? ⟨g,o+5,none⟩=some (Vi C.n))(d6:w.cell? ⟨g,o+6,none⟩=some (.slice a1 l1 c1))(d7:w.cell? ⟨g,o+7,none⟩=some (.slice a2 l2 c2))(d8:w.cell? ⟨g,o+8,none⟩=some (Vi C.wa))(h1:l1=C.ws.length)(h2:l2=C.bs.length)(hl1:l1<= 2000000)(hl2:l2<= 2000000):
 Calls prog 175 #[Vp g o] w fun e w'=>e=.returned (.bool (dj C l1 l2))/\Below w.heap.size w w':=by
 have HL:Hid (l1=C.ws.length/\l2=C.bs.length):=⟨h1,h2⟩
 clear h1 h2;cases q0:(C.id == 0) with
 |false=>
  rw [show dj C l1 l2=false by unfold dj;simp [q0]];go_enter func175,ntmps175
  go_wp2;go_ret;exact ⟨rfl,Br⟩
 |true=>
  cases q1:(C.pa == 0) with
  |false=>
   rw [show dj C l1 l2=false by unfold dj;simp [q0,q1]];go_enter func175,ntmps175
   go_wp2;go_ret;exact ⟨rfl,Br⟩
  |true=>
   cases q2:(C.un == 0) with
   |false=>
    rw [show dj C l1 l2=false by unfold dj;simp [q0,q1,q2]];go_enter func175,ntmps175
    go_wp2;go_ret;exact ⟨rfl,Br⟩
   |true=>
    obtain ⟨bb,hbb⟩:∃ b,dh C.kd C.pl C.n C.wa l1 l2=b:=⟨_,rfl⟩
    have HBB:Hid (dh C.kd C.pl C.n C.wa l1 l2=bb):=hbb;rw [show dj C l1 l2=bb by unfold dj;simp [q0,q1,q2,hbb]];clear hbb;go_enter func175,ntmps175
    go_wp2_with fail
    refine (m8 C.kd C.pl C.n C.wa a1 a2 l1 l2 c1 c2 C.ws C.bs _ HL.out.1 HL.out.2 hl1 hl2).mono ?_;rintro e w1 ⟨rfl,b1⟩;rw [HBB.out];clear d0 d1 d2 d3 d4 d5 d6 d7 d8;go_wp2;go_ret;exact ⟨rfl,b1⟩
theorem nb(kd pl nn wa:Int)(a1 a2:OA)(l1 l2 c1 c2:Nat)(w:World):
 Calls prog 129 #[rq kd pl nn wa a1 a2 l1 l2 c1 c2] w fun e w'=>e=.returned (.bool (dh kd pl nn wa l1 l2))/\Below w.heap.size w w':=by
 cases q0:(kd == 0) with
 |false=>
  rw [show dh kd pl nn wa l1 l2=false by unfold dh;simp [q0]];go_enter func129,ntmps129
  go_wp2;go_ret;exact ⟨rfl,aa _ _⟩
 |true=>
  cases q1:(pl == 0) with
  |false=>
   rw [show dh kd pl nn wa l1 l2=false by unfold dh;simp [q0,q1]];go_enter func129,ntmps129
   go_wp2;go_ret;exact ⟨rfl,aa _ _⟩
  |true=>
   cases q2:(nn == 0) with
   |false=>
    rw [show dh kd pl nn wa l1 l2=false by unfold dh;simp [q0,q1,q2]];go_enter func129,ntmps129
    go_wp2;go_ret;exact ⟨rfl,aa _ _⟩
   |true=>
    cases q3:((l1:Int) == 0) with
    |false=>
     rw [show dh kd pl nn wa l1 l2=false by unfold dh;simp [q0,q1,q2,q3]];go_enter func129,ntmps129
     go_wp2;go_ret;exact ⟨rfl,aa _ _⟩
    |true=>
     cases q4:((l2:Int) == 0) with
     |false=>
      rw [show dh kd pl nn wa l1 l2=false by unfold dh;simp [q0,q1,q2,q3,q4]];go_enter func129,ntmps129
      go_wp2;go_ret;exact ⟨rfl,aa _ _⟩
     |true=>
      cases q5:(wa == 0) with
      |false=>
       rw [show dh kd pl nn wa l1 l2=false by unfold dh;simp [q0,q1,q2,q3,q4,q5]];go_enter func129,ntmps129
       go_wp2;go_ret;exact ⟨rfl,aa _ _⟩
      |true=>
       rw [show dh kd pl nn wa l1 l2=true by unfold dh;simp [q0,q1,q2,q3,q4,q5]];go_enter func129,ntmps129
       go_wp2;go_ret;exact ⟨rfl,aa _ _⟩
theorem eb(C:Ca)(a1 a2:OA)(l1 l2 c1 c2:Nat)(w:World):
 Calls prog 84 #[.agg (qy C a1 a2 l1 l2 c1 c2)] w fun e w'=>e=.returned (.bool (dj C l1 l2))/\Below w.heap.size w w':=by
 cases q0:(C.id == 0) with
 |false=>
  rw [show dj C l1 l2=false by unfold dj;simp [q0]];go_enter func84,ntmps84
  go_wp2;go_ret;exact ⟨rfl,aa _ _⟩
 |true=>
  cases q1:(C.pa == 0) with
  |false=>
   rw [show dj C l1 l2=false by unfold dj;simp [q0,q1]];go_enter func84,ntmps84
   go_wp2;go_ret;exact ⟨rfl,aa _ _⟩
  |true=>
   cases q2:(C.un == 0) with
   |false=>
    rw [show dj C l1 l2=false by unfold dj;simp [q0,q1,q2]];go_enter func84,ntmps84
    go_wp2;go_ret;exact ⟨rfl,aa _ _⟩
   |true=>
    obtain ⟨bb,hbb⟩:∃ b,dh C.kd C.pl C.n C.wa l1 l2=b:=⟨_,rfl⟩
    have HBB:Hid (dh C.kd C.pl C.n C.wa l1 l2=bb):=hbb;rw [show dj C l1 l2=bb by unfold dj;simp [q0,q1,q2,hbb]];clear hbb;have B0:=aa w (.cells (qy C a1 a2 l1 l2 c1 c2) 88);go_enter func84,ntmps84
    go_wp2_with fail
    refine (nb C.kd C.pl C.n C.wa a1 a2 l1 l2 c1 c2 _).mono ?_;rintro e w1 ⟨rfl,b1⟩;have B1:=af B0 b1;clear b1 B0;rw [HBB.out];go_wp2;go_ret;exact ⟨rfl,B1⟩
def Ob(vs:List Value)(k:Nat):Prop:=∃ v ∈ vs,v.ownBlock=some k
def Out(w w':World)(g:Nat)(P:Nat->Prop):Prop:=w.heap.size<= w'.heap.size/\∀ k,k<w.heap.size->k≠g->¬ P k->w'.heap[k]? = w.heap[k]?
end Go.Proofs.YtohikbpolofklaaGreat
