/- Texts that the proof needs, joined: Mk9 Sw6 Sw7 FbB A64. -/
import Derived.Test.YtohikbpolofklaaGreatY46
import Derived.Test.YtohikbpolofklaaGreatY5
import Derived.Test.YtohikbpolofklaaGreatY27
import Derived.Test.YtohikbpolofklaaGreatY30
import Derived.Test.YtohikbpolofklaaGreatY43
import Derived.Test.YtohikbpolofklaaGreatY4
import Derived.Test.YtohikbpolofklaaGreatY39
import Derived.Test.YtohikbpolofklaaGreatY2
set_option linter.unusedVariables false
set_option linter.unusedSimpArgs false
set_option maxHeartbeats 8000000
set_option maxRecDepth 20000
namespace Go.Proofs.YtohikbpolofklaaGreat
open Go.RowKit Go.Joins Go.Proofs.Tryz
abbrev fM:Array Value:=#[Vi 0,Vi 0,Vi 0,Zs,Vi 0,Zs,Zs,Vi 0,Vi 0,Vi 0,Vi 0]
theorem az.rd0{w:World}{lo hi:Nat}{ts:List Tr}{vs:List Value}(h:az w lo hi ts vs)(i:Nat)(v:Value)(hv:vs[i]? = some v):Rd w 0 (ac ts i) v:=by
 obtain ⟨K,h1,h2,h3,h4⟩:=h;exact (h2 i v hv).rd (fun b _=>Nat.zero_le b)
def ch(X:VC):Nat:=ag X.n (fun i=>bG (X.f i))
def xY(k:Nat)(X:VC):VC:=⟨X.wt,X.tr,X.n,fun i=>dg (k+ag i (fun i=>bG (X.f i))) (X.f i)⟩
def cU(X:VT):Nat:=ag X.m (fun i=>bK (X.f i))
def xZ(k:Nat)(X:VT):VT:=⟨X.nx,X.m,fun i=>bV (k+ag i (fun i=>bK (X.f i))) (X.f i)⟩
def dP(X:VF):Nat:=ch X.set+cU X.op+ag X.nl (fun i=>bL (X.lf i))
def iI(k:Nat)(X:VF):VF:=⟨X.nw,xY (k) X.set,xZ (k+ch X.set) X.op,X.nl,fun i=>cB (k+ch X.set+cU X.op+ag i (fun i=>bL (X.lf i))) (X.lf i),X.sk,X.re,X.fa,X.se⟩
theorem nT(X:VC)(a1:OA)(l1 c1:Nat)(s:Nat)(x:Int)(K1:Sk)(w:World)(hx:x=((s:Nat):Int))(f1:aQ w (.list 7 X.n (fun i=>ac (aR (X.f i)))) K1 (.slice a1 l1 c1))(o1:K1.ok)(hB:s+ch X<= 1125899906842624):
 Calls prog 33 #[.agg (cX X a1 l1 c1).toArray,Vi x] w fun e w'=>e=.returned (Vi ((s+ch X:Nat):Int))/\aQ w' (.list 7 X.n (fun i=>ac (aR (dg (s+ag i (fun i=>bG (X.f i))) (X.f i))))) K1 (.slice a1 l1 c1)/\Cg w w' (fun b=>K1.bl b):=by
 subst hx;obtain ⟨W,hW⟩:∃ W,W=w.alloc (.cells (cX X a1 l1 c1).toArray 35):=⟨_,rfl⟩
 have bW:Below w.heap.size w W:=by rw [hW];exact aa _ _
 have HN:Hid ((∀ b,K1.bl b->b<w.heap.size)/\True):=⟨fun b hb=>f1.lt hb,trivial⟩
 have G0:Hid (aQ W (.list 7 X.n (fun i=>ac (aR (X.f i)))) K1 (.slice a1 l1 c1)/\Cg w W (fun b=>K1.bl b)/\ae W w.heap.size 35 (cX X a1 l1 c1).toArray/\w.heap.size<W.heap.size):=⟨f1.below bW,Cg.ofBelow bW,by rw [hW];exact ae.new _ _ _,by rw [hW];simp⟩
 have HC:Hid (ch X=ag X.n (fun i=>bG (X.f i))):=rfl;clear f1 bW;go_enter func33,ntmps33
 go_upto_region 1 with fail
 rw [<- hW];clear hW;obtain ⟨⟨y0,y1,y2⟩,yf⟩:=G0.out.2.2.1.tc3;clear yf;go_wp2_with fail
 refine (jI X.n X.f a1 _ c1 (s) _ K1 _ (by first|rfl|(have:=HC.out;omega)) G0.out.1 o1 (by have:=HC.out;omega)).mono ?_;rintro e w1 ⟨rfl,m1,cg⟩;have G1:Hid (aQ w1 (.list 7 X.n (fun i=>ac (aR (dg (s+ag i (fun i=>bG (X.f i))) (X.f i))))) K1 (.slice a1 l1 c1)/\Cg w w1 (fun b=>K1.bl b)/\ae w1 w.heap.size 35 (cX X a1 l1 c1).toArray/\w.heap.size<w1.heap.size):=⟨m1,G0.out.2.1.trans (cg.mono (fun b hb=>by simp [hb])),(cg.block w.heap.size G0.out.2.2.2 (fun q=>by have h9:=HN.out;first|exact absurd (h9.1 w.heap.size q) (Nat.lt_irrefl _)|(rcases q with q|q <;> first|exact absurd (h9.1 w.heap.size q) (Nat.lt_irrefl _)|exact absurd (h9.2.1 w.heap.size q) (Nat.lt_irrefl _)|exact absurd (h9.2.2.1 w.heap.size q) (Nat.lt_irrefl _)))).trans G0.out.2.2.1,Nat.lt_of_lt_of_le G0.out.2.2.2 cg.size⟩
 obtain ⟨k1,hk1⟩:∃ k1:Nat,k1=s+ag X.n (fun i=>bG (X.f i)):=⟨_,rfl⟩
 rw [<- hk1];have HK1:Hid (k1=s+ag X.n (fun i=>bG (X.f i))):=hk1;clear hk1 cg m1 G0 y0 y1 y2;have HE:Hid (((k1:Nat):Int)=((s+ch X:Nat):Int)):=by show _=_;have:=HC.out;have:=HK1.out;omega
 go_wp2;go_ret;exact ⟨congrArg (fun z=>Ending.returned (Vi z)) HE.out,G1.out.1,G1.out.2.1⟩
theorem ph(X:VT)(a1:OA)(l1 c1:Nat)(s:Nat)(x:Int)(K1:Sk)(w:World)(hx:x=((s:Nat):Int))(f1:aQ w (.list 13 X.m (fun i=>ac (dT (X.f i)))) K1 (.slice a1 l1 c1))(o1:K1.ok)(hB:s+cU X<= 1125899906842624):
 Calls prog 34 #[.agg (tL X a1 l1 c1).toArray,Vi x] w fun e w'=>e=.returned (Vi ((s+cU X:Nat):Int))/\aQ w' (.list 13 X.m (fun i=>ac (dT (bV (s+ag i (fun i=>bK (X.f i))) (X.f i))))) K1 (.slice a1 l1 c1)/\Cg w w' (fun b=>K1.bl b):=by
 subst hx;obtain ⟨W,hW⟩:∃ W,W=w.alloc (.cells (tL X a1 l1 c1).toArray 38):=⟨_,rfl⟩
 have bW:Below w.heap.size w W:=by rw [hW];exact aa _ _
 have HN:Hid ((∀ b,K1.bl b->b<w.heap.size)/\True):=⟨fun b hb=>f1.lt hb,trivial⟩
 have G0:Hid (aQ W (.list 13 X.m (fun i=>ac (dT (X.f i)))) K1 (.slice a1 l1 c1)/\Cg w W (fun b=>K1.bl b)/\ae W w.heap.size 38 (tL X a1 l1 c1).toArray/\w.heap.size<W.heap.size):=⟨f1.below bW,Cg.ofBelow bW,by rw [hW];exact ae.new _ _ _,by rw [hW];simp⟩
 have HC:Hid (cU X=ag X.m (fun i=>bK (X.f i))):=rfl;clear f1 bW;go_enter func34,ntmps34
 go_upto_region 1 with fail
 rw [<- hW];clear hW;obtain ⟨⟨y0,y1⟩,yf⟩:=G0.out.2.2.1.tc2;clear yf;go_wp2_with fail
 refine (oZ X.m X.f a1 _ c1 (s) _ K1 _ (by first|rfl|(have:=HC.out;omega)) G0.out.1 o1 (by have:=HC.out;omega)).mono ?_;rintro e w1 ⟨rfl,m1,cg⟩;have G1:Hid (aQ w1 (.list 13 X.m (fun i=>ac (dT (bV (s+ag i (fun i=>bK (X.f i))) (X.f i))))) K1 (.slice a1 l1 c1)/\Cg w w1 (fun b=>K1.bl b)/\ae w1 w.heap.size 38 (tL X a1 l1 c1).toArray/\w.heap.size<w1.heap.size):=⟨m1,G0.out.2.1.trans (cg.mono (fun b hb=>by simp [hb])),(cg.block w.heap.size G0.out.2.2.2 (fun q=>by have h9:=HN.out;first|exact absurd (h9.1 w.heap.size q) (Nat.lt_irrefl _)|(rcases q with q|q <;> first|exact absurd (h9.1 w.heap.size q) (Nat.lt_irrefl _)|exact absurd (h9.2.1 w.heap.size q) (Nat.lt_irrefl _)|exact absurd (h9.2.2.1 w.heap.size q) (Nat.lt_irrefl _)))).trans G0.out.2.2.1,Nat.lt_of_lt_of_le G0.out.2.2.2 cg.size⟩
 obtain ⟨k1,hk1⟩:∃ k1:Nat,k1=s+ag X.m (fun i=>bK (X.f i)):=⟨_,rfl⟩
 rw [<- hk1];have HK1:Hid (k1=s+ag X.m (fun i=>bK (X.f i))):=hk1;clear hk1 cg m1 G0 y0 y1;have HE:Hid (((k1:Nat):Int)=((s+cU X:Nat):Int)):=by show _=_;have:=HC.out;have:=HK1.out;omega
 go_wp2;go_ret;exact ⟨congrArg (fun z=>Ending.returned (Vi z)) HE.out,G1.out.1,G1.out.2.1⟩
theorem nU(X:VF)(a1:OA)(l1 c1:Nat)(a2:OA)(l2 c2:Nat)(a3:OA)(l3 c3:Nat)(s:Nat)(x:Int)(K1 K2 K3:Sk)(w:World)(hx:x=((s:Nat):Int))(f1:aQ w (.list 7 X.set.n (fun i=>ac (aR (X.set.f i)))) K1 (.slice a1 l1 c1))(f2:aQ w (.list 13 X.op.m (fun i=>ac (dT (X.op.f i)))) K2 (.slice a2 l2 c2))(f3:aQ w (.list 17 X.nl (fun i=>ac (aN (X.lf i)))) K3 (.slice a3 l3 c3))(o1:K1.ok)(o2:K2.ok)(o3:K3.ok)(d12:∀ b,K1.bl b->¬ K2.bl b)(d13:∀ b,K1.bl b->¬ K3.bl b)(d21:∀ b,K2.bl b->¬ K1.bl b)(d23:∀ b,K2.bl b->¬ K3.bl b)(d31:∀ b,K3.bl b->¬ K1.bl b)(d32:∀ b,K3.bl b->¬ K2.bl b)(hB:s+dP X<= 1125899906842624):
 Calls prog 12 #[.agg (aq X a1 l1 c1 a2 l2 c2 a3 l3 c3).toArray,Vi x] w fun e w'=>e=.returned (Vi ((s+dP X:Nat):Int))/\aQ w' (.list 7 X.set.n (fun i=>ac (aR (dg ((s)+ag i (fun i=>bG (X.set.f i))) (X.set.f i))))) K1 (.slice a1 l1 c1)/\aQ w' (.list 13 X.op.m (fun i=>ac (dT (bV ((s+ch X.set)+ag i (fun i=>bK (X.op.f i))) (X.op.f i))))) K2 (.slice a2 l2 c2)/\aQ w' (.list 17 X.nl (fun i=>ac (aN (cB (s+ch X.set+cU X.op+ag i (fun i=>bL (X.lf i))) (X.lf i))))) K3 (.slice a3 l3 c3)/\Cg w w' (fun b=>K1.bl b\/K2.bl b\/K3.bl b):=by
 subst hx;obtain ⟨W,hW⟩:∃ W,W=w.alloc (.cells (aq X a1 l1 c1 a2 l2 c2 a3 l3 c3).toArray 41):=⟨_,rfl⟩
 have bW:Below w.heap.size w W:=by rw [hW];exact aa _ _
 have HN:Hid ((∀ b,K1.bl b->b<w.heap.size)/\(∀ b,K2.bl b->b<w.heap.size)/\(∀ b,K3.bl b->b<w.heap.size)/\True):=⟨fun b hb=>f1.lt hb,fun b hb=>f2.lt hb,fun b hb=>f3.lt hb,trivial⟩
 have G0:Hid (aQ W (.list 7 X.set.n (fun i=>ac (aR (X.set.f i)))) K1 (.slice a1 l1 c1)/\aQ W (.list 13 X.op.m (fun i=>ac (dT (X.op.f i)))) K2 (.slice a2 l2 c2)/\aQ W (.list 17 X.nl (fun i=>ac (aN (X.lf i)))) K3 (.slice a3 l3 c3)/\Cg w W (fun b=>K1.bl b\/K2.bl b\/K3.bl b)/\ae W w.heap.size 41 (aq X a1 l1 c1 a2 l2 c2 a3 l3 c3).toArray/\w.heap.size<W.heap.size):=⟨f1.below bW,f2.below bW,f3.below bW,Cg.ofBelow bW,by rw [hW];exact ae.new _ _ _,by rw [hW];simp⟩
 have HC:Hid (dP X=ch X.set+cU X.op+ag X.nl (fun i=>bL (X.lf i))):=rfl;clear f1 f2 f3 bW;go_enter func12,ntmps12
 go_upto_region 1 with fail
 rw [<- hW];clear hW;obtain ⟨⟨y0,y1,y2,y3,y4,y5,y6,y7,y8,y9,y10⟩,yf⟩:=G0.out.2.2.2.2.1.tc11;clear yf;go_wp2_with fail
 refine (nT X.set a1 _ c1 (s) _ K1 _ (by first|rfl|(have:=HC.out;omega)) G0.out.1 o1 (by have:=HC.out;omega)).mono ?_;rintro e w1 ⟨rfl,m1,cg⟩;have G1:Hid (aQ w1 (.list 7 X.set.n (fun i=>ac (aR (dg ((s)+ag i (fun i=>bG (X.set.f i))) (X.set.f i))))) K1 (.slice a1 l1 c1)/\aQ w1 (.list 13 X.op.m (fun i=>ac (dT (X.op.f i)))) K2 (.slice a2 l2 c2)/\aQ w1 (.list 17 X.nl (fun i=>ac (aN (X.lf i)))) K3 (.slice a3 l3 c3)/\Cg w w1 (fun b=>K1.bl b\/K2.bl b\/K3.bl b)/\ae w1 w.heap.size 41 (aq X a1 l1 c1 a2 l2 c2 a3 l3 c3).toArray/\w.heap.size<w1.heap.size):=⟨m1,G0.out.2.1.cg cg (fun b hb hb9=>d21 b hb hb9),G0.out.2.2.1.cg cg (fun b hb hb9=>d31 b hb hb9),G0.out.2.2.2.1.trans (cg.mono (fun b hb=>by simp [hb])),(cg.block w.heap.size G0.out.2.2.2.2.2 (fun q=>by have h9:=HN.out;first|exact absurd (h9.1 w.heap.size q) (Nat.lt_irrefl _)|(rcases q with q|q <;> first|exact absurd (h9.1 w.heap.size q) (Nat.lt_irrefl _)|exact absurd (h9.2.1 w.heap.size q) (Nat.lt_irrefl _)|exact absurd (h9.2.2.1 w.heap.size q) (Nat.lt_irrefl _)))).trans G0.out.2.2.2.2.1,Nat.lt_of_lt_of_le G0.out.2.2.2.2.2 cg.size⟩
 obtain ⟨k1,hk1⟩:∃ k1:Nat,k1=s+ch X.set:=⟨_,rfl⟩
 rw [<- hk1];have HK1:Hid (k1=s+ch X.set):=hk1;clear hk1 cg m1 G0 y0 y1 y2 y3 y4 y5 y6 y7 y8 y9 y10;obtain ⟨⟨y0,y1,y2,y3,y4,y5,y6,y7,y8,y9,y10⟩,yf⟩:=G1.out.2.2.2.2.1.tc11;clear yf;go_wp2_with fail
 refine (ph X.op a2 _ c2 (s+ch X.set) _ K2 _ (by first|rfl|(have:=HC.out;have:=HK1.out;omega)) G1.out.2.1 o2 (by have:=HC.out;omega)).mono ?_;rintro e w2 ⟨rfl,m2,cg⟩;have G2:Hid (aQ w2 (.list 7 X.set.n (fun i=>ac (aR (dg ((s)+ag i (fun i=>bG (X.set.f i))) (X.set.f i))))) K1 (.slice a1 l1 c1)/\aQ w2 (.list 13 X.op.m (fun i=>ac (dT (bV ((s+ch X.set)+ag i (fun i=>bK (X.op.f i))) (X.op.f i))))) K2 (.slice a2 l2 c2)/\aQ w2 (.list 17 X.nl (fun i=>ac (aN (X.lf i)))) K3 (.slice a3 l3 c3)/\Cg w w2 (fun b=>K1.bl b\/K2.bl b\/K3.bl b)/\ae w2 w.heap.size 41 (aq X a1 l1 c1 a2 l2 c2 a3 l3 c3).toArray/\w.heap.size<w2.heap.size):=⟨G1.out.1.cg cg (fun b hb hb9=>d12 b hb hb9),m2,G1.out.2.2.1.cg cg (fun b hb hb9=>d32 b hb hb9),G1.out.2.2.2.1.trans (cg.mono (fun b hb=>by simp [hb])),(cg.block w.heap.size G1.out.2.2.2.2.2 (fun q=>by have h9:=HN.out;first|exact absurd (h9.2.1 w.heap.size q) (Nat.lt_irrefl _)|(rcases q with q|q <;> first|exact absurd (h9.1 w.heap.size q) (Nat.lt_irrefl _)|exact absurd (h9.2.1 w.heap.size q) (Nat.lt_irrefl _)|exact absurd (h9.2.2.1 w.heap.size q) (Nat.lt_irrefl _)))).trans G1.out.2.2.2.2.1,Nat.lt_of_lt_of_le G1.out.2.2.2.2.2 cg.size⟩
 obtain ⟨k2,hk2⟩:∃ k2:Nat,k2=s+ch X.set+cU X.op:=⟨_,rfl⟩
 rw [<- hk2];have HK2:Hid (k2=s+ch X.set+cU X.op):=hk2;clear hk2 cg m2 G1 y0 y1 y2 y3 y4 y5 y6 y7 y8 y9 y10;obtain ⟨⟨y0,y1,y2,y3,y4,y5,y6,y7,y8,y9,y10⟩,yf⟩:=G2.out.2.2.2.2.1.tc11;clear yf;go_wp2_with fail
 refine (pc X.nl X.lf a3 _ c3 (s+ch X.set+cU X.op) _ K3 _ (by first|rfl|(have:=HC.out;have:=HK1.out;have:=HK2.out;omega)) G2.out.2.2.1 o3 (by have:=HC.out;omega)).mono ?_;rintro e w3 ⟨rfl,m3,cg⟩;have G3:Hid (aQ w3 (.list 7 X.set.n (fun i=>ac (aR (dg ((s)+ag i (fun i=>bG (X.set.f i))) (X.set.f i))))) K1 (.slice a1 l1 c1)/\aQ w3 (.list 13 X.op.m (fun i=>ac (dT (bV ((s+ch X.set)+ag i (fun i=>bK (X.op.f i))) (X.op.f i))))) K2 (.slice a2 l2 c2)/\aQ w3 (.list 17 X.nl (fun i=>ac (aN (cB (s+ch X.set+cU X.op+ag i (fun i=>bL (X.lf i))) (X.lf i))))) K3 (.slice a3 l3 c3)/\Cg w w3 (fun b=>K1.bl b\/K2.bl b\/K3.bl b)/\ae w3 w.heap.size 41 (aq X a1 l1 c1 a2 l2 c2 a3 l3 c3).toArray/\w.heap.size<w3.heap.size):=⟨G2.out.1.cg cg (fun b hb hb9=>d13 b hb hb9),G2.out.2.1.cg cg (fun b hb hb9=>d23 b hb hb9),m3,G2.out.2.2.2.1.trans (cg.mono (fun b hb=>by simp [hb])),(cg.block w.heap.size G2.out.2.2.2.2.2 (fun q=>by have h9:=HN.out;first|exact absurd (h9.2.2.1 w.heap.size q) (Nat.lt_irrefl _)|(rcases q with q|q <;> first|exact absurd (h9.1 w.heap.size q) (Nat.lt_irrefl _)|exact absurd (h9.2.1 w.heap.size q) (Nat.lt_irrefl _)|exact absurd (h9.2.2.1 w.heap.size q) (Nat.lt_irrefl _)))).trans G2.out.2.2.2.2.1,Nat.lt_of_lt_of_le G2.out.2.2.2.2.2 cg.size⟩
 obtain ⟨k3,hk3⟩:∃ k3:Nat,k3=s+ch X.set+cU X.op+ag X.nl (fun i=>bL (X.lf i)):=⟨_,rfl⟩
 rw [<- hk3];have HK3:Hid (k3=s+ch X.set+cU X.op+ag X.nl (fun i=>bL (X.lf i))):=hk3;clear hk3 cg m3 G2 y0 y1 y2 y3 y4 y5 y6 y7 y8 y9 y10;have HE:Hid (((k3:Nat):Int)=((s+dP X:Nat):Int)):=by show _=_;have:=HC.out;have:=HK3.out;omega
 go_wp2;go_ret;exact ⟨congrArg (fun z=>Ending.returned (Vi z)) HE.out,G3.out.1,G3.out.2.1,G3.out.2.2.1,G3.out.2.2.2.1⟩
theorem nV(X:VC)(a1:OA)(l1 c1:Nat)(s:Nat)(x:Int)(w:World)(hx:x=((s:Nat):Int))(r1:Rd w 0 (.list 7 X.n (fun i=>ac (aR (dg (s+ag i (fun i=>bG (X.f i))) (X.f i))))) (.slice a1 l1 c1))(hB:s+ch X<= 1125899906842624):
 Calls prog 36 #[.agg (cX X a1 l1 c1).toArray,Vi x] w fun e w'=>e=.returned (Vi ((s+ch X:Nat):Int))/\Below w.heap.size w w':=by
 subst hx;obtain ⟨W,hW⟩:∃ W,W=w.alloc (.cells (cX X a1 l1 c1).toArray 35):=⟨_,rfl⟩
 have G0:Hid (Below w.heap.size w W/\ae W w.heap.size 35 (cX X a1 l1 c1).toArray):=⟨by rw [hW];exact aa _ _,by rw [hW];exact ae.new _ _ _⟩
 have HR:Hid (Rd w 0 (.list 7 X.n (fun i=>ac (aR (dg (s+ag i (fun i=>bG (X.f i))) (X.f i))))) (.slice a1 l1 c1)/\True):=⟨r1,trivial⟩
 have HC:Hid (ch X=ag X.n (fun i=>bG (X.f i))):=rfl;clear r1;go_enter func36,ntmps36
 go_upto_region 1 with fail
 rw [<- hW];clear hW;obtain ⟨⟨y0,y1,y2⟩,yf⟩:=G0.out.2.tc3;clear yf;go_wp2_with fail
 refine (pd X.n X.f a1 _ c1 (s) _ _ (by first|rfl|(have:=HC.out;omega)) (HR.out.1.below G0.out.1) (by have:=HC.out;omega)).mono ?_;rintro e w1 ⟨rfl,hw9⟩;have b9:Below W.heap.size W w1:=by rw [hw9];exact Br
 clear hw9;have G1:Hid (Below w.heap.size w w1/\ae w1 w.heap.size 35 (cX X a1 l1 c1).toArray):=⟨af G0.out.1 b9,G0.out.2.below b9⟩
 obtain ⟨k1,hk1⟩:∃ k1:Nat,k1=s+ag X.n (fun i=>bG (X.f i)):=⟨_,rfl⟩
 rw [<- hk1];have HK1:Hid (k1=s+ag X.n (fun i=>bG (X.f i))):=hk1;have nn1:¬ ((k1:Int)<0):=by omega
 clear hk1 b9 G0 y0 y1 y2;have HE:Hid (((k1:Nat):Int)=((s+ch X:Nat):Int)):=by show _=_;have:=HC.out;have:=HK1.out;omega
 go_wp2;go_ret;exact ⟨congrArg (fun z=>Ending.returned (Vi z)) HE.out,G1.out.1⟩
theorem pj(X:VT)(a1:OA)(l1 c1:Nat)(s:Nat)(x:Int)(w:World)(hx:x=((s:Nat):Int))(r1:Rd w 0 (.list 13 X.m (fun i=>ac (dT (bV (s+ag i (fun i=>bK (X.f i))) (X.f i))))) (.slice a1 l1 c1))(hB:s+cU X<= 1125899906842624):
 Calls prog 37 #[.agg (tL X a1 l1 c1).toArray,Vi x] w fun e w'=>e=.returned (Vi ((s+cU X:Nat):Int))/\Below w.heap.size w w':=by
 subst hx;obtain ⟨W,hW⟩:∃ W,W=w.alloc (.cells (tL X a1 l1 c1).toArray 38):=⟨_,rfl⟩
 have G0:Hid (Below w.heap.size w W/\ae W w.heap.size 38 (tL X a1 l1 c1).toArray):=⟨by rw [hW];exact aa _ _,by rw [hW];exact ae.new _ _ _⟩
 have HR:Hid (Rd w 0 (.list 13 X.m (fun i=>ac (dT (bV (s+ag i (fun i=>bK (X.f i))) (X.f i))))) (.slice a1 l1 c1)/\True):=⟨r1,trivial⟩
 have HC:Hid (cU X=ag X.m (fun i=>bK (X.f i))):=rfl;clear r1;go_enter func37,ntmps37
 go_upto_region 1 with fail
 rw [<- hW];clear hW;obtain ⟨⟨y0,y1⟩,yf⟩:=G0.out.2.tc2;clear yf;go_wp2_with fail
 refine (oW X.m X.f a1 _ c1 (s) _ _ (by first|rfl|(have:=HC.out;omega)) (HR.out.1.below G0.out.1) (by have:=HC.out;omega)).mono ?_;rintro e w1 ⟨rfl,hw9⟩;have b9:Below W.heap.size W w1:=by rw [hw9];exact Br
 clear hw9;have G1:Hid (Below w.heap.size w w1/\ae w1 w.heap.size 38 (tL X a1 l1 c1).toArray):=⟨af G0.out.1 b9,G0.out.2.below b9⟩
 obtain ⟨k1,hk1⟩:∃ k1:Nat,k1=s+ag X.m (fun i=>bK (X.f i)):=⟨_,rfl⟩
 rw [<- hk1];have HK1:Hid (k1=s+ag X.m (fun i=>bK (X.f i))):=hk1;have nn1:¬ ((k1:Int)<0):=by omega
 clear hk1 b9 G0 y0 y1;have HE:Hid (((k1:Nat):Int)=((s+cU X:Nat):Int)):=by show _=_;have:=HC.out;have:=HK1.out;omega
 go_wp2;go_ret;exact ⟨congrArg (fun z=>Ending.returned (Vi z)) HE.out,G1.out.1⟩
theorem nW(X:VF)(a1:OA)(l1 c1:Nat)(a2:OA)(l2 c2:Nat)(a3:OA)(l3 c3:Nat)(s:Nat)(x:Int)(w:World)(hx:x=((s:Nat):Int))(r1:Rd w 0 (.list 7 X.set.n (fun i=>ac (aR (dg ((s)+ag i (fun i=>bG (X.set.f i))) (X.set.f i))))) (.slice a1 l1 c1))(r2:Rd w 0 (.list 13 X.op.m (fun i=>ac (dT (bV ((s+ch X.set)+ag i (fun i=>bK (X.op.f i))) (X.op.f i))))) (.slice a2 l2 c2))(r3:Rd w 0 (.list 17 X.nl (fun i=>ac (aN (cB (s+ch X.set+cU X.op+ag i (fun i=>bL (X.lf i))) (X.lf i))))) (.slice a3 l3 c3))(hB:s+dP X<= 1125899906842624):
 Calls prog 14 #[.agg (aq X a1 l1 c1 a2 l2 c2 a3 l3 c3).toArray,Vi x] w fun e w'=>e=.returned (Vi ((s+dP X:Nat):Int))/\Below w.heap.size w w':=by
 subst hx;obtain ⟨W,hW⟩:∃ W,W=w.alloc (.cells (aq X a1 l1 c1 a2 l2 c2 a3 l3 c3).toArray 41):=⟨_,rfl⟩
 have G0:Hid (Below w.heap.size w W/\ae W w.heap.size 41 (aq X a1 l1 c1 a2 l2 c2 a3 l3 c3).toArray):=⟨by rw [hW];exact aa _ _,by rw [hW];exact ae.new _ _ _⟩
 have HR:Hid (Rd w 0 (.list 7 X.set.n (fun i=>ac (aR (dg ((s)+ag i (fun i=>bG (X.set.f i))) (X.set.f i))))) (.slice a1 l1 c1)/\Rd w 0 (.list 13 X.op.m (fun i=>ac (dT (bV ((s+ch X.set)+ag i (fun i=>bK (X.op.f i))) (X.op.f i))))) (.slice a2 l2 c2)/\Rd w 0 (.list 17 X.nl (fun i=>ac (aN (cB (s+ch X.set+cU X.op+ag i (fun i=>bL (X.lf i))) (X.lf i))))) (.slice a3 l3 c3)/\True):=⟨r1,r2,r3,trivial⟩
 have HC:Hid (dP X=ch X.set+cU X.op+ag X.nl (fun i=>bL (X.lf i))):=rfl;clear r1 r2 r3;go_enter func14,ntmps14
 go_upto_region 1 with fail
 rw [<- hW];clear hW;obtain ⟨⟨y0,y1,y2,y3,y4,y5,y6,y7,y8,y9,y10⟩,yf⟩:=G0.out.2.tc11;clear yf;go_wp2_with fail
 refine (nV X.set a1 _ c1 (s) _ _ (by first|rfl|(have:=HC.out;omega)) (HR.out.1.below G0.out.1) (by have:=HC.out;omega)).mono ?_;rintro e w1 ⟨rfl,b9⟩;have G1:Hid (Below w.heap.size w w1/\ae w1 w.heap.size 41 (aq X a1 l1 c1 a2 l2 c2 a3 l3 c3).toArray):=⟨af G0.out.1 b9,G0.out.2.below b9⟩
 obtain ⟨k1,hk1⟩:∃ k1:Nat,k1=s+ch X.set:=⟨_,rfl⟩
 rw [<- hk1];have HK1:Hid (k1=s+ch X.set):=hk1;have nn1:¬ ((k1:Int)<0):=by omega
 clear hk1 b9 G0 y0 y1 y2 y3 y4 y5 y6 y7 y8 y9 y10;obtain ⟨⟨y0,y1,y2,y3,y4,y5,y6,y7,y8,y9,y10⟩,yf⟩:=G1.out.2.tc11;clear yf;go_wp2_with fail
 refine (pj X.op a2 _ c2 (s+ch X.set) _ _ (by first|rfl|(have:=HC.out;have:=HK1.out;omega)) (HR.out.2.1.below G1.out.1) (by have:=HC.out;omega)).mono ?_;rintro e w2 ⟨rfl,b9⟩;have G2:Hid (Below w.heap.size w w2/\ae w2 w.heap.size 41 (aq X a1 l1 c1 a2 l2 c2 a3 l3 c3).toArray):=⟨af G1.out.1 b9,G1.out.2.below b9⟩
 obtain ⟨k2,hk2⟩:∃ k2:Nat,k2=s+ch X.set+cU X.op:=⟨_,rfl⟩
 rw [<- hk2];have HK2:Hid (k2=s+ch X.set+cU X.op):=hk2;have nn2:¬ ((k2:Int)<0):=by omega
 clear hk2 b9 G1 y0 y1 y2 y3 y4 y5 y6 y7 y8 y9 y10;obtain ⟨⟨y0,y1,y2,y3,y4,y5,y6,y7,y8,y9,y10⟩,yf⟩:=G2.out.2.tc11;clear yf;go_wp2_with fail
 refine (pg X.nl X.lf a3 _ c3 (s+ch X.set+cU X.op) _ _ (by first|rfl|(have:=HC.out;have:=HK1.out;have:=HK2.out;omega)) (HR.out.2.2.1.below G2.out.1) (by have:=HC.out;omega)).mono ?_;rintro e w3 ⟨rfl,hw9⟩;have b9:Below w2.heap.size w2 w3:=by rw [hw9];exact Br
 clear hw9;have G3:Hid (Below w.heap.size w w3/\ae w3 w.heap.size 41 (aq X a1 l1 c1 a2 l2 c2 a3 l3 c3).toArray):=⟨af G2.out.1 b9,G2.out.2.below b9⟩
 obtain ⟨k3,hk3⟩:∃ k3:Nat,k3=s+ch X.set+cU X.op+ag X.nl (fun i=>bL (X.lf i)):=⟨_,rfl⟩
 rw [<- hk3];have HK3:Hid (k3=s+ch X.set+cU X.op+ag X.nl (fun i=>bL (X.lf i))):=hk3;have nn3:¬ ((k3:Int)<0):=by omega
 clear hk3 b9 G2 y0 y1 y2 y3 y4 y5 y6 y7 y8 y9 y10;have HE:Hid (((k3:Nat):Int)=((s+dP X:Nat):Int)):=by show _=_;have:=HC.out;have:=HK3.out;omega
 go_wp2;go_ret;exact ⟨congrArg (fun z=>Ending.returned (Vi z)) HE.out,G3.out.1⟩
theorem ju(X:VF)(a1:OA)(l1 c1:Nat)(a2:OA)(l2 c2:Nat)(a3:OA)(l3 c3:Nat)(s lo hi:Nat)(x:Int)(w:World)(hx:x=((s:Nat):Int))(h:az w lo hi (aX X) (aq X a1 l1 c1 a2 l2 c2 a3 l3 c3))(hB:s+dP X<= 1125899906842624):
 Calls prog 12 #[.agg (aq X a1 l1 c1 a2 l2 c2 a3 l3 c3).toArray,Vi x] w fun e w'=>e=.returned (Vi ((s+dP X:Nat):Int))/\az w' lo hi (aX (iI s X)) (aq X a1 l1 c1 a2 l2 c2 a3 l3 c3)/\Cg w w' (fun b=>lo<= b/\b<hi):=by
 obtain ⟨K,h1,h2,h3,h4⟩:=h;refine (nU X a1 _ c1 a2 _ c2 a3 _ c3 s x (K 3) (K 5) (K 6) w hx (h2 3 _ rfl) (h2 5 _ rfl) (h2 6 _ rfl) (h3 3 (show 3<(aX X).length by simp [aX])).1 (h3 5 (show 5<(aX X).length by simp [aX])).1 (h3 6 (show 6<(aX X).length by simp [aX])).1 (h4 3 5 (show 3<(aX X).length by simp [aX]) (show 5<(aX X).length by simp [aX]) (by decide)) (h4 3 6 (show 3<(aX X).length by simp [aX]) (show 6<(aX X).length by simp [aX]) (by decide)) (h4 5 3 (show 5<(aX X).length by simp [aX]) (show 3<(aX X).length by simp [aX]) (by decide)) (h4 5 6 (show 5<(aX X).length by simp [aX]) (show 6<(aX X).length by simp [aX]) (by decide)) (h4 6 3 (show 6<(aX X).length by simp [aX]) (show 3<(aX X).length by simp [aX]) (by decide)) (h4 6 5 (show 6<(aX X).length by simp [aX]) (show 5<(aX X).length by simp [aX]) (by decide)) hB).mono ?_;rintro e w' ⟨rfl,m1,m2,m3,cg⟩;refine ⟨rfl,⟨K,rfl,fun i v hv=>?_,h3,h4⟩,cg.mono (fun b hb=>?_)⟩
 ·match i,hv with
  |0,hv=>have q:=h2 0 v hv;exact q
  |1,hv=>have q:=h2 1 v hv;exact q
  |2,hv=>have q:=h2 2 v hv;exact q
  |3,hv=>obtain rfl:=sj hv;exact m1
  |4,hv=>have q:=h2 4 v hv;exact q
  |5,hv=>obtain rfl:=sj hv;exact m2
  |6,hv=>obtain rfl:=sj hv;exact m3
  |7,hv=>have q:=h2 7 v hv;exact q
  |8,hv=>have q:=h2 8 v hv;exact q
  |9,hv=>have q:=h2 9 v hv;exact q
  |10,hv=>have q:=h2 10 v hv;exact q
  |i+11,hv=>simp at hv
 rcases hb with hb|hb|hb
 ·exact (h3 3 (show 3<(aX X).length by simp [aX])).2 b hb
 ·exact (h3 5 (show 5<(aX X).length by simp [aX])).2 b hb
 exact (h3 6 (show 6<(aX X).length by simp [aX])).2 b hb
theorem jv(X:VF)(a1:OA)(l1 c1:Nat)(a2:OA)(l2 c2:Nat)(a3:OA)(l3 c3:Nat)(s lo hi:Nat)(x:Int)(w:World)(hx:x=((s:Nat):Int))(h:az w lo hi (aX (iI s X)) (aq X a1 l1 c1 a2 l2 c2 a3 l3 c3))(hB:s+dP X<= 1125899906842624):
 Calls prog 14 #[.agg (aq X a1 l1 c1 a2 l2 c2 a3 l3 c3).toArray,Vi x] w fun e w'=>e=.returned (Vi ((s+dP X:Nat):Int))/\Below w.heap.size w w':=
 nW X a1 _ c1 a2 _ c2 a3 _ c3 s x w hx ((h.rd0 3 _ rfl)) ((h.rd0 5 _ rfl)) ((h.rd0 6 _ rfl)) hB
theorem iJ(X:VF)(a1:OA)(l1 c1:Nat)(a2:OA)(l2 c2:Nat)(a3:OA)(l3 c3:Nat)(a1':OA)(c1':Nat)(a2':OA)(c2':Nat)(a3':OA)(c3':Nat)(lo hi:Nat)(w:World)(h:az w lo hi (aX X) (aq X a1 l1 c1 a2 l2 c2 a3 l3 c3))(r1':Rd w 0 (.list 7 X.set.n (fun i=>ac (aR (X.set.f i)))) (.slice a1' l1 c1'))(r2':Rd w 0 (.list 13 X.op.m (fun i=>ac (dT (X.op.f i)))) (.slice a2' l2 c2'))(r3':Rd w 0 (.list 17 X.nl (fun i=>ac (aN (X.lf i)))) (.slice a3' l3 c3'))(hz:ax 11 (ac (aX X))<= 1048576):
 Calls prog 10 #[.agg (aq X a1 l1 c1 a2 l2 c2 a3 l3 c3).toArray,.agg (aq X a1' l1 c1' a2' l2 c2' a3' l3 c3').toArray] w fun e w'=>e=.returned (.bool true)/\Below w.heap.size w w':=
 kV X a1 l1 c1 a2 l2 c2 a3 l3 c3 a1' c1' a2' c2' a3' c3' w (h.rd0 3 _ rfl) (h.rd0 5 _ rfl) (h.rd0 6 _ rfl) r1' r2' r3' hz
theorem pJ{ts:List Tr}{t:Tr}{i0:Nat}(h:i0<ts.length):ac (ts.set i0 t) i0=t:=by simp [ac,h]
theorem nX{ts:List Tr}{t:Tr}{i0 i:Nat}(h:¬ i=i0):ac (ts.set i0 t) i=ac ts i:=by
 simp only [ac,List.getD_eq_getElem?_getD];rw [List.getElem?_set_ne (fun e=>h e.symm)]
theorem az.set{w:World}{lo mid:Nat}{ts:List Tr}{vs:List Value}{t:Tr}{v:Value}(i0:Nat)(h:az w lo mid ts vs)(ho:dk w mid t v)(hi1:i0<ts.length)(hh:mid<= w.heap.size)(hl:lo<= mid):az w lo w.heap.size (ts.set i0 t) (vs.set i0 v):=by
 obtain ⟨K,a1,a2,a3,a4⟩:=h;obtain ⟨L,b1,b2,b3⟩:=ho;refine ⟨fun i=>if i=i0 then L else K i,by simp [a1],fun i u hu=>?_,fun i hi=>?_,fun i i' hi hi' hne b hb=>?_⟩
 ·by_cases e:i=i0
  ·subst e
   rw [List.getElem?_set_self (by rw [a1];exact hi1)] at hu;obtain rfl:=Option.some.inj hu;simp only [if_true];rw [pJ hi1];exact b1
  rw [List.getElem?_set_ne (fun q=>e q.symm)] at hu;simp only [if_neg e];rw [nX e];exact a2 i u hu
 ·rw [List.length_set] at hi
  by_cases e:i=i0
  ·simp only [if_pos e]
   exact ⟨b2,fun b hb=>by have:=b3 b hb;have:=b1.lt hb;omega⟩
  simp only [if_neg e];exact ⟨(a3 i hi).1,fun b hb=>by have:=(a3 i hi).2 b hb;omega⟩
 rw [List.length_set] at hi hi';by_cases e:i=i0
 ·have e':¬ i'=i0:=fun q=>hne (e.trans q.symm)
  simp only [if_pos e] at hb;simp only [if_neg e'];intro hq;have:=b3 b hb;have:=(a3 i' hi').2 b hq;omega
 simp only [if_neg e] at hb;by_cases e':i'=i0
 ·simp only [if_pos e']
  intro hq;have:=b3 b hq;have:=(a3 i hi).2 b hb;omega
 simp only [if_neg e'];exact a4 i i' hi hi' hne b hb
theorem cH.set{w:World}{lo hi:Nat}{ts:List Tr}{vs:List Value}{t:Tr}{v:Value}(i0:Nat)(h:cH w lo hi ts vs)(ho:cH w lo hi [t] [v])(hi1:i0<ts.length):cH w lo hi (ts.set i0 t) (vs.set i0 v):=by
 obtain ⟨a1,K,a2⟩:=h;obtain ⟨-,L,b1⟩:=ho;refine ⟨by simp [a1],fun i=>if i=i0 then L 0 else K i,fun i u hu=>?_⟩
 by_cases e:i=i0
 ·subst e
  rw [List.getElem?_set_self (by rw [a1];exact hi1)] at hu;obtain rfl:=Option.some.inj hu;simp only [if_true];rw [pJ hi1];exact b1 0 _ rfl
 rw [List.getElem?_set_ne (fun q=>e q.symm)] at hu;simp only [if_neg e];rw [nX e];exact a2 i u hu
def eY(b:Bool)(X:VF)(n:Nat)(f:Nat->Ru):VF:=if b then { X with set:={ X.set with n:=n,f:=f } } else X
theorem dk.same{w w':World}{lo:Nat}{t:Tr}{v:Value}(h:dk w lo t v)(hs:w.heap.size<= w'.heap.size)(hb:∀ b,lo<= b->b<w.heap.size->w'.heap[b]? = w.heap[b]?):dk w' lo t v:=by
 obtain ⟨K,h1,h2,h3⟩:=h;exact ⟨K,h1.same hs (fun b q=>hb b (h3 b q) (h1.lt q)),h2,h3⟩
theorem f7(X:VF)(a1:OA)(c1:Nat)(a2:OA)(c2:Nat)(a3:OA)(c3:Nat)(a:OA)(n cap:Nat)(f:Nat->Ru)(w:World)(r1:Rd w 0 (.list 7 X.set.n (fun i=>ac (aR (X.set.f i)))) (.slice a1 X.set.n c1))(r2:Rd w 0 (.list 13 X.op.m (fun i=>ac (dT (X.op.f i)))) (.slice a2 X.op.m c2))(r3:Rd w 0 (.list 17 X.nl (fun i=>ac (aN (X.lf i)))) (.slice a3 X.nl c3))(hz:ax 11 (ac (aX X))<= 1048576)(hb:jH X)(rs:Rd w 0 (.list 7 n (fun i=>ac (aR (f i)))) (.slice a n cap))(hn:n<= 1048576)(h64:∀ k,k<n->-9223372036854775808<= (f k).sh/\(f k).sh<= 9223372036854775807)(br:Bool)(hbr:br=true↔ eK f n):
 Calls prog 9 #[.agg (aq X a1 X.set.n c1 a2 X.op.m c2 a3 X.nl c3).toArray,.slice a n cap] w fun e w'=>∃ b1 d1 b2 d2 b3 d3,e=.returned (.tuple #[.agg (aq (eY (cn X && br) X n f) b1 (eY (cn X && br) X n f).set.n d1 b2 (eY (cn X && br) X n f).op.m d2 b3 (eY (cn X && br) X n f).nl d3).toArray,.bool (cn X && br)])/\az w' w.heap.size w'.heap.size (aX (eY (cn X && br) X n f)) (aq (eY (cn X && br) X n f) b1 (eY (cn X && br) X n f).set.n d1 b2 (eY (cn X && br) X n f).op.m d2 b3 (eY (cn X && br) X n f).nl d3)/\Below w.heap.size w w':=by
 obtain ⟨x,hx⟩:∃ x,cn X=x:=⟨_,rfl⟩
 rw [hx];obtain ⟨B,hB⟩:∃ B,B=w.heap.size:=⟨_,rfl⟩
 obtain ⟨W,hW⟩:∃ W,W=(w.alloc (.cells (aq X a1 X.set.n c1 a2 X.op.m c2 a3 X.nl c3).toArray 41)).alloc (.cells fM 41):=⟨_,rfl⟩
 have HB:Hid (w.heap.size=B/\cn X=x/\jH X/\ax 11 (ac (aX X))<= 1048576/\n<= 1048576/\(br=true↔ eK f n)):=⟨hB.symm,hx,hb,hz,hn,hbr⟩
 have HS:Hid (Rd w 0 (.list 7 X.set.n (fun i=>ac (aR (X.set.f i)))) (.slice a1 X.set.n c1)/\Rd w 0 (.list 13 X.op.m (fun i=>ac (dT (X.op.f i)))) (.slice a2 X.op.m c2)/\Rd w 0 (.list 17 X.nl (fun i=>ac (aN (X.lf i)))) (.slice a3 X.nl c3)/\Rd w 0 (.list 7 n (fun i=>ac (aR (f i)))) (.slice a n cap)):=⟨r1,r2,r3,rs⟩
 have G0:Hid (Below w.heap.size w W/\ae W B 41 (aq X a1 X.set.n c1 a2 X.op.m c2 a3 X.nl c3).toArray/\ae W (B+1) 41 fM/\W.heap.size=B+2):=by
  refine ⟨?_,?_,?_,?_⟩
  ·rw [hW];exact af (aa w _) (aa _ _)
  ·rw [hW,hB];exact (ae.new w _ _).below (aa _ _)
  ·rw [hW,hB];have:=ae.new (w.alloc (.cells (aq X a1 X.set.n c1 a2 X.op.m c2 a3 X.nl c3).toArray 41)) fM 41;simpa using this
  rw [hW,hB];simp
 have H64:Hid (∀ k,k<n->-9223372036854775808<= (f k).sh/\(f k).sh<= 9223372036854775807):=h64;clear h64 r1 r2 r3 rs hz hb hn hbr hx;go_enter func9,ntmps9
 go_upto_region 1 with fail
 have hB1:w.heap.size+1=B+1:=by omega
 rw [<- hW,hB1,<- hB];clear hW hB hB1;obtain ⟨⟨y0,y1,y2,y3,y4,y5,y6,y7,y8,y9,y10⟩,-⟩:=G0.out.2.1.tc11;go_wp2_with fail
 refine (ny X a1 _ c1 a2 _ c2 a3 _ c3 _ (HS.out.1.below G0.out.1) (HS.out.2.1.below G0.out.1) (HS.out.2.2.1.below G0.out.1) HB.out.2.2.2.1).mono ?_;rintro e w1 ⟨b1,d1,b2,d2,b3,d3,rfl,O,b'⟩;clear y0 y1 y2 y3 y4 y5 y6 y7 y8 y9 y10;obtain ⟨h,hh⟩:∃ l,l=w1.heap.size:=⟨_,rfl⟩
 obtain ⟨W1,hW1⟩:∃ W,W=w1.alloc (.cells (aq X b1 X.set.n d1 b2 X.op.m d2 b3 X.nl d3).toArray 41):=⟨_,rfl⟩
 have bW:Below w1.heap.size w1 W1:=by rw [hW1];exact aa _ _
 have bb:=af b' bW;have G1:Hid (Below w.heap.size w W1/\ae W1 B 41 (aq X a1 X.set.n c1 a2 X.op.m c2 a3 X.nl c3).toArray/\ae W1 (B+1) 41 fM/\ae W1 h 41 (aq X b1 X.set.n d1 b2 X.op.m d2 b3 X.nl d3).toArray/\az W1 (B+2) h (aX X) (aq X b1 X.set.n d1 b2 X.op.m d2 b3 X.nl d3)/\B+2<= h/\h+1=W1.heap.size):=⟨af G0.out.1 bb,G0.out.2.1.below bb,G0.out.2.2.1.below bb,by rw [hW1,hh];exact ae.new _ _ _,by have:=(O.below bW Nl);rw [<- hh,G0.out.2.2.2] at this;exact this,by have:=b'.size;have:=G0.out.2.2.2;omega,by rw [hW1,hh];simp⟩
 clear b' bW bb O G0;go_upto_region 2 with fail
 rw [<- hh];have hW1':W1=w1.alloc (.cells #[Vi X.nw,Vi X.set.wt,Vi X.set.tr,.slice b1 X.set.n d1,Vi X.op.nx,.slice b2 X.op.m d2,.slice b3 X.nl d3,Vi X.sk,Vi X.re,Vi X.fa,Vi X.se] 41):=hW1;rw [<- hW1'];clear hW1 hW1' hh;go_wp2_with fail
 refine (nQ X h 0 _ ⟨G1.out.2.2.2.1.lt,_,rfl,G1.out.2.2.2.1.all,VF.back (G1.out.2.2.2.2.1.rd0 3 _ rfl) (G1.out.2.2.2.2.1.rd0 5 _ rfl) (G1.out.2.2.2.2.1.rd0 6 _ rfl)⟩ HB.out.2.2.1).mono ?_;rintro e w2 ⟨rfl,b'⟩;rw [HB.out.2.1];have G2:Hid (Below w.heap.size w w2/\ae w2 (B+1) 41 fM/\ae w2 h 41 (aq X b1 X.set.n d1 b2 X.op.m d2 b3 X.nl d3).toArray/\az w2 (B+2) h (aX X) (aq X b1 X.set.n d1 b2 X.op.m d2 b3 X.nl d3)/\B+2<= h/\h<w2.heap.size):=⟨af G1.out.1 b',G1.out.2.2.1.below b',G1.out.2.2.2.1.below b',G1.out.2.2.2.2.1.below b' (by have:=G1.out.2.2.2.2.2.2;omega),G1.out.2.2.2.2.2.1,by have:=b'.size;have:=G1.out.2.2.2.2.2.2;omega⟩
 clear b' G1;cases x
 case false=>
  obtain ⟨V,hV⟩:∃ V,V=aF w2 (B+1) 0 (aq X b1 X.set.n d1 b2 X.op.m d2 b3 X.nl d3):=⟨_,rfl⟩
  have H9:Hid (az V w.heap.size V.heap.size (aX X) (aq X b1 X.set.n d1 b2 X.op.m d2 b3 X.nl d3)/\Below w.heap.size w V/\ae V (B+1) 41 (aq X b1 X.set.n d1 b2 X.op.m d2 b3 X.nl d3).toArray):=by
   have gs:w2.grownBy V (some (B+1)):=by rw [hV];exact bf _ _ _
   have s1:=gs.size;have s2:=HB.out.1;have q:=(((G2.out.2.2.2.1.mono Nl (Nat.le_of_lt G2.out.2.2.2.2.2))).same gs.size (fun b q1 q2=>gs.block b (by omega) (fun e=>by have:=Option.some.inj e;omega))).mono (lo':=w.heap.size) (hi':=V.heap.size) (by omega) (by omega);exact ⟨q,by rw [hV];exact aD (by omega) _ _ _ (G2.out.1),by rw [hV];exact ae.wr (G2.out.2.1) (by simp [bO])⟩
  have hr:w2.rangeAt h 0 (aq X b1 X.set.n d1 b2 X.op.m d2 b3 X.nl d3):=(G2.out.2.2.1).all;have ht:=(G2.out.2.1).there 0 11 (by simp);go_upto_region 3 with fail
  refine wp_region_lit ?_;refine wpList_load_mid rfl 41 (.tmp 6) rfl h 0 rfl (aq X b1 X.set.n d1 b2 X.op.m d2 b3 X.nl d3) _ hr underlying41 rfl (by kernel_rfl) ?_;refine wpList_store_mid rfl 41 (.tmp 4) (.tmp 16) rfl (B+1) 0 (aq X b1 X.set.n d1 b2 X.op.m d2 b3 X.nl d3).toArray rfl rfl ht (by kernel_rfl) (by simp [Value.oneCell']) ?_;rw [bm,<- hV];clear hV hr ht;go_wp2;refine bodyPost_ret (v:=.tuple #[.agg (aq X b1 X.set.n d1 b2 X.op.m d2 b3 X.nl d3).toArray,.bool false]) (dC results9 rfl rfl (run_loadVar_mid _ _ _ 41 (aq X b1 X.set.n d1 b2 X.op.m d2 b3 X.nl d3) _ H9.out.2.2.all underlying41 rfl (by kernel_rfl))) rfl ⟨b1,d1,b2,d2,b3,d3,rfl,H9.out.1,H9.out.2.1⟩
 go_wp2_with fail
 refine (gL a n cap f _ (HS.out.2.2.2.below G2.out.1).slu.2 (by have:=HB.out.2.2.2.2.1;omega) H64.out br HB.out.2.2.2.2.2).mono ?_;rintro e w3 ⟨rfl,b'⟩;have G3:Hid (Below w.heap.size w w3/\ae w3 (B+1) 41 fM/\ae w3 h 41 (aq X b1 X.set.n d1 b2 X.op.m d2 b3 X.nl d3).toArray/\az w3 (B+2) h (aX X) (aq X b1 X.set.n d1 b2 X.op.m d2 b3 X.nl d3)/\B+2<= h/\h<w3.heap.size):=⟨af G2.out.1 b',G2.out.2.1.below b',G2.out.2.2.1.below b',G2.out.2.2.2.1.below b' (by have:=G2.out.2.2.2.2.2;omega),G2.out.2.2.2.2.1,by have:=b'.size;have:=G2.out.2.2.2.2.2;omega⟩
 clear b' G2;cases br
 case false=>
  obtain ⟨V,hV⟩:∃ V,V=aF w3 (B+1) 0 (aq X b1 X.set.n d1 b2 X.op.m d2 b3 X.nl d3):=⟨_,rfl⟩
  have H9:Hid (az V w.heap.size V.heap.size (aX X) (aq X b1 X.set.n d1 b2 X.op.m d2 b3 X.nl d3)/\Below w.heap.size w V/\ae V (B+1) 41 (aq X b1 X.set.n d1 b2 X.op.m d2 b3 X.nl d3).toArray):=by
   have gs:w3.grownBy V (some (B+1)):=by rw [hV];exact bf _ _ _
   have s1:=gs.size;have s2:=HB.out.1;have q:=(((G3.out.2.2.2.1.mono Nl (Nat.le_of_lt G3.out.2.2.2.2.2))).same gs.size (fun b q1 q2=>gs.block b (by omega) (fun e=>by have:=Option.some.inj e;omega))).mono (lo':=w.heap.size) (hi':=V.heap.size) (by omega) (by omega);exact ⟨q,by rw [hV];exact aD (by omega) _ _ _ (G3.out.1),by rw [hV];exact ae.wr (G3.out.2.1) (by simp [bO])⟩
  have hr:w3.rangeAt h 0 (aq X b1 X.set.n d1 b2 X.op.m d2 b3 X.nl d3):=(G3.out.2.2.1).all;have ht:=(G3.out.2.1).there 0 11 (by simp);go_upto_region 3 with fail
  refine wp_region_lit ?_;refine wpList_load_mid rfl 41 (.tmp 6) rfl h 0 rfl (aq X b1 X.set.n d1 b2 X.op.m d2 b3 X.nl d3) _ hr underlying41 rfl (by kernel_rfl) ?_;refine wpList_store_mid rfl 41 (.tmp 4) (.tmp 16) rfl (B+1) 0 (aq X b1 X.set.n d1 b2 X.op.m d2 b3 X.nl d3).toArray rfl rfl ht (by kernel_rfl) (by simp [Value.oneCell']) ?_;rw [bm,<- hV];clear hV hr ht;go_wp2;refine bodyPost_ret (v:=.tuple #[.agg (aq X b1 X.set.n d1 b2 X.op.m d2 b3 X.nl d3).toArray,.bool false]) (dC results9 rfl rfl (run_loadVar_mid _ _ _ 41 (aq X b1 X.set.n d1 b2 X.op.m d2 b3 X.nl d3) _ H9.out.2.2.all underlying41 rfl (by kernel_rfl))) rfl ⟨b1,d1,b2,d2,b3,d3,rfl,H9.out.1,H9.out.2.1⟩
 go_wp2_with fail
 refine (li a n cap f _ (HS.out.2.2.2.below G3.out.1).slu.2 (by have:=HB.out.2.2.2.2.1;omega)).mono ?_;rintro e w4 ⟨rfl,hr4,b'⟩;obtain ⟨b4,hb4⟩:∃ b,b=some (⟨w3.heap.size,0,none⟩:Addr):=⟨_,rfl⟩
 obtain ⟨d4,hd4⟩:∃ d,d=n:=⟨_,rfl⟩
 have o4:dk w4 w3.heap.size (.list 7 n (fun i=>ac (aR (f i)))) (.slice b4 n d4):=by rw [hb4,hd4];exact hr4.own Nl (by have:=HB.out.2.2.2.2.1;unfold maxLen;omega) Nl
 obtain ⟨⟨z0,z1,z2,z3,z4,z5,z6,z7,z8,z9,bM⟩,zf⟩:=(G3.out.2.2.1.below b').tc11;have g3:=zf 3;clear zf hr4;go_upto_region 5 with fail
 have hq:(Value.slice (some ⟨w3.heap.size,0,none⟩) n n)=.slice b4 n d4:=by rw [hb4,hd4]
 rw [hq];obtain ⟨W5,hX⟩:∃ z,z=aF w4 h 3 [.slice b4 n d4]:=⟨_,rfl⟩
 have G5:Hid (Below w.heap.size w W5/\ae W5 (B+1) 41 fM/\ae W5 h 41 (aq ({ X with set:={ X.set with n:=n,f:=f } }) b4 n d4 b2 X.op.m d2 b3 X.nl d3).toArray/\az W5 (B+2) W5.heap.size (aX { X with set:={ X.set with n:=n,f:=f } }) (aq ({ X with set:={ X.set with n:=n,f:=f } }) b4 n d4 b2 X.op.m d2 b3 X.nl d3)):=by
  have gs:w4.grownBy W5 (some h):=by rw [hX];exact bf _ _ _
  have s1:=gs.size;have s2:=HB.out.1;have s3:=b'.size;have s4:=G3.out.2.2.2.2;have f1:=((G3.out.2.2.2.1.below b' (by omega)).same gs.size (fun b q1 q2=>gs.block b (by omega) (fun e=>by have:=Option.some.inj e;omega))).mono Nl (show h<= w3.heap.size by omega);have o5:=o4.same gs.size (fun b q1 q2=>gs.block b (by omega) (fun e=>by have:=Option.some.inj e;omega));have q:az W5 (B+2) W5.heap.size (aX { X with set:={ X.set with n:=n,f:=f } }) (aq ({ X with set:={ X.set with n:=n,f:=f } }) b4 n d4 b2 X.op.m d2 b3 X.nl d3):=f1.set 3 o5 (show 3<11 by decide) (by omega) (by omega);exact ⟨by rw [hX];exact aD (by omega) _ _ _ (af G3.out.1 b'),by rw [hX];exact ae.stNe (by omega) _ _ (G3.out.2.1.below b'),by rw [hX];exact ae.wr (G3.out.2.2.1.below b') (by simp [bO]),q⟩
 simp only [aF,Nat.reduceAdd,Nat.zero_add] at hX;rw [<- hX];clear hX z0 z1 z2 z3 z4 z5 z6 z7 z8 z9 bM g3 b' o4 hq hb4 hd4;obtain ⟨V,hV⟩:∃ V,V=aF W5 (B+1) 0 (aq ({ X with set:={ X.set with n:=n,f:=f } }) b4 n d4 b2 X.op.m d2 b3 X.nl d3):=⟨_,rfl⟩
 have H9:Hid (az V w.heap.size V.heap.size (aX { X with set:={ X.set with n:=n,f:=f } }) (aq ({ X with set:={ X.set with n:=n,f:=f } }) b4 n d4 b2 X.op.m d2 b3 X.nl d3)/\Below w.heap.size w V/\ae V (B+1) 41 (aq ({ X with set:={ X.set with n:=n,f:=f } }) b4 n d4 b2 X.op.m d2 b3 X.nl d3).toArray):=by
  have gs:W5.grownBy V (some (B+1)):=by rw [hV];exact bf _ _ _
  have s1:=gs.size;have s2:=HB.out.1;have q:=((G5.out.2.2.2).same gs.size (fun b q1 q2=>gs.block b (by omega) (fun e=>by have:=Option.some.inj e;omega))).mono (lo':=w.heap.size) (hi':=V.heap.size) (by omega) (by omega);exact ⟨q,by rw [hV];exact aD (by omega) _ _ _ (G5.out.1),by rw [hV];exact ae.wr (G5.out.2.1) (by simp [bO])⟩
 have hr:W5.rangeAt h 0 (aq ({ X with set:={ X.set with n:=n,f:=f } }) b4 n d4 b2 X.op.m d2 b3 X.nl d3):=(G5.out.2.2.1).all;have ht:=(G5.out.2.1).there 0 11 (by simp);refine wp_region_lit ?_;refine wpList_load_mid rfl 41 (.tmp 6) rfl h 0 rfl (aq ({ X with set:={ X.set with n:=n,f:=f } }) b4 n d4 b2 X.op.m d2 b3 X.nl d3) _ hr underlying41 rfl (by kernel_rfl) ?_;refine wpList_store_mid rfl 41 (.tmp 4) (.tmp 21) rfl (B+1) 0 (aq ({ X with set:={ X.set with n:=n,f:=f } }) b4 n d4 b2 X.op.m d2 b3 X.nl d3).toArray rfl rfl ht (by kernel_rfl) (by simp [Value.oneCell']) ?_;rw [bm,<- hV];clear hV hr ht;go_wp2;refine bodyPost_ret (v:=.tuple #[.agg (aq ({ X with set:={ X.set with n:=n,f:=f } }) b4 n d4 b2 X.op.m d2 b3 X.nl d3).toArray,.bool true]) (dC results9 rfl rfl (run_loadVar_mid _ _ _ 41 (aq ({ X with set:={ X.set with n:=n,f:=f } }) b4 n d4 b2 X.op.m d2 b3 X.nl d3) _ H9.out.2.2.all underlying41 rfl (by kernel_rfl))) rfl ⟨b4,d4,b2,d2,b3,d3,rfl,H9.out.1,H9.out.2.1⟩
theorem jw(X:VF)(a1:OA)(c1:Nat)(a2:OA)(c2:Nat)(a3:OA)(c3:Nat)(a:OA)(n cap:Nat)(f:Nat->Ru)(w:World)(r1:Rd w 0 (.list 7 X.set.n (fun i=>ac (aR (X.set.f i)))) (.slice a1 X.set.n c1))(r2:Rd w 0 (.list 13 X.op.m (fun i=>ac (dT (X.op.f i)))) (.slice a2 X.op.m c2))(r3:Rd w 0 (.list 17 X.nl (fun i=>ac (aN (X.lf i)))) (.slice a3 X.nl c3))(hz:ax 11 (ac (aX X))<= 1048576)(hb:jH X)(rs:Rd w 0 (.list 7 n (fun i=>ac (aR (f i)))) (.slice a n cap))(hn:n<= 1048576)(br:Bool)(hbr:br=true↔ eK f n):
 Calls prog 6 #[.agg (aq X a1 X.set.n c1 a2 X.op.m c2 a3 X.nl c3).toArray,.slice a n cap] w fun e w'=>∃ b1 d1 b2 d2 b3 d3,e=.returned (.tuple #[.agg (aq (eY (cn X && br) X n f) b1 (eY (cn X && br) X n f).set.n d1 b2 (eY (cn X && br) X n f).op.m d2 b3 (eY (cn X && br) X n f).nl d3).toArray,.bool (cn X && br)])/\Fl w' w.heap.size (aX (eY (cn X && br) X n f)) (aq (eY (cn X && br) X n f) b1 (eY (cn X && br) X n f).set.n d1 b2 (eY (cn X && br) X n f).op.m d2 b3 (eY (cn X && br) X n f).nl d3)/\Below w.heap.size w w':=by
 obtain ⟨x,hx⟩:∃ x,cn X=x:=⟨_,rfl⟩
 rw [hx];obtain ⟨B,hB⟩:∃ B,B=w.heap.size:=⟨_,rfl⟩
 obtain ⟨W,hW⟩:∃ W,W=(w.alloc (.cells (aq X a1 X.set.n c1 a2 X.op.m c2 a3 X.nl c3).toArray 41)).alloc (.cells fM 41):=⟨_,rfl⟩
 have HB:Hid (w.heap.size=B/\cn X=x/\jH X/\ax 11 (ac (aX X))<= 1048576/\n<= 1048576/\(br=true↔ eK f n)):=⟨hB.symm,hx,hb,hz,hn,hbr⟩
 have HS:Hid (Rd w 0 (.list 7 X.set.n (fun i=>ac (aR (X.set.f i)))) (.slice a1 X.set.n c1)/\Rd w 0 (.list 13 X.op.m (fun i=>ac (dT (X.op.f i)))) (.slice a2 X.op.m c2)/\Rd w 0 (.list 17 X.nl (fun i=>ac (aN (X.lf i)))) (.slice a3 X.nl c3)/\Rd w 0 (.list 7 n (fun i=>ac (aR (f i)))) (.slice a n cap)):=⟨r1,r2,r3,rs⟩
 have G0:Hid (Below w.heap.size w W/\ae W B 41 (aq X a1 X.set.n c1 a2 X.op.m c2 a3 X.nl c3).toArray/\ae W (B+1) 41 fM/\W.heap.size=B+2):=by
  refine ⟨?_,?_,?_,?_⟩
  ·rw [hW];exact af (aa w _) (aa _ _)
  ·rw [hW,hB];exact (ae.new w _ _).below (aa _ _)
  ·rw [hW,hB];have:=ae.new (w.alloc (.cells (aq X a1 X.set.n c1 a2 X.op.m c2 a3 X.nl c3).toArray 41)) fM 41;simpa using this
  rw [hW,hB];simp
 clear r1 r2 r3 rs hz hb hn hbr hx;go_enter func6,ntmps6
 go_upto_region 1 with fail
 have hB1:w.heap.size+1=B+1:=by omega
 rw [<- hW,hB1,<- hB];clear hW hB hB1;obtain ⟨⟨y0,y1,y2,y3,y4,y5,y6,y7,y8,y9,y10⟩,-⟩:=G0.out.2.1.tc11;go_wp2_with fail
 refine (rg X a1 _ c1 a2 _ c2 a3 _ c3 _ (HS.out.1.below G0.out.1) (HS.out.2.1.below G0.out.1) (HS.out.2.2.1.below G0.out.1) HB.out.2.2.2.1).mono ?_;rintro e w1 ⟨b1,d1,b2,d2,b3,d3,rfl,O,b'⟩;clear y0 y1 y2 y3 y4 y5 y6 y7 y8 y9 y10;obtain ⟨h,hh⟩:∃ l,l=w1.heap.size:=⟨_,rfl⟩
 obtain ⟨W1,hW1⟩:∃ W,W=w1.alloc (.cells (aq X b1 X.set.n d1 b2 X.op.m d2 b3 X.nl d3).toArray 41):=⟨_,rfl⟩
 have bW:Below w1.heap.size w1 W1:=by rw [hW1];exact aa _ _
 have bb:=af b' bW;have G1:Hid (Below w.heap.size w W1/\ae W1 B 41 (aq X a1 X.set.n c1 a2 X.op.m c2 a3 X.nl c3).toArray/\ae W1 (B+1) 41 fM/\ae W1 h 41 (aq X b1 X.set.n d1 b2 X.op.m d2 b3 X.nl d3).toArray/\cH W1 (B+2) h (aX X) (aq X b1 X.set.n d1 b2 X.op.m d2 b3 X.nl d3)/\B+2<= h/\h+1=W1.heap.size):=⟨af G0.out.1 bb,G0.out.2.1.below bb,G0.out.2.2.1.below bb,by rw [hW1,hh];exact ae.new _ _ _,by have:=O.r.below bW Nl;rw [<- hh,G0.out.2.2.2] at this;exact this,by have:=b'.size;have:=G0.out.2.2.2;omega,by rw [hW1,hh];simp⟩
 clear b' bW bb O G0;go_upto_region 2 with fail
 rw [<- hh];have hW1':W1=w1.alloc (.cells #[Vi X.nw,Vi X.set.wt,Vi X.set.tr,.slice b1 X.set.n d1,Vi X.op.nx,.slice b2 X.op.m d2,.slice b3 X.nl d3,Vi X.sk,Vi X.re,Vi X.fa,Vi X.se] 41):=hW1;rw [<- hW1'];clear hW1 hW1' hh;obtain ⟨⟨y0,y1,y2,y3,y4,y5,y6,y7,y8,y9,y10⟩,-⟩:=G1.out.2.1.tc11;go_wp2_with fail
 refine (j4 X a1 c1 a2 c2 a3 c3 _ (VF.back (HS.out.1.below G1.out.1) (HS.out.2.1.below G1.out.1) (HS.out.2.2.1.below G1.out.1)) HB.out.2.2.1).mono ?_;rintro e w2 ⟨rfl,b'⟩;clear y0 y1 y2 y3 y4 y5 y6 y7 y8 y9 y10;rw [HB.out.2.1];have G2:Hid (Below w.heap.size w w2/\ae w2 (B+1) 41 fM/\ae w2 h 41 (aq X b1 X.set.n d1 b2 X.op.m d2 b3 X.nl d3).toArray/\cH w2 (B+2) h (aX X) (aq X b1 X.set.n d1 b2 X.op.m d2 b3 X.nl d3)/\B+2<= h/\h<w2.heap.size):=⟨af G1.out.1 b',G1.out.2.2.1.below b',G1.out.2.2.2.1.below b',G1.out.2.2.2.2.1.below b' (by have:=G1.out.2.2.2.2.2.2;omega),G1.out.2.2.2.2.2.1,by have:=b'.size;have:=G1.out.2.2.2.2.2.2;omega⟩
 clear b' G1;cases x
 case false=>
  obtain ⟨V,hV⟩:∃ V,V=aF w2 (B+1) 0 (aq X b1 X.set.n d1 b2 X.op.m d2 b3 X.nl d3):=⟨_,rfl⟩
  have H9:Hid (Fl V w.heap.size (aX X) (aq X b1 X.set.n d1 b2 X.op.m d2 b3 X.nl d3)/\Below w.heap.size w V/\ae V (B+1) 41 (aq X b1 X.set.n d1 b2 X.op.m d2 b3 X.nl d3).toArray):=by
   have gs:w2.grownBy V (some (B+1)):=by rw [hV];exact bf _ _ _
   have s1:=gs.size;have s2:=HB.out.1;have q:=(((G2.out.2.2.2.1.mono Nl (Nat.le_of_lt G2.out.2.2.2.2.2))).grow gs (fun j hj=>.inl (by have:=Option.some.inj hj;omega)) Nl).fl.mono (lo':=w.heap.size) (by omega);exact ⟨q,by rw [hV];exact aD (by omega) _ _ _ (G2.out.1),by rw [hV];exact ae.wr (G2.out.2.1) (by simp [bO])⟩
  have hr:w2.rangeAt h 0 (aq X b1 X.set.n d1 b2 X.op.m d2 b3 X.nl d3):=(G2.out.2.2.1).all;have ht:=(G2.out.2.1).there 0 11 (by simp);go_upto_region 3 with fail
  refine wp_region_lit ?_;refine wpList_load_mid rfl 41 (.tmp 6) rfl h 0 rfl (aq X b1 X.set.n d1 b2 X.op.m d2 b3 X.nl d3) _ hr underlying41 rfl (by kernel_rfl) ?_;refine wpList_store_mid rfl 41 (.tmp 4) (.tmp 17) rfl (B+1) 0 (aq X b1 X.set.n d1 b2 X.op.m d2 b3 X.nl d3).toArray rfl rfl ht (by kernel_rfl) (by simp [Value.oneCell']) ?_;rw [bm,<- hV];clear hV hr ht;go_wp2;refine bodyPost_ret (v:=.tuple #[.agg (aq X b1 X.set.n d1 b2 X.op.m d2 b3 X.nl d3).toArray,.bool false]) (dC results6 rfl rfl (run_loadVar_mid _ _ _ 41 (aq X b1 X.set.n d1 b2 X.op.m d2 b3 X.nl d3) _ H9.out.2.2.all underlying41 rfl (by kernel_rfl))) rfl ⟨b1,d1,b2,d2,b3,d3,rfl,H9.out.1,H9.out.2.1⟩
 go_wp2_with fail
 refine (gM a n cap f _ (HS.out.2.2.2.below G2.out.1).slu.2 (by have:=HB.out.2.2.2.2.1;omega) br HB.out.2.2.2.2.2).mono ?_;rintro e w3 ⟨rfl,b'⟩;have G3:Hid (Below w.heap.size w w3/\ae w3 (B+1) 41 fM/\ae w3 h 41 (aq X b1 X.set.n d1 b2 X.op.m d2 b3 X.nl d3).toArray/\cH w3 (B+2) h (aX X) (aq X b1 X.set.n d1 b2 X.op.m d2 b3 X.nl d3)/\B+2<= h/\h<w3.heap.size):=⟨af G2.out.1 b',G2.out.2.1.below b',G2.out.2.2.1.below b',G2.out.2.2.2.1.below b' (by have:=G2.out.2.2.2.2.2;omega),G2.out.2.2.2.2.1,by have:=b'.size;have:=G2.out.2.2.2.2.2;omega⟩
 clear b' G2;cases br
 case false=>
  obtain ⟨V,hV⟩:∃ V,V=aF w3 (B+1) 0 (aq X b1 X.set.n d1 b2 X.op.m d2 b3 X.nl d3):=⟨_,rfl⟩
  have H9:Hid (Fl V w.heap.size (aX X) (aq X b1 X.set.n d1 b2 X.op.m d2 b3 X.nl d3)/\Below w.heap.size w V/\ae V (B+1) 41 (aq X b1 X.set.n d1 b2 X.op.m d2 b3 X.nl d3).toArray):=by
   have gs:w3.grownBy V (some (B+1)):=by rw [hV];exact bf _ _ _
   have s1:=gs.size;have s2:=HB.out.1;have q:=(((G3.out.2.2.2.1.mono Nl (Nat.le_of_lt G3.out.2.2.2.2.2))).grow gs (fun j hj=>.inl (by have:=Option.some.inj hj;omega)) Nl).fl.mono (lo':=w.heap.size) (by omega);exact ⟨q,by rw [hV];exact aD (by omega) _ _ _ (G3.out.1),by rw [hV];exact ae.wr (G3.out.2.1) (by simp [bO])⟩
  have hr:w3.rangeAt h 0 (aq X b1 X.set.n d1 b2 X.op.m d2 b3 X.nl d3):=(G3.out.2.2.1).all;have ht:=(G3.out.2.1).there 0 11 (by simp);go_upto_region 3 with fail
  refine wp_region_lit ?_;refine wpList_load_mid rfl 41 (.tmp 6) rfl h 0 rfl (aq X b1 X.set.n d1 b2 X.op.m d2 b3 X.nl d3) _ hr underlying41 rfl (by kernel_rfl) ?_;refine wpList_store_mid rfl 41 (.tmp 4) (.tmp 17) rfl (B+1) 0 (aq X b1 X.set.n d1 b2 X.op.m d2 b3 X.nl d3).toArray rfl rfl ht (by kernel_rfl) (by simp [Value.oneCell']) ?_;rw [bm,<- hV];clear hV hr ht;go_wp2;refine bodyPost_ret (v:=.tuple #[.agg (aq X b1 X.set.n d1 b2 X.op.m d2 b3 X.nl d3).toArray,.bool false]) (dC results6 rfl rfl (run_loadVar_mid _ _ _ 41 (aq X b1 X.set.n d1 b2 X.op.m d2 b3 X.nl d3) _ H9.out.2.2.all underlying41 rfl (by kernel_rfl))) rfl ⟨b1,d1,b2,d2,b3,d3,rfl,H9.out.1,H9.out.2.1⟩
 obtain ⟨b4,d4,w4,h1,o4,b'⟩:=mh (B:=w3.heap.size) (HS.out.2.2.2.below G3.out.1) (by have:=HB.out.2.2.2.2.1;omega) rfl;have HA:Hid (rc (w3.alloc (.cells #[] 61)) (.slice (some ⟨w3.heap.size,0,none⟩) 0 0) (.slice a n cap) (.slice b4 n d4) w4):=h1;obtain ⟨⟨z0,z1,z2,z3,z4,z5,z6,z7,z8,z9,bM⟩,zf⟩:=(G3.out.2.2.1.below b').tc11;have g3:=zf 3;clear zf h1;go_upto_region 5 with (at_builtin;refine kH rfl (.tmp 18) (.tmp 19) rfl rfl (.slice (some ⟨w3.heap.size,0,none⟩) 0 0) (.slice a n cap) (.slice b4 n d4) rfl rfl HA.out ?_)
 obtain ⟨W5,hX⟩:∃ z,z=aF w4 h 3 [.slice b4 n d4]:=⟨_,rfl⟩
 have G5:Hid (Below w.heap.size w W5/\ae W5 (B+1) 41 fM/\ae W5 h 41 (aq ({ X with set:={ X.set with n:=n,f:=f } }) b4 n d4 b2 X.op.m d2 b3 X.nl d3).toArray/\cH W5 (B+2) W5.heap.size (aX { X with set:={ X.set with n:=n,f:=f } }) (aq ({ X with set:={ X.set with n:=n,f:=f } }) b4 n d4 b2 X.op.m d2 b3 X.nl d3)):=by
  have gs:w4.grownBy W5 (some h):=by rw [hX];exact bf _ _ _
  have s1:=gs.size;have s2:=HB.out.1;have s3:=b'.size;have s4:=G3.out.2.2.2.2;have f1:=((G3.out.2.2.2.1.below b' (by omega)).grow gs (fun j hj=>.inr (by have:=Option.some.inj hj;omega)) (by omega)).mono Nl (show h<= W5.heap.size by omega);have o5:=(o4.r.grow gs (fun j hj=>.inl (by have:=Option.some.inj hj;omega)) Nl).mono (show B+2<= w3.heap.size by omega) (show w4.heap.size<= W5.heap.size by omega);have q:cH W5 (B+2) W5.heap.size (aX { X with set:={ X.set with n:=n,f:=f } }) (aq ({ X with set:={ X.set with n:=n,f:=f } }) b4 n d4 b2 X.op.m d2 b3 X.nl d3):=cH.set 3 f1 o5 (show 3<11 by decide);exact ⟨by rw [hX];exact aD (by omega) _ _ _ (af G3.out.1 b'),by rw [hX];exact ae.stNe (by omega) _ _ (G3.out.2.1.below b'),by rw [hX];exact ae.wr (G3.out.2.2.1.below b') (by simp [bO]),q⟩
 simp only [aF,Nat.reduceAdd,Nat.zero_add] at hX;rw [<- hX];clear hX z0 z1 z2 z3 z4 z5 z6 z7 z8 z9 bM g3 b' o4 HA;obtain ⟨V,hV⟩:∃ V,V=aF W5 (B+1) 0 (aq ({ X with set:={ X.set with n:=n,f:=f } }) b4 n d4 b2 X.op.m d2 b3 X.nl d3):=⟨_,rfl⟩
 have H9:Hid (Fl V w.heap.size (aX { X with set:={ X.set with n:=n,f:=f } }) (aq ({ X with set:={ X.set with n:=n,f:=f } }) b4 n d4 b2 X.op.m d2 b3 X.nl d3)/\Below w.heap.size w V/\ae V (B+1) 41 (aq ({ X with set:={ X.set with n:=n,f:=f } }) b4 n d4 b2 X.op.m d2 b3 X.nl d3).toArray):=by
  have gs:W5.grownBy V (some (B+1)):=by rw [hV];exact bf _ _ _
  have s1:=gs.size;have s2:=HB.out.1;have q:=((G5.out.2.2.2).grow gs (fun j hj=>.inl (by have:=Option.some.inj hj;omega)) Nl).fl.mono (lo':=w.heap.size) (by omega);exact ⟨q,by rw [hV];exact aD (by omega) _ _ _ (G5.out.1),by rw [hV];exact ae.wr (G5.out.2.1) (by simp [bO])⟩
 have hr:W5.rangeAt h 0 (aq ({ X with set:={ X.set with n:=n,f:=f } }) b4 n d4 b2 X.op.m d2 b3 X.nl d3):=(G5.out.2.2.1).all;have ht:=(G5.out.2.1).there 0 11 (by simp);refine wp_region_lit ?_;refine wpList_load_mid rfl 41 (.tmp 6) rfl h 0 rfl (aq ({ X with set:={ X.set with n:=n,f:=f } }) b4 n d4 b2 X.op.m d2 b3 X.nl d3) _ hr underlying41 rfl (by kernel_rfl) ?_;refine wpList_store_mid rfl 41 (.tmp 4) (.tmp 23) rfl (B+1) 0 (aq ({ X with set:={ X.set with n:=n,f:=f } }) b4 n d4 b2 X.op.m d2 b3 X.nl d3).toArray rfl rfl ht (by kernel_rfl) (by simp [Value.oneCell']) ?_;rw [bm,<- hV];clear hV hr ht;go_wp2;refine bodyPost_ret (v:=.tuple #[.agg (aq ({ X with set:={ X.set with n:=n,f:=f } }) b4 n d4 b2 X.op.m d2 b3 X.nl d3).toArray,.bool true]) (dC results6 rfl rfl (run_loadVar_mid _ _ _ 41 (aq ({ X with set:={ X.set with n:=n,f:=f } }) b4 n d4 b2 X.op.m d2 b3 X.nl d3) _ H9.out.2.2.all underlying41 rfl (by kernel_rfl))) rfl ⟨b4,d4,b2,d2,b3,d3,rfl,H9.out.1,H9.out.2.1⟩
theorem VN.bdN{N:VN}(h:ax 17 (ac (aN N))<= 2000000):jF N:=by
 rw [eT] at h;have h1:=gz (s:=9) (n:=N.nq) (f:=fun i=>ac (aJ (N.qf i))) (N:=2000000) (by omega);refine ⟨h1.1,fun k hk=>?_,by omega,by omega⟩
 have:=h1.2 k hk;rw [dy] at this;exact ⟨by omega,by omega⟩
theorem VF.bdF{X:VF}(h:ax 11 (ac (aX X))<= 2000000)(h64:∀ k,k<X.set.n->-9223372036854775808<= (X.set.f k).sh/\(X.set.f k).sh<= 9223372036854775807):jH X:=by
 rw [eg] at h;have h1:=gz (s:=7) (n:=X.set.n) (f:=fun i=>ac (aR (X.set.f i))) (N:=2000000) (by omega);have h3:=gz (s:=17) (n:=X.nl) (f:=fun i=>ac (aN (X.lf i))) (N:=2000000) (by omega);exact ⟨h1.1,h64,VT.bd (by rw [cQ];omega),h3.1,fun k hk=>VN.bdN (h3.2 k hk)⟩
end Go.Proofs.YtohikbpolofklaaGreat
namespace Go.Proofs.YtohikbpolofklaaGreat
open Go.ChangeShapes Go.WideShapes Go.ChangeAt Go.RowKit Go.Deep Go.Joins Go.Proofs.Tryz
theorem ya{z:Int}(h:(Lit.int .i64 z).wf=true):-9223372036854775808<= z/\z<= 9223372036854775807:=bounds_i64 h
def tM(w:World):Sh->Value->Prop
 | .int,v=>∃ z,v=Vi z/\-9223372036854775808<= z/\z<= 9223372036854775807
 | .bool,v=>∃ z,v=.bool z
 | .lst s f,v=>∃ a n c,v=.slice a n c/\n<= c/\n<= maxLen/\(n=0\/∃ (g off:Nat) (F:Nat->List Value),a=some ⟨g,off,none⟩/\g<w.heap.size/\
  ∀ k,k<n->(F k).length=s/\∀ j v,(F k)[j]? = some v->w.cell? ⟨g,off+k*s+j,none⟩=some v/\tM w (f j) v)
def wY(w:World)(S:List Sh)(vs:List Value):Prop:=vs.length=S.length/\∀ j v,vs[j]? = some v->tM w (S.getD j .int) v
section
variable {H:Type} {enc:TypeId × Value->H} {P:Program} {w:World} {base:Nat} {held:Bool}
theorem mn{sh:TypeId->Option (List Sh)}{cs:List Value}
 (hsh:∀ t S,sh t=some S->∀ (fuel:Nat) cs' (y:DataW H × List MemPlace),DataW.trod enc P w base (fun _=>true) held fuel t cs'=some y->wY w S cs'):
 ∀ (fs:List Field) (o:Nat) (S:List Sh),lT P sh fs o=some S->(∀ (i:Nat) f,fs[i]? = some f->∃ (n:Nat) (y:DataW H × List MemPlace),DataW.trod enc P w base (fun _=>true) held n f.type ((cs.drop f.offset).take (P.cellsOf f.type))=some y) ->
  ∀ j v,j<S.length->cs[o+j]? = some v->tM w (S.getD j .int) v
 | [],o,S,h,_,j,v,hj,hv=>by
  simp only [lT,Option.some.injEq] at h;subst h;simp at hj
 |f:: r,o,S,h,hf,j,v,hj,hv=>by
  unfold lT at h;split at h
  ·rename_i l l' h1 h2
   split at h
   ·rename_i hc
    simp only [Option.some.injEq] at h;subst h;obtain ⟨n,y,hy⟩:=hf 0 f rfl;obtain ⟨q1,q2⟩:=hsh _ _ h1 _ _ _ hy;by_cases e:j<l.length
    ·have:=q2 j v (by
      rw [List.getElem?_take,if_pos (by omega),List.getElem?_drop,hc.1];exact hv)
     rw [List.getD_eq_getElem?_getD] at this ⊢;rw [List.getElem?_append_left e];exact this
    have:=mn hsh r _ l' h2 (fun i f' hf'=>hf (i+1) f' (by simpa using hf')) (j-l.length) v (by simp at hj;omega) (by
     rw [show o+P.cellsOf f.type+(j-l.length)=o+j by omega];exact hv)
    rw [List.getD_eq_getElem?_getD] at this ⊢;rw [List.getElem?_append_right (by omega)];exact this
   simp at h
  simp at h
theorem iK:∀ (n:Nat) (t:TypeId) (S:List Sh),iQ P n t=some S->∀ (fuel:Nat) cs (y:DataW H × List MemPlace),DataW.trod enc P w base (fun _=>true) held fuel t cs=some y->wY w S cs
 |0,t,S,h,_,_,_,_=>by simp [iQ] at h
 |n+1,t,S,h,fuel,cs,y,hy=>by
  unfold iQ at h;split at h
  ·rename_i ht
   simp only [Option.some.injEq] at h;subst h;obtain ⟨z,rfl,_,hz⟩:=DataW.trod_int ht hy;refine ⟨rfl,fun j v hv=>?_⟩
   match j,hv with
   |0,hv=>simp at hv;subst hv;exact ⟨z,rfl,ya hz⟩
   |j+1,hv=>simp at hv
  ·rename_i ht
   simp only [Option.some.injEq] at h;subst h;obtain ⟨z,rfl,_⟩:=DataW.trod_bool ht hy;refine ⟨rfl,fun j v hv=>?_⟩
   match j,hv with
   |0,hv=>simp at hv;subst hv;exact ⟨z,rfl⟩
   |j+1,hv=>simp at hv
  ·rename_i e ht
   split at h
   ·rename_i l hl
    split at h
    ·rename_i hc
     simp only [Option.some.injEq] at h;subst h;rcases open_slice ht hy with ⟨rfl,_⟩|⟨x,len,c,m,n',D,Pl,rfl,_,hlc,hcm,hmm,_,hx⟩
     ·refine ⟨rfl,fun j v hv=>?_⟩
      match j,hv with
      |0,hv=>simp at hv;subst hv;exact ⟨none,0,0,rfl,Nl,Nat.zero_le _,.inl rfl⟩
      |j+1,hv=>simp at hv
     simp only [if_true] at hmm;subst hmm;rw [hc.1] at hx;obtain ⟨F,hF⟩:=choose_lt (α:=List Value) (p:=fun i cs'=>w.cells? base (x.add (i*l.length)) l.length=some cs'/\DataW.trod enc P w base (fun _=>true) held n' e cs'=some (D i,Pl i)) (fun i hi=>hx i hi);refine ⟨rfl,fun j v hv=>?_⟩
     match j,hv with
     |0,hv=>
      simp at hv;subst hv;refine ⟨some x,len,m,rfl,hlc,by omega,?_⟩
      by_cases e0:len=0
      ·exact .inl e0
      have hc0:=(World.cells?_some (hF 0 (by omega)).1)
      obtain ⟨b,off,spot⟩:=x;have hc9:=hc0.2.2 0 hc.2;obtain ⟨v0,hv0⟩:∃ v,(F 0)[0]? = some v:=⟨(F 0)[0]'(by rw [hc0.2.1];exact hc.2),by simp⟩
      rw [hv0] at hc9;have hspot:spot=none:=by simpa [Addr.add] using World.cell?_spot hc9
      subst hspot;refine .inr ⟨b,off,F,rfl,(by simpa [Addr.add] using World.block_lt_of_cell? _ _ hc9),fun k hk=>?_⟩;have h1:=World.cells?_some (hF k (by omega)).1;obtain ⟨q1,q2⟩:=iK n e l hl _ _ _ (hF k (by omega)).2;refine ⟨q1,fun j v hj=>⟨?_,q2 j v hj⟩⟩
      have h2:=h1.2.2 j (by rw [<- q1];exact (List.getElem?_eq_some_iff.1 hj).1)
      have e1:∀ (o n:Nat),(Addr.mk b o none).add n=⟨b,o+n,none⟩:=fun o n=>by
       by_cases e:n=0
       ·subst e;rfl
       simp [Addr.add,e]
      rw [e1,e1,hj] at h2;exact h2
     |j+1,hv=>simp at hv
    simp at h
   simp at h
  ·rename_i fs ht
   split at h
   ·rename_i l hl
    split at h
    ·rename_i hc
     simp only [Option.some.injEq] at h;subst h;obtain ⟨xs,m,_,hx,hlen,hxl,hg⟩:=DataW.trod_struct ht hy;refine ⟨by rw [hlen,hc],fun j v hv=>?_⟩
     have hj:j<l.length:=by
      have:=(List.getElem?_eq_some_iff.1 hv).1;omega
     exact mn (cs:=cs) (fun t' S' hs=>iK n t' S' hs) fs.toList 0 l hl (fun i f hf=>by
      have hf':fs[i]? = some f:=by simpa using hf
      have:=hg i f hf';have hi:i<xs.length:=by rw [hxl];exact (Array.getElem?_eq_some_iff.1 hf').1
      exact ⟨m,xs[i],by rw [this];simp⟩) j v hj (by rw [Nat.zero_add];exact hv)
    simp at h
   simp at h
  simp at h
end
theorem pK{w:World}{lo n l c:Nat}{f:Nat->Sh}{g:Nat->Ru}{a:OA}(hf:f 6=.int)(h:tM w (.lst 7 f) (.slice a l c))(hr:Rd w lo (.list 7 n (fun i=>ac (aR (g i)))) (.slice a l c)):∀ k,k<n->-9223372036854775808<= (g k).sh/\(g k).sh<= 9223372036854775807:=by
 intro k hk;obtain ⟨a',n',c',h1,_,_,h4⟩:=h;simp only [Value.slice.injEq] at h1;obtain ⟨rfl,rfl,rfl⟩:=h1;have hl:l=n:=hr.slu.1;subst hl;obtain ⟨b,off,vs,ha,_,_,hlen,hrng,hd⟩:=hr.at hk;rcases h4 with h4|⟨b',off',F,ha',_,hc⟩
 ·omega
 rw [ha] at ha';simp only [Option.some.injEq,Addr.mk.injEq,and_true] at ha';obtain ⟨rfl,rfl⟩:=ha';have e:=Ru.cells hd hlen;subst e;have q1:=hrng 6 _ rfl;obtain ⟨q2,q3⟩:=hc k hk;obtain ⟨v,hv⟩:∃ v,(F k)[6]? = some v:=⟨(F k)[6]'(by omega),by simp⟩
 obtain ⟨q4,q5⟩:=q3 6 v hv;rw [q1] at q4;obtain rfl:=Option.some.inj q4;rw [hf] at q5;obtain ⟨z,hz,hb⟩:=q5;simp only [cG,Value.int.injEq,true_and] at hz;rw [hz];exact hb
theorem rL{H:Type}{enc:TypeId × Value->H}{P:Program}{w:World}{base:Nat}{held:Bool}{t:TypeId}{d:DataW H}{p:List MemPlace}{N:Nat}{S:List Sh}{l:List Value}{n m c:Nat}{f:Nat->Sh}{g:Nat->Ru}{a:OA}(hsh:iQ P N t=some S)(h:DataW.Trod enc P w base (fun _=>true) held t (.agg l.toArray) d p)
 (h3:l[3]? = some (.slice a m c))(hS:S.getD 3 .int=.lst 7 f)(hf:f 6=.int)(hr:Rd w 0 (.list 7 n (fun i=>ac (aR (g i)))) (.slice a m c)):∀ k,k<n->-9223372036854775808<= (g k).sh/\(g k).sh<= 9223372036854775807:=by
 obtain ⟨fuel,hf'⟩:=h;have h9:=(iK N t _ hsh fuel l _ (by simpa [Value.cells] using hf')).2 3 _ h3;rw [hS] at h9;exact pK hf h9 hr
end Go.Proofs.YtohikbpolofklaaGreat
