/- Texts that the proof needs, joined: Bys0 Bys Marks Box StR ArgS Ios Bos Req1 Cpy El0 Cl1 Cl2 Mid Mid2 Wr1 Resp1 Tr0. -/
import Derived.Test.YtohikbpolofklaaGreatChecked
import Derived.WalkKit
import Derived.Deep.OwnRows
import Derived.Deep.QuietTactic
import Derived.BigQuiet
import Derived.Lib.SmallJoins
import Derived.Laws.MakeOwn
import Derived.ProofKit
import Derived.OpenShut
import Derived.Deep.Grids
import Derived.Deep.Cut
import Derived.Deep.CutRange
import Derived.Deep.DeepCutAuto
import Derived.WideMake
import Derived.Carry
import Derived.Laws.CopyOwn
import Derived.Deep.RegionHeld3
import Derived.Deep.MidRow
set_option linter.unusedVariables false
set_option linter.unusedSimpArgs false
set_option maxHeartbeats 4000000
set_option maxRecDepth 20000
namespace Go.Proofs.YtohikbpolofklaaGreat
open Go.RowKit Go.Proofs.Tryz
abbrev Vi(x:Int):Value:=.int .i64 x
abbrev Vp(b o:Nat):Value:=.pointer (some ⟨b,o,none⟩)
abbrev Zs:Value:=.slice none 0 0
abbrev OA:=Option Addr
theorem Br{B:Nat}{w:World}:Below B w w:=Below.refl _ _
theorem Nl{a:Nat}:a<= a:=Nat.le_refl _
abbrev bM:Array Value:=#[Vi 0,Vi 0,Vi 0,Zs,Zs,Vi 0]
abbrev cx:Array Value:=#[Vi 0,Vi 0,Vi 0,Vi 0,Zs,Zs]
def Sl(w:World)(a:OA)(zs:List Int):Prop:=
 zs=[]\/∃ b off,a=some ⟨b,off,none⟩/\b<w.heap.size/\∀ i,i<zs.length->w.cell? ⟨b,off+i,none⟩=some (.int .u8 (zs.getD i 0))
theorem sj{α:Type}{a b:α}(h:some a=some b):a=b:=Option.some.inj h
theorem dQ{x b:Bool}(y:Bool)(hb:x=b)(e:x=y):y=b:=e.symm.trans hb
theorem gY{a b c d:Prop}(ha:a)(hb:b)(hc:c)(hd:d):Hid (a/\b/\c/\d):=⟨ha,hb,hc,hd⟩
theorem dR{B:Nat}{a w:World}(h:Below B a w)(n:Nat):Below B a (w.drewN n):=h.trans ⟨rfl,rfl,rfl,Nl,fun _ _=>rfl⟩
theorem tN{k:IntKind}{a b:Int}(h:a=b):Ending.returned (.int k a)=.returned (.int k b):=by rw [h]
def yk(w:World)(base:Nat)(v:Value)(zs:List Int):Prop:=w.ownsRow base 5 1 v zs.length (zs.map (Value.int .u8))
theorem gZ{w w':World}(hb:Below w.heap.size w w')(row:Option Nat):w.grownBy w' row:=⟨hb.os,hb.tape,hb.output,hb.size,fun k hk _=>hb.block k hk⟩
def marks(n:Nat):List Int:=(List.range n).map (fun i:Nat=>((i:Int)+1) % 256)
def ym(w wr:World)(g cap k:Nat):Prop:=
 w.grownBy wr (some g)/\∃ cur,wr.heap[g]? = some (.cells cur 5 (0,0))/\cur.size=cap/\∀ i,i<k->cur[i]? = some (.int .u8 (((i:Int)+1) % 256))
theorem cF(w:World)(n:Nat):Below w.heap.size w (w.drewN n):=dR Br n
theorem dM{p:Prop}(h:p):Hid p:=h
def vf(w:World)(g:Nat)(t:TypeId)(v:Value):Prop:=w.heap[g]? = some (.cells #[v] t (0,0))
end Go.Proofs.YtohikbpolofklaaGreat
namespace Go.Proofs.YtohikbpolofklaaGreat
open Go.RowKit Go.Joins Go.Proofs.Tryz
theorem tO{s i k j l:Nat}(hj:j<s)(hl:l<s)(h:i*s+j=k*s+l):i=k/\j=l:=by
 have e1:(i*s+j) / s=i:=by rw [Nat.mul_comm,Nat.mul_add_div (by omega),Nat.div_eq_of_lt hj,Nat.add_zero]
 have e2:(k*s+l) / s=k:=by rw [Nat.mul_comm,Nat.mul_add_div (by omega),Nat.div_eq_of_lt hl,Nat.add_zero]
 have:i=k:=by rw [<- e1,h,e2]
 subst this;exact ⟨rfl,by omega⟩
def CsAt(w:World)(g o:Nat)(vs:List Value):Prop:=∀ j,j<vs.length->w.cell? ⟨g,o+j,none⟩=vs[j]?
def aM(w:World)(g:Nat)(t:TypeId)(s n:Nat)(F:Nat->List Value):Prop:=
 ∃ cs,w.heap[g]? = some (.cells cs t (0,0))/\cs.size=n*s/\∀ k,k<n->∀ j,j<s->cs[k*s+j]? = (F k)[j]?
def aF(w:World)(g:Nat):Nat->List Value->World
 |_,[]=>w
 |o,v:: vs=>aF (w.setCell ⟨g,o,none⟩ v) g (o+1) vs
theorem j6{g:Nat}{t:TypeId}{fr:Nat × Nat}:∀ (vs:List Value) (w:World) (o:Nat) (cs:Array Value),w.heap[g]? = some (.cells cs t fr) ->
 ∃ cs',(aF w g o vs).heap[g]? = some (.cells cs' t fr)/\cs'.size=cs.size/\∀ i,i<cs.size->cs'[i]? = if o<= i/\i<o+vs.length then vs[i-o]? else cs[i]?
 | [],w,o,cs,h=>⟨cs,h,rfl,fun i _=>by rw [if_neg (by simp)]⟩
 |v:: vs,w,o,cs,h=>by
  obtain ⟨cs',h1,h2,h3⟩:=j6 vs (w.setCell ⟨g,o,none⟩ v) (o+1) (cs.setIfInBounds o v) (block_setCell h v);refine ⟨cs',h1,by simpa using h2,fun i hi=>?_⟩
  rw [h3 i (by simpa using hi)];by_cases e:i=o
  ·subst e
   rw [if_neg (by omega),if_pos (by simp)];simp [hi]
  by_cases e2:o<= i/\i<o+(v:: vs).length
  ·rw [if_pos (by simp at e2;omega),if_pos e2]
   obtain ⟨d,rfl⟩:∃ d,i=o+1+d:=⟨i-(o+1),by omega⟩
   rw [show o+1+d-(o+1)=d by omega,show o+1+d-o=d+1 by omega];simp
  rw [if_neg (by simp at e2;omega),if_neg e2,Array.getElem?_setIfInBounds_ne (by omega)]
theorem iY(vs:List Value):∀ (w:World) (g o:Nat),(aF w g o vs).heap.size=w.heap.size:=by
 induction vs with
 |nil=>intro w g o;rfl
 |cons v vs ih=>intro w g o;show (aF (w.setCell ⟨g,o,none⟩ v) g (o+1) vs).heap.size=_;rw [ih];simp [World.setCell]
theorem aD{B g:Nat}{w0:World}(hg:B<= g):∀ (vs:List Value) (w:World) (o:Nat),Below B w0 w->Below B w0 (aF w g o vs)
 | [],_,_,h=>h
 |v:: vs,w,o,h=>aD hg vs (w.setCell ⟨g,o,none⟩ v) (o+1) (h.setCell hg v)
theorem aM.lt{w:World}{g:Nat}{t:TypeId}{s n:Nat}{F:Nat->List Value}(h:aM w g t s n F):g<w.heap.size:=by
 obtain ⟨cs,h,_⟩:=h;exact (Array.getElem?_eq_some_iff.1 h).1
theorem aM.cell{w:World}{g:Nat}{t:TypeId}{s n:Nat}{F:Nat->List Value}(h:aM w g t s n F){k j:Nat}(hk:k<n)(hj:j<s):w.cell? ⟨g,k*s+j,none⟩=(F k)[j]?:=by
 obtain ⟨cs,h1,_,h3⟩:=h;rw [cell_of_block h1];exact h3 k hk j hj
theorem aM.fro{w:World}{g:Nat}{t:TypeId}{s n:Nat}{F:Nat->List Value}(h:aM w g t s n F)(o:Nat):w.frozen? ⟨g,o,none⟩=false:=by
 obtain ⟨cs,h1,_⟩:=h;exact unfrozen_of_block h1 o
theorem aM.below{w w':World}{g:Nat}{t:TypeId}{s n:Nat}{F:Nat->List Value}(h:aM w g t s n F)(hb:Below w.heap.size w w'):aM w' g t s n F:=by
 have hl:=h.lt;obtain ⟨cs,h1,h2,h3⟩:=h;exact ⟨cs,by rw [hb.block _ hl];exact h1,h2,h3⟩
theorem aM.congr{w:World}{g:Nat}{t:TypeId}{s n:Nat}{F G:Nat->List Value}(h:aM w g t s n F)(he:∀ k,k<n->F k=G k):aM w g t s n G:=by
 obtain ⟨cs,h1,h2,h3⟩:=h;exact ⟨cs,h1,h2,fun k hk j hj=>by rw [<- he k hk];exact h3 k hk j hj⟩
theorem aM.set{w:World}{g:Nat}{t:TypeId}{s n:Nat}{F:Nat->List Value}(h:aM w g t s n F){k:Nat}(hk:k<n)(vs:List Value)(hv:vs.length=s):aM (aF w g (k*s) vs) g t s n (fun i=>if i=k then vs else F i):=by
 obtain ⟨cs,h1,h2,h3⟩:=h;obtain ⟨cs',g1,g2,g3⟩:=j6 vs w (k*s) cs h1;refine ⟨cs',g1,by omega,fun i hi j hj=>?_⟩
 have hin:i*s+j<cs.size:=by
  rw [h2];have:(i+1)*s<= n*s:=Nat.mul_le_mul_right s hi;rw [Nat.add_mul,Nat.one_mul] at this;omega
 rw [g3 _ hin];by_cases e:i=k
 ·subst e
  rw [if_pos (by omega),Nat.add_sub_cancel_left];simp
 rw [if_neg]
 ·rw [h3 i hi j hj]
  simp [e]
 intro ⟨e1,e2⟩;obtain ⟨d,hd⟩:∃ d,i*s+j=k*s+d:=⟨i*s+j-k*s,by omega⟩
 exact e (tO hj (by omega) hd).1
theorem ct{P:Program}(t e:TypeId)(z:Value)(s bytes:Nat)(ht:P.underlying t=some (.slice e))(hinfo:(P.info? e).map (fun i=>(i.zero,i.size,i.bytes))=some (some z,s,bytes))
 (kl kc:IntKind)(n:Nat)(hbytes:bytes*n<= 281474976710656)(h63:n<= 9223372036854775807)(w:World):
 (Instr.makeSlice t (.int kl (n:Int)) (.int kc (n:Int))).run P w=.ok (.slice (some ⟨w.heap.size,0,none⟩) n n) (w.alloc (.cells (madeCells z.cells (n*s)) e)):=by
 obtain ⟨i,hi,hzz⟩:=Option.map_eq_some_iff.1 hinfo;simp only [Prod.mk.injEq] at hzz;obtain ⟨hz,hs,hb⟩:=hzz
 have hb':(i.bytes:Int)*(n:Int)<= 281474976710656:=by
  have h:((i.bytes*n:Nat):Int)<= 281474976710656:=by rw [hb];omega
  rwa [Int.natCast_mul] at h
 have hr:=run_make (P:=P) w t e i z ht hi hz kl kc n n (by omega) (Int.le_refl _) hb' (by omega);simp only [Int.toNat_natCast,hs] at hr;exact hr
theorem aM.made(w:World)(zs:List Value)(n:Nat)(t:TypeId)(h0:0<zs.length):aM (w.alloc (.cells (madeCells zs.toArray (n*zs.length)) t)) w.heap.size t zs.length n (fun _=>zs):=by
 refine ⟨madeCells zs.toArray (n*zs.length),(by show (w.heap.push _)[w.heap.size]? = _;simp),size_madeCells _ _,fun k hk j hj=>?_⟩
 have hin:k*zs.length+j<n*zs.length:=by
  have:(k+1)*zs.length<= n*zs.length:=Nat.mul_le_mul_right _ hk;rw [Nat.add_mul,Nat.one_mul] at this;omega
 have hm:(k*zs.length+j) % zs.length=j:=by rw [Nat.add_comm,Nat.add_mul_mod_self_right,Nat.mod_eq_of_lt hj]
 simp [madeCells,hin,hm,hj]
def fd(w:World)(a:OA)(s n:Nat)(F:Nat->List Value):Prop:=
 n=0\/∃ b off,a=some ⟨b,off,none⟩/\b<w.heap.size/\∀ k,k<n->∀ j,j<s->w.cell? ⟨b,off+k*s+j,none⟩=(F k)[j]?
theorem fd.below{w w':World}{a:OA}{s n:Nat}{F:Nat->List Value}(h:fd w a s n F)(hb:Below w.heap.size w w'):fd w' a s n F:=by
 rcases h with h|⟨b,off,ha,hlt,hc⟩
 ·exact .inl h
 exact .inr ⟨b,off,ha,by have:=hb.size;omega,fun k hk j hj=>by rw [hb.cell (p:=⟨b,off+k*s+j,none⟩) hlt];exact hc k hk j hj⟩
theorem fd.at{w:World}{a:OA}{s n:Nat}{F:Nat->List Value}(h:fd w a s n F){k:Nat}(hk:k<n):∃ b off,a=some ⟨b,off,none⟩/\b<w.heap.size/\∀ j,j<s->w.cell? ⟨b,off+k*s+j,none⟩=(F k)[j]?:=by
 rcases h with h|⟨b,off,ha,hlt,hc⟩
 ·omega
 exact ⟨b,off,ha,hlt,hc k hk⟩
end Go.Proofs.YtohikbpolofklaaGreat
namespace Go.Proofs.YtohikbpolofklaaGreat
open Go.ChangeShapes Go.WideShapes Go.ChangeAt Go.RowKit Go.Deep Go.Joins Go.Proofs.Tryz
def InBys(w:World)(a:OA)(len:Nat)(zs:List Int):Prop:=zs.length=len/\len<= maxLen/\Sl w a zs/\∀ n ∈ zs,0<= n/\n<= 255
def be(w:World)(a:OA)(zs:List Bool):Prop:=
 zs=[]\/∃ b off,a=some ⟨b,off,none⟩/\b<w.heap.size/\∀ i,i<zs.length->w.cell? ⟨b,off+i,none⟩=some (.bool (zs.getD i false))
def xb(w:World)(a:OA)(len:Nat)(zs:List Bool):Prop:=zs.length=len/\be w a zs
section
variable {H:Type} {enc:TypeId × Value->H} {P:Program} {w:World} {base:Nat} {held:Bool}
end
end Go.Proofs.YtohikbpolofklaaGreat
namespace Go.Proofs.YtohikbpolofklaaGreat
open Go.RowKit Go.Proofs.Tryz
def aZ(w:World)(a:OA)(zs:List Int):Prop:=
 zs=[]\/∃ b off,a=some ⟨b,off,none⟩/\b<w.heap.size/\∀ i,i<zs.length->w.cell? ⟨b,off+i,none⟩=some (Vi (zs.getD i 0))
theorem aZ.below{w w':World}{a:OA}{zs:List Int}(h:aZ w a zs)(hb:Below w.heap.size w w'):aZ w' a zs:=by
 rcases h with h|⟨b,off,ha,hlt,hc⟩
 ·exact .inl h
 exact .inr ⟨b,off,ha,by have:=hb.size;omega,fun i hi=>by rw [hb.cell (p:=⟨b,off+i,none⟩) hlt];exact hc i hi⟩
theorem cj{w:World}{a:OA}{zs:List Int}(hs:aZ w a zs){k:Nat}(hlt:k<zs.length):∃ b off,a=some ⟨b,off,none⟩/\b<w.heap.size/\w.cell? ⟨b,off+k,none⟩=some (Vi (zs.getD k 0)):=by
 rcases hs with hs|⟨b,off,h1,h2,h3⟩
 ·rw [hs] at hlt;simp at hlt
 exact ⟨b,off,h1,h2,h3 k hlt⟩
def bi(w:World)(base:Nat)(v:Value)(zs:List Int):Prop:=w.ownsRow base 3 1 v zs.length (zs.map (Value.int .i64))
theorem bi.sl{w:World}{base n cap:Nat}{a:OA}{zs:List Int}(h:bi w base (.slice a n cap) zs):n=zs.length/\aZ w a zs:=by
 obtain ⟨_,h2⟩:=h;rcases h2 with ⟨h2,h3⟩|⟨g,cap',cur,hv,_,hh,hle,_,hs,ht⟩
 ·have e:zs=[]:=List.eq_nil_of_length_eq_zero h3
  simp only [Value.slice.injEq] at h2;exact ⟨by rw [h3];exact h2.2.1,.inl e⟩
 simp only [Value.slice.injEq] at hv;refine ⟨hv.2.1,.inr ⟨g,0,hv.1,(Array.getElem?_eq_some_iff.1 hh).1,fun i hi=>?_⟩⟩
 have e1:cur.toList[i]? = some (Vi (zs.getD i 0)):=by
  have e2:(cur.toList.take (zs.length*1))[i]? = (zs.map (Value.int .i64))[i]?:=by rw [ht]
  rw [List.getElem?_take,if_pos (by omega)] at e2;rw [e2];simp [hi]
 simp only [World.cell?,hh,Nat.zero_add];rw [Array.getElem?_toList] at e1;exact e1
theorem bi.kept{w w':World}{base:Nat}{v:Value}{row:Option Nat}{zs:List Int}(h:bi w base v zs)(hg:w.grownBy w' row)(hne:v.ownBlock=none\/v.ownBlock≠row):bi w' base v zs:=World.ownsRow.kept h hg hne
theorem bi.below{w w':World}{base:Nat}{v:Value}{zs:List Int}(h:bi w base v zs)(hb:Below w.heap.size w w'):bi w' base v zs:=by
 refine h.kept (gZ hb (some w.heap.size)) ?_;cases e:v.ownBlock with
 |none=>exact .inl rfl
 |some k=>exact .inr (fun e2=>by have:=(World.ownsRow.lt h k e).2;simp at e2;omega)
theorem bi.ofRow{w:World}{base b n:Nat}{zs:List Int}(h:w.rowIs b 3 n (fun i=>Vi (zs.getD i 0)))(hn:n=zs.length)(hb:base<= b)(hm:n<= maxLen):bi w base (.slice (some ⟨b,0,none⟩) n n) zs:=by
 subst hn;obtain ⟨c,hc,hsz,hcell⟩:=h;refine ⟨by simp,.inr ⟨b,zs.length,c,rfl,hb,hc,Nl,hm,by simpa using hsz,?_⟩⟩
 apply List.ext_getElem?;intro i;by_cases hi:i<zs.length
 ·rw [List.getElem?_take,if_pos (by omega),Array.getElem?_toList,hcell i hi]
  simp [hi]
 rw [List.getElem?_eq_none (by simp;omega),List.getElem?_eq_none (by simp;omega)]
theorem Tryz.infoI3:(prog.info? 3).map (fun i=>(i.zero,i.size,i.bytes))=some (some (Vi 0),1,8):=by kernel_rfl
theorem pN(a:OA)(n cap:Nat)(zs:List Int)(w:World)(hn:n=zs.length)(hs:aZ w a zs)(hl:zs.length<= 2000000):
 Calls prog 165 #[.slice a n cap] w fun e w'=>e=.returned (.slice (some ⟨w.heap.size,0,none⟩) n n)/\
  w'.rowIs w.heap.size 3 n (fun i=>Vi (zs.getD i 0))/\Below w.heap.size w w':=by
 subst hn;have hmk:=run_make_row' (P:=prog) 76 3 (Vi 0) 8 underlying76 Tryz.infoI3 rfl .i64 .i64 zs.length (by omega) (by omega);go_enter func165,ntmps165
 go_wp2;clear hmk;go_loopw [4] (fun i wr=>∃ k:Nat,k<= zs.length/\i=Vi k/\wr.rowIs w.heap.size 3 zs.length (fun i=>if i<k then Vi (zs.getD i 0) else Vi 0)/\Below w.heap.size w wr) (fun i _=>zs.length-(intOf i).toNat)
 case atStart=>exact ⟨0,Nat.zero_le _,rfl,(World.rowIs_made w _ _ _).congr (fun i _=>by simp),Br.alloc Nl _⟩
 case round=>
  obtain ⟨k,hk,rfl,hrow,hb⟩:=hrel;by_cases hlt:k<zs.length
  ·obtain ⟨b,off,rfl,hb0,hc0⟩:=cj hs hlt
   have hc:wr.cell? ⟨b,off+k,none⟩=some (Vi (zs.getD k 0)):=by rw [hb.cell (p:=⟨b,off+k,none⟩) hb0];exact hc0
   have hst:=hrow.cell hlt;simp only [Nat.lt_irrefl,if_false] at hst;have hfz:=hrow.frozen k;have hi:(k:Int)<(zs.length:Int):=by omega
   have R:Hid ((wr.setCell ⟨w.heap.size,k,none⟩ (Vi (zs.getD k 0))).rowIs w.heap.size 3 zs.length (fun i=>if i<k+1 then Vi (zs.getD i 0) else Vi 0)):=by
    refine (hrow.set k _).congr (fun i _=>?_);by_cases e:i=k
    ·subst e;simp
    rw [if_neg e];by_cases h:i<k
    ·rw [if_pos h,if_pos (by omega)]
    rw [if_neg h,if_neg (by omega)]
   have B1:Below w.heap.size w (wr.setCell ⟨w.heap.size,k,none⟩ (Vi (zs.getD k 0))):=hb.setCell Nl _;clear hrow hb hc0 hs;go_wp2;go_roundw
   case rel=>exact ⟨k+1,by omega,by go_num,by simpa [hlt] using R.out,by simpa [hlt] using B1⟩
   case measure=>simp [intOf];omega
  have hkk:k=zs.length:=by omega
  have R:Hid (wr.rowIs w.heap.size 3 zs.length (fun i=>Vi (zs.getD i 0))):=hrow.congr (fun i hi=>by rw [if_pos (by omega)]);clear hrow hs hkk;go_wp2;go_ret;exact ⟨rfl,R.out,hb⟩
theorem n7(a a':OA)(n n' cap cap':Nat)(zs:List Int)(w:World)(hn:n=zs.length)(hn':n'=zs.length)(hs:aZ w a zs)(hs':aZ w a' zs)(hl:zs.length<= 2000000):
 Calls prog 181 #[.slice a n cap,.slice a' n' cap'] w fun e w'=>e=.returned (.bool true)/\∃ n,w'=w.drewN n:=by
 subst hn hn';go_enter func181,ntmps181
 go_wp2;go_loopw [5] (fun i wr=>∃ k:Nat,k<= zs.length/\i=Vi k/\∃ n,wr=w.drewN n) (fun i _=>zs.length-(intOf i).toNat)
 case atStart=>exact ⟨0,Nat.zero_le _,rfl,0,rfl⟩
 case round=>
  obtain ⟨k,hk,rfl,n,rfl⟩:=hrel;by_cases hlt:k<zs.length
  ·obtain ⟨b,off,rfl,_,hc⟩:=cj hs hlt
   obtain ⟨b',off',rfl,_,hc'⟩:=cj hs' hlt;have hi:(k:Int)<(zs.length:Int):=by omega
   clear hs hs';go_wp2;go_quiet (fail)
   go_wp2;go_roundw
   case rel=>exact ⟨k+1,by omega,by go_num,_,rfl⟩
   case measure=>simp [intOf];omega
  clear hs hs';go_wp2;go_ret;exact ⟨rfl,_,rfl⟩
def eF(s n:Nat):List Int:=(List.range n).map (fun i:Nat=>(s:Int)+(i:Int))
theorem fg(s n:Nat):(eF s n).length=n:=by simp [eF]
theorem j7(s n i:Nat)(h:i<n):(eF s n).getD i 0=(s:Int)+(i:Int):=by simp [eF,h]
def yh(s:Nat)(w wr:World)(g cap k:Nat):Prop:=
 w.grownBy wr (some g)/\∃ cur,wr.heap[g]? = some (.cells cur 3 (0,0))/\cur.size=cap/\∀ i,i<k->cur[i]? = some (Vi ((s:Int)+(i:Int)))
theorem be.below{w w':World}{a:OA}{zs:List Bool}(h:be w a zs)(hb:Below w.heap.size w w'):be w' a zs:=by
 rcases h with h|⟨b,off,ha,hlt,hc⟩
 ·exact .inl h
 exact .inr ⟨b,off,ha,by have:=hb.size;omega,fun i hi=>by rw [hb.cell (p:=⟨b,off+i,none⟩) hlt];exact hc i hi⟩
theorem b7{w:World}{a:OA}{zs:List Bool}(hs:be w a zs){k:Nat}(hlt:k<zs.length):∃ b off,a=some ⟨b,off,none⟩/\b<w.heap.size/\w.cell? ⟨b,off+k,none⟩=some (.bool (zs.getD k false)):=by
 rcases hs with hs|⟨b,off,h1,h2,h3⟩
 ·rw [hs] at hlt;simp at hlt
 exact ⟨b,off,h1,h2,h3 k hlt⟩
def bD(w:World)(base:Nat)(v:Value)(zs:List Bool):Prop:=w.ownsRow base 4 1 v zs.length (zs.map (Value.bool))
theorem bD.sl{w:World}{base n cap:Nat}{a:OA}{zs:List Bool}(h:bD w base (.slice a n cap) zs):n=zs.length/\be w a zs:=by
 obtain ⟨_,h2⟩:=h;rcases h2 with ⟨h2,h3⟩|⟨g,cap',cur,hv,_,hh,hle,_,hs,ht⟩
 ·have e:zs=[]:=List.eq_nil_of_length_eq_zero h3
  simp only [Value.slice.injEq] at h2;exact ⟨by rw [h3];exact h2.2.1,.inl e⟩
 simp only [Value.slice.injEq] at hv;refine ⟨hv.2.1,.inr ⟨g,0,hv.1,(Array.getElem?_eq_some_iff.1 hh).1,fun i hi=>?_⟩⟩
 have e1:cur.toList[i]? = some (.bool (zs.getD i false)):=by
  have e2:(cur.toList.take (zs.length*1))[i]? = (zs.map (Value.bool))[i]?:=by rw [ht]
  rw [List.getElem?_take,if_pos (by omega)] at e2;rw [e2];simp [hi]
 simp only [World.cell?,hh,Nat.zero_add];rw [Array.getElem?_toList] at e1;exact e1
theorem bD.ofRow{w:World}{base b n:Nat}{zs:List Bool}(h:w.rowIs b 4 n (fun i=>.bool (zs.getD i false)))(hn:n=zs.length)(hb:base<= b)(hm:n<= maxLen):bD w base (.slice (some ⟨b,0,none⟩) n n) zs:=by
 subst hn;obtain ⟨c,hc,hsz,hcell⟩:=h;refine ⟨by simp,.inr ⟨b,zs.length,c,rfl,hb,hc,Nl,hm,by simpa using hsz,?_⟩⟩
 apply List.ext_getElem?;intro i;by_cases hi:i<zs.length
 ·rw [List.getElem?_take,if_pos (by omega),Array.getElem?_toList,hcell i hi]
  simp [hi]
 rw [List.getElem?_eq_none (by simp;omega),List.getElem?_eq_none (by simp;omega)]
theorem Tryz.info4:(prog.info? 4).map (fun i=>(i.zero,i.size,i.bytes))=some (some (.bool false),1,1):=by kernel_rfl
theorem n8(a:OA)(n cap:Nat)(zs:List Bool)(w:World)(hn:n=zs.length)(hs:be w a zs)(hl:zs.length<= 20000000):
 Calls prog 134 #[.slice a n cap] w fun e w'=>e=.returned (.slice (some ⟨w.heap.size,0,none⟩) n n)/\
  w'.rowIs w.heap.size 4 n (fun i=>.bool (zs.getD i false))/\Below w.heap.size w w':=by
 subst hn;have hmk:=run_make_row' (P:=prog) 77 4 (.bool false) 1 underlying77 Tryz.info4 rfl .i64 .i64 zs.length (by omega) (by omega);go_enter func134,ntmps134
 go_wp2;clear hmk;go_loopw [4] (fun i wr=>∃ k:Nat,k<= zs.length/\i=Vi k/\wr.rowIs w.heap.size 4 zs.length (fun i=>if i<k then .bool (zs.getD i false) else .bool false)/\Below w.heap.size w wr) (fun i _=>zs.length-(intOf i).toNat)
 case atStart=>exact ⟨0,Nat.zero_le _,rfl,(World.rowIs_made w _ _ _).congr (fun i _=>by simp),Br.alloc Nl _⟩
 case round=>
  obtain ⟨k,hk,rfl,hrow,hb⟩:=hrel;by_cases hlt:k<zs.length
  ·obtain ⟨b,off,rfl,hb0,hc0⟩:=b7 hs hlt
   have hc:wr.cell? ⟨b,off+k,none⟩=some (.bool (zs.getD k false)):=by rw [hb.cell (p:=⟨b,off+k,none⟩) hb0];exact hc0
   have hst:=hrow.cell hlt;simp only [Nat.lt_irrefl,if_false] at hst;have hfz:=hrow.frozen k;have hi:(k:Int)<(zs.length:Int):=by omega
   have R:Hid ((wr.setCell ⟨w.heap.size,k,none⟩ (.bool (zs.getD k false))).rowIs w.heap.size 4 zs.length (fun i=>if i<k+1 then .bool (zs.getD i false) else .bool false)):=by
    refine (hrow.set k _).congr (fun i _=>?_);by_cases e:i=k
    ·subst e;simp
    rw [if_neg e];by_cases h:i<k
    ·rw [if_pos h,if_pos (by omega)]
    rw [if_neg h,if_neg (by omega)]
   have B1:Below w.heap.size w (wr.setCell ⟨w.heap.size,k,none⟩ (.bool (zs.getD k false))):=hb.setCell Nl _;clear hrow hb hc0 hs;go_wp2;go_roundw
   case rel=>exact ⟨k+1,by omega,by go_num,by simpa [hlt] using R.out,by simpa [hlt] using B1⟩
   case measure=>simp [intOf];omega
  have hkk:k=zs.length:=by omega
  have R:Hid (wr.rowIs w.heap.size 4 zs.length (fun i=>.bool (zs.getD i false))):=hrow.congr (fun i hi=>by rw [if_pos (by omega)]);clear hrow hs hkk;go_wp2;go_ret;exact ⟨rfl,R.out,hb⟩
theorem mI(a a':OA)(n n' cap cap':Nat)(zs:List Bool)(w:World)(hn:n=zs.length)(hn':n'=zs.length)(hs:be w a zs)(hs':be w a' zs)(hl:zs.length<= 20000000):
 Calls prog 155 #[.slice a n cap,.slice a' n' cap'] w fun e w'=>e=.returned (.bool true)/\∃ n,w'=w.drewN n:=by
 subst hn hn';go_enter func155,ntmps155
 go_wp2;go_loopw [5] (fun i wr=>∃ k:Nat,k<= zs.length/\i=Vi k/\∃ n,wr=w.drewN n) (fun i _=>zs.length-(intOf i).toNat)
 case atStart=>exact ⟨0,Nat.zero_le _,rfl,0,rfl⟩
 case round=>
  obtain ⟨k,hk,rfl,n,rfl⟩:=hrel;by_cases hlt:k<zs.length
  ·obtain ⟨b,off,rfl,_,hc⟩:=b7 hs hlt
   obtain ⟨b',off',rfl,_,hc'⟩:=b7 hs' hlt;have hi:(k:Int)<(zs.length:Int):=by omega
   clear hs hs';go_wp2;go_quiet (fail)
   go_wp2;go_roundw
   case rel=>exact ⟨k+1,by omega,by go_num,_,rfl⟩
   case measure=>simp [intOf];omega
  clear hs hs';go_wp2;go_ret;exact ⟨rfl,_,rfl⟩
def dX(s n:Nat):List Bool:=(List.range n).map (fun i:Nat=>((s:Int)+(i:Int)) % 3 == 0)
theorem fh(s n:Nat):(dX s n).length=n:=by simp [dX]
theorem j8(s n i:Nat)(h:i<n):(dX s n).getD i false=(((s:Int)+(i:Int)) % 3 == 0):=by simp [dX,h]
def yi(s:Nat)(w wr:World)(g cap k:Nat):Prop:=
 w.grownBy wr (some g)/\∃ cur,wr.heap[g]? = some (.cells cur 4 (0,0))/\cur.size=cap/\∀ i,i<k->cur[i]? = some (.bool (((s:Int)+(i:Int)) % 3 == 0))
theorem ak{w0 w w':World}(h:Below w0.heap.size w0 w)(h':Below w.heap.size w w'):Below w0.heap.size w0 w':=h.trans (h'.mono h.size)
theorem aa(w:World)(o:Obj):Below w.heap.size w (w.alloc o):=(Below.refl _ w).alloc Nl o
def ae(w:World)(g:Nat)(t:TypeId)(cs:Array Value):Prop:=w.heap[g]? = some (.cells cs t (0,0))
theorem ae.cell{w:World}{g:Nat}{t:TypeId}{cs:Array Value}(h:ae w g t cs)(j:Nat){v:Value}(hj:cs[j]? = some v):w.cell? ⟨g,j,none⟩=some v:=by
 unfold ae at h;simp [World.cell?,h,hj]
theorem ae.fro{w:World}{g:Nat}{t:TypeId}{cs:Array Value}(h:ae w g t cs)(j:Nat):w.frozen? ⟨g,j,none⟩=false:=by
 unfold ae at h;simp [World.frozen?,h]
theorem ae.lt{w:World}{g:Nat}{t:TypeId}{cs:Array Value}(h:ae w g t cs):g<w.heap.size:=(Array.getElem?_eq_some_iff.1 h).1
theorem ae.new(w:World)(cs:Array Value)(t:TypeId):ae (w.alloc (.cells cs t)) w.heap.size t cs:=by
 show (w.heap.push (.cells cs t (0,0)))[w.heap.size]? = _;simp
theorem ae.below{w w':World}{g:Nat}{t:TypeId}{cs:Array Value}(h:ae w g t cs)(hb:Below w.heap.size w w'):ae w' g t cs:=by
 unfold ae;rw [hb.block g h.lt];exact h
theorem ae.grown{w w':World}{g:Nat}{t:TypeId}{cs:Array Value}{row:Option Nat}(h:ae w g t cs)(hg:w.grownBy w' row)(hne:row≠some g):ae w' g t cs:=by
 unfold ae;rw [hg.block g h.lt (fun e=>hne e.symm)];exact h
theorem ae.set{w:World}{g:Nat}{t:TypeId}{cs:Array Value}(h:ae w g t cs)(j:Nat)(y:Value):ae (w.setCell ⟨g,j,none⟩ y) g t (cs.setIfInBounds j y):=by
 unfold ae at h ⊢;simp [World.setCell,Array.getElem?_modify,h]
theorem ae.setNe{w:World}{g g' j:Nat}{t:TypeId}{cs:Array Value}{y:Value}(h:ae w g t cs)(hne:g≠g'):ae (w.setCell ⟨g',j,none⟩ y) g t cs:=by
 unfold ae;rw [Below.heap_setCell _ _ _ _ hne];exact h
theorem lL{w:World}{base size n g:Nat}{e t:TypeId}{v:Value}{xs:List Value}{cs:Array Value}(h:w.ownsRow base e size v n xs)(hb:ae w g t cs)(ht:t≠e):v.ownBlock≠some g:=by
 intro he;obtain ⟨_,h2⟩:=h;rcases h2 with ⟨h2,_⟩|⟨g',cap,cur,hv,_,hh,_⟩
 ·rw [h2] at he;simp [Value.ownBlock] at he
 rw [hv] at he;simp [Value.ownBlock] at he;subst he;unfold ae at hb;rw [hb] at hh;simp at hh;exact ht hh.2
theorem ke(w:World)(g o:Nat)(v:Value):w.grownBy (w.setCell ⟨g,o,none⟩ v) (some g):=
 ⟨rfl,rfl,rfl,by simp [World.setCell],fun k hk hne=>Below.heap_setCell _ _ _ _ (fun e=>hne (by simpa using e))⟩
theorem kY{w:World}{base size n g j:Nat}{e t:TypeId}{v y:Value}{xs:List Value}{cs:Array Value}(h:w.ownsRow base e size v n xs)(hb:ae w g t cs)(ht:t≠e):(w.setCell ⟨g,j,none⟩ y).ownsRow base e size v n xs:=
 World.ownsRow.kept h (ke w g j y) (.inr (lL h hb ht))
def bp(w:World)(g:Nat)(t:TypeId):Prop:=∃ cs,ae w g t cs
theorem bp.set{w:World}{g g' j:Nat}{t:TypeId}{y:Value}(h:bp w g t):bp (w.setCell ⟨g',j,none⟩ y) g t:=by
 obtain ⟨cs,h⟩:=h;by_cases e:g=g'
 ·subst e;exact ⟨_,h.set j y⟩
 exact ⟨_,h.setNe e⟩
theorem bn{w:World}{base size n g j:Nat}{e t:TypeId}{v y:Value}{xs:List Value}(h:w.ownsRow base e size v n xs)(hb:bp w g t)(ht:t≠e):(w.setCell ⟨g,j,none⟩ y).ownsRow base e size v n xs:=by
 obtain ⟨cs,hb⟩:=hb;exact kY h hb ht
theorem lM(a:OA)(n cap:Nat)(zs:List Int)(w:World)(hn:n=zs.length)(hs:aZ w a zs)(hl:zs.length<= 2000000):
 Calls prog 165 #[.slice a n cap] w fun e w'=>∃ g,e=.returned (.slice (some ⟨g,0,none⟩) n n)/\bi w' w.heap.size (.slice (some ⟨g,0,none⟩) n n) zs/\Below w.heap.size w w':=by
 refine (pN a n cap zs w hn hs hl).mono ?_;rintro e w' ⟨rfl,q,b⟩;exact ⟨_,rfl,bi.ofRow q hn Nl (by unfold maxLen;omega),b⟩
theorem it(a:OA)(n cap:Nat)(zs:List Bool)(w:World)(hn:n=zs.length)(hs:be w a zs)(hl:zs.length<= 20000000):
 Calls prog 134 #[.slice a n cap] w fun e w'=>∃ g,e=.returned (.slice (some ⟨g,0,none⟩) n n)/\bD w' w.heap.size (.slice (some ⟨g,0,none⟩) n n) zs/\Below w.heap.size w w':=by
 refine (n8 a n cap zs w hn hs hl).mono ?_;rintro e w' ⟨rfl,q,b⟩;exact ⟨_,rfl,bD.ofRow q hn Nl (by unfold maxLen;omega),b⟩
theorem bi.mono{w:World}{base base':Nat}{v:Value}{zs:List Int}(h:bi w base v zs)(hb:base'<= base):bi w base' v zs:=by
 obtain ⟨h1,h2⟩:=h;refine ⟨h1,?_⟩
 rcases h2 with h2|⟨g,cap,cur,hv,hg,r⟩
 ·exact .inl h2
 exact .inr ⟨g,cap,cur,hv,by omega,r⟩
theorem bD.mono{w:World}{base base':Nat}{v:Value}{zs:List Bool}(h:bD w base v zs)(hb:base'<= base):bD w base' v zs:=by
 obtain ⟨h1,h2⟩:=h;refine ⟨h1,?_⟩
 rcases h2 with h2|⟨g,cap,cur,hv,hg,r⟩
 ·exact .inl h2
 exact .inr ⟨g,cap,cur,hv,by omega,r⟩
theorem mJ{w w':World}{a:OA}{zs:List Bool}(h:be w a zs)(hb:Below w.heap.size w w'):be w' a zs:=h.below hb
theorem qv(kd pl nn wa:Int)(a1 a2:OA)(l1 l2 c1 c2:Nat)(ws:List Int)(bs:List Bool)(w:World)(h1:l1=ws.length)(h2:l2=bs.length)(s1:aZ w a1 ws)(s2:be w a2 bs)(hl1:l1<= 2000000)(hl2:l2<= 2000000):
 Calls prog 132 #[.agg #[Vi kd,Vi pl,Vi nn,.slice a1 l1 c1,.slice a2 l2 c2,Vi wa]] w fun e w'=>∃ g1 g2,e=.returned (.agg #[Vi kd,Vi pl,Vi nn,.slice (some ⟨g1,0,none⟩) l1 l1,.slice (some ⟨g2,0,none⟩) l2 l2,Vi wa])/\
  bi w' w.heap.size (.slice (some ⟨g1,0,none⟩) l1 l1) ws/\bD w' w.heap.size (.slice (some ⟨g2,0,none⟩) l2 l2) bs/\Below w.heap.size w w':=by
 have H1:Hid (l1=ws.length):=h1;have H2:Hid (l2=bs.length):=h2;have HL:Hid (ws.length<= 2000000/\bs.length<= 20000000):=by show _/\_;omega
 obtain ⟨W0,hW0'⟩:∃ W0,W0=((w.alloc (.cells #[Vi kd,Vi pl,Vi nn,.slice a1 l1 c1,.slice a2 l2 c2,Vi wa] 79)).alloc (.cells bM 86)).alloc (.cells #[Vi kd,Vi pl,Vi nn,Zs,Zs,Vi 0] 86):=⟨_,rfl⟩
 have hW0:Hid (W0=_):=hW0';have hz:W0.heap.size=w.heap.size+1+1+1:=by rw [hW0'];simp
 have B0:Below w.heap.size w W0:=by rw [hW0'];exact ak (ak (aa w _) (aa _ _)) (aa _ _)
 have A0:ae W0 w.heap.size 79 #[Vi kd,Vi pl,Vi nn,.slice a1 l1 c1,.slice a2 l2 c2,Vi wa]:=by rw [hW0'];exact ((ae.new w _ _).below (aa _ _)).below (aa _ _)
 have R0:ae W0 (w.heap.size+1) 86 bM:=by
  rw [hW0'];have:=(ae.new (w.alloc (.cells #[Vi kd,Vi pl,Vi nn,.slice a1 l1 c1,.slice a2 l2 c2,Vi wa] 79)) bM 86).below (aa _ (.cells #[Vi kd,Vi pl,Vi nn,Zs,Zs,Vi 0] 86));simpa using this
 have O0:ae W0 (w.heap.size+1+1) 86 #[Vi kd,Vi pl,Vi nn,Zs,Zs,Vi 0]:=by
  rw [hW0'];have:=ae.new ((w.alloc (.cells #[Vi kd,Vi pl,Vi nn,.slice a1 l1 c1,.slice a2 l2 c2,Vi wa] 79)).alloc (.cells bM 86)) #[Vi kd,Vi pl,Vi nn,Zs,Zs,Vi 0] 86;simpa using this
 have S1:Hid (aZ W0 a1 ws):=s1.below B0;have S2:Hid (be w a2 bs):=s2;have c03:=A0.cell 3 rfl;clear h1 h2 s1 s2 hW0';go_enter func132,ntmps132
 go_upto_region 5 with fail
 rw [<- hW0.out];go_wp2_with fail
 refine (lM a1 l1 c1 ws _ H1.out S1.out HL.out.1).mono ?_;rintro e w1 ⟨g1,rfl,i1,b1'⟩;have b1:=ak B0 b1';have A1:=A0.below b1';have R1:=R0.below b1';have O1:=O0.below b1';have co:=O1.cell 3 rfl;have fo:=O1.fro 3;have A2:=A1.setNe (g':=w.heap.size+1+1) (j:=3) (y:=.slice (some ⟨g1,0,none⟩) l1 l1) (by omega);have R2:=R1.setNe (g':=w.heap.size+1+1) (j:=3) (y:=.slice (some ⟨g1,0,none⟩) l1 l1) (by omega);have O2:=O1.set 3 (.slice (some ⟨g1,0,none⟩) l1 l1);have I2:bi (w1.setCell ⟨w.heap.size+1+1,3,none⟩ (.slice (some ⟨g1,0,none⟩) l1 l1)) W0.heap.size (.slice (some ⟨g1,0,none⟩) l1 l1) ws:=kY i1 O1 (by decide);have b2:=b1.setCell (p:=⟨w.heap.size+1+1,3,none⟩) (by show w.heap.size<= w.heap.size+1+1;omega) (.slice (some ⟨g1,0,none⟩) l1 l1);clear b1' B0 A0 R0 O0 A1 R1 O1 i1 b1 c03;go_upto_region 6 with fail
 generalize w1.setCell ⟨w.heap.size+1+1,3,none⟩ (.slice (some ⟨g1,0,none⟩) l1 l1)=w2 at*;have c04:=A2.cell 4 rfl;clear co fo;go_wp2_with fail
 refine (it a2 l2 c2 bs _ H2.out (mJ S2.out b2) HL.out.2).mono ?_;rintro e w3 ⟨g2,rfl,j3,b3'⟩;have b3:=ak b2 b3';have A3:=A2.below b3';have R3:=R2.below b3';have O3:=O2.below b3';have I3:=I2.below b3';have c05:=A3.cell 5 rfl;have o0:=O3.cell 0 rfl;have o1:=O3.cell 1 rfl;have o2:=O3.cell 2 rfl;have o3:=O3.cell 3 rfl;have o4:=O3.cell 4 rfl;have o5:=O3.cell 5 rfl;have r0:=R3.cell 0 rfl;have r1:=R3.cell 1 rfl;have r2:=R3.cell 2 rfl;have r3:=R3.cell 3 rfl;have r4:=R3.cell 4 rfl;have r5:=R3.cell 5 rfl;have fo:=O3.fro;have fr:=R3.fro;have HH:Hid (bi w3 W0.heap.size (.slice (some ⟨g1,0,none⟩) l1 l1) ws):=I3;have b2s:Hid (w.heap.size<= w2.heap.size):=b2.size;clear A2 R2 O2 I2 b3' A3 b2 c04 I3;have eO:bp w3 (w.heap.size+1+1) 86:=⟨_,O3⟩
 have eR:bp w3 (w.heap.size+1) 86:=⟨_,R3⟩
 have HJ:Hid (bD w3 w2.heap.size (.slice (some ⟨g2,0,none⟩) l2 l2) bs/\Below w.heap.size w w3/\bp w3 (w.heap.size+1+1) 86/\bp w3 (w.heap.size+1) 86):=⟨j3,b3,eO,eR⟩
 have hz2:w.heap.size<= w2.heap.size:=by have:=b2s.out;omega
 have hz0:w.heap.size<= W0.heap.size:=by omega
 clear O3 R3 j3 b3 eO eR;go_wp2;refine bodyPost_ret (v:=.agg #[Vi kd,Vi pl,Vi nn,.slice (some ⟨g1,0,none⟩) l1 l1,.slice (some ⟨g2,0,none⟩) l2 l2,Vi wa]) (by simp [results,results132,go_sem,r0,r1,r2,r3,r4,r5]) rfl ?_;obtain ⟨j3,b3,eO,eR⟩:=HJ.out;refine ⟨g1,g2,rfl,?_,?_,?_⟩
 ·exact bi.mono (show bi _ _ _ _ from (bn (bn (bn (bn (bn (bn (bn (bn HH.out eO (by decide)) (bp.set eO) (by decide)) (bp.set (bp.set eR)) (by decide)) (bp.set (bp.set (bp.set eR))) (by decide)) (bp.set (bp.set (bp.set (bp.set eR)))) (by decide)) (bp.set (bp.set (bp.set (bp.set (bp.set eR))))) (by decide)) (bp.set (bp.set (bp.set (bp.set (bp.set (bp.set eR)))))) (by decide)) (bp.set (bp.set (bp.set (bp.set (bp.set (bp.set (bp.set eR))))))) (by decide))) hz0
 ·exact bD.mono (show bD _ _ _ _ from (bn (bn (bn (bn (bn (bn (bn (bn j3 eO (by decide)) (bp.set eO) (by decide)) (bp.set (bp.set eR)) (by decide)) (bp.set (bp.set (bp.set eR))) (by decide)) (bp.set (bp.set (bp.set (bp.set eR)))) (by decide)) (bp.set (bp.set (bp.set (bp.set (bp.set eR))))) (by decide)) (bp.set (bp.set (bp.set (bp.set (bp.set (bp.set eR)))))) (by decide)) (bp.set (bp.set (bp.set (bp.set (bp.set (bp.set (bp.set eR))))))) (by decide))) hz2
 exact ((((((((b3.setCell (p:=⟨w.heap.size+1+1,4,none⟩) (by show w.heap.size<= w.heap.size+1+1;omega) _).setCell (p:=⟨w.heap.size+1+1,5,none⟩) (by show w.heap.size<= w.heap.size+1+1;omega) _).setCell (p:=⟨w.heap.size+1,0,none⟩) (by show w.heap.size<= w.heap.size+1;omega) _).setCell (p:=⟨w.heap.size+1,1,none⟩) (by show w.heap.size<= w.heap.size+1;omega) _).setCell (p:=⟨w.heap.size+1,2,none⟩) (by show w.heap.size<= w.heap.size+1;omega) _).setCell (p:=⟨w.heap.size+1,3,none⟩) (by show w.heap.size<= w.heap.size+1;omega) _).setCell (p:=⟨w.heap.size+1,4,none⟩) (by show w.heap.size<= w.heap.size+1;omega) _).setCell (p:=⟨w.heap.size+1,5,none⟩) (by show w.heap.size<= w.heap.size+1;omega) _)
theorem lN(a a':OA)(n n' cap cap':Nat)(zs:List Int)(w:World)(hn:n=zs.length)(hn':n'=zs.length)(hs:aZ w a zs)(hs':aZ w a' zs)(hl:zs.length<= 2000000):
 Calls prog 181 #[.slice a n cap,.slice a' n' cap'] w fun e w'=>e=.returned (.bool true)/\Below w.heap.size w w':=by
 refine (n7 a a' n n' cap cap' zs w hn hn' hs hs' hl).mono ?_;rintro e w' ⟨rfl,k,rfl⟩;exact ⟨rfl,cF _ _⟩
theorem iu(a a':OA)(n n' cap cap':Nat)(zs:List Bool)(w:World)(hn:n=zs.length)(hn':n'=zs.length)(hs:be w a zs)(hs':be w a' zs)(hl:zs.length<= 20000000):
 Calls prog 155 #[.slice a n cap,.slice a' n' cap'] w fun e w'=>e=.returned (.bool true)/\Below w.heap.size w w':=by
 refine (mI a a' n n' cap cap' zs w hn hn' hs hs' hl).mono ?_;rintro e w' ⟨rfl,k,rfl⟩;exact ⟨rfl,cF _ _⟩
theorem pO(kd pl nn wa:Int)(a1 a2 a1' a2':OA)(l1 l2 l1' l2' c1 c2 c1' c2':Nat)(ws:List Int)(bs:List Bool)(w:World)(h1:l1=ws.length)(h2:l2=bs.length)(h1':l1'=ws.length)(h2':l2'=bs.length)(s1:aZ w a1 ws)(s2:be w a2 bs)(s1':aZ w a1' ws)(s2':be w a2' bs)(hl1:ws.length<= 2000000)(hl2:bs.length<= 20000000):
 Calls prog 153 #[.agg #[Vi kd,Vi pl,Vi nn,.slice a1 l1 c1,.slice a2 l2 c2,Vi wa],.agg #[Vi kd,Vi pl,Vi nn,.slice a1' l1' c1',.slice a2' l2' c2',Vi wa]] w fun e w'=>e=.returned (.bool true)/\Below w.heap.size w w':=by
 obtain ⟨W0,hW0'⟩:∃ W0,W0=(w.alloc (.cells #[Vi kd,Vi pl,Vi nn,.slice a1 l1 c1,.slice a2 l2 c2,Vi wa] 86)).alloc (.cells #[Vi kd,Vi pl,Vi nn,.slice a1' l1' c1',.slice a2' l2' c2',Vi wa] 86):=⟨_,rfl⟩
 have hW0:Hid (W0=_):=hW0';have B0:Below w.heap.size w W0:=by rw [hW0'];exact ak (aa w _) (aa _ _)
 have X0:ae W0 w.heap.size 86 #[Vi kd,Vi pl,Vi nn,.slice a1 l1 c1,.slice a2 l2 c2,Vi wa]:=by rw [hW0'];exact (ae.new w _ _).below (aa _ _)
 have Y0:ae W0 (w.heap.size+1) 86 #[Vi kd,Vi pl,Vi nn,.slice a1' l1' c1',.slice a2' l2' c2',Vi wa]:=by
  rw [hW0'];have:=ae.new (w.alloc (.cells #[Vi kd,Vi pl,Vi nn,.slice a1 l1 c1,.slice a2 l2 c2,Vi wa] 86)) #[Vi kd,Vi pl,Vi nn,.slice a1' l1' c1',.slice a2' l2' c2',Vi wa] 86;simpa using this
 have HH:Hid (l1=ws.length/\l2=bs.length/\l1'=ws.length/\l2'=bs.length/\aZ W0 a1 ws/\be W0 a2 bs/\aZ W0 a1' ws/\be W0 a2' bs):=⟨h1,h2,h1',h2',s1.below B0,s2.below B0,s1'.below B0,s2'.below B0⟩
 have x0:=X0.cell 0 rfl;have x1:=X0.cell 1 rfl;have x2:=X0.cell 2 rfl;have x3:=X0.cell 3 rfl;have y0:=Y0.cell 0 rfl;have y1:=Y0.cell 1 rfl;have y2:=Y0.cell 2 rfl;have y3:=Y0.cell 3 rfl;clear h1 h2 h1' h2' s1 s2 s1' s2' hW0';go_enter func153,ntmps153
 go_upto_region 1 with fail
 rw [<- hW0.out];go_wp2_with fail
 refine (lN _ _ _ _ _ _ ws _ HH.out.1 HH.out.2.2.1 HH.out.2.2.2.2.1 HH.out.2.2.2.2.2.2.1 hl1).mono ?_;rintro e w1 ⟨rfl,b1'⟩;have b1:=ak B0 b1';have X1:=X0.below b1';have Y1:=Y0.below b1';have x4:=X1.cell 4 rfl;have y4:=Y1.cell 4 rfl;have S1:Hid (be w1 a2 bs/\be w1 a2' bs):=⟨HH.out.2.2.2.2.2.1.below b1',HH.out.2.2.2.2.2.2.2.below b1'⟩
 clear x0 x1 x2 x3 y0 y1 y2 y3 X0 Y0 B0 b1';go_wp2_with fail
 refine (iu _ _ _ _ _ _ bs _ HH.out.2.1 HH.out.2.2.2.1 S1.out.1 S1.out.2 hl2).mono ?_;rintro e w2 ⟨rfl,b2'⟩;have b2:=ak b1 b2';have x5:=(X1.below b2').cell 5 rfl;have y5:=(Y1.below b2').cell 5 rfl;clear x4 y4 X1 Y1 b1 b2';go_wp2;go_ret;exact ⟨rfl,b2⟩
theorem xI:(prog.info? 4).map (·.size)=some 1:=by kernel_rfl
theorem vg{w:World}{b off:Nat}{zs:List Bool}(h:be w (some ⟨b,off,none⟩) zs):∀ j v,(zs.map Value.bool)[j]? = some v->w.cell? (Addr.add ⟨b,off,none⟩ j)=some v:=by
 intro j v hj
 have hlt:j<zs.length:=by
  rcases Nat.lt_or_ge j zs.length with q|q
  ·exact q
  rw [List.getElem?_eq_none (by simpa using q)] at hj;cases hj
 obtain ⟨b',off',e,_,hc⟩:=b7 h hlt;simp at e;obtain ⟨rfl,rfl⟩:=e
 have ev:v=.bool (zs.getD j false):=by
  rw [List.getElem?_map,List.getElem?_eq_getElem hlt] at hj;simp at hj;rw [<- hj,List.getD_eq_getElem?_getD,List.getElem?_eq_getElem hlt];rfl
 rw [ev];by_cases e0:j=0
 ·subst e0;simpa [Addr.add] using hc
 simpa [Addr.add,e0] using hc
theorem xc(zs:List Bool):∀ v ∈ zs.map Value.bool,v.oneCell'=true:=by
 intro v hv;obtain ⟨z,_,rfl⟩:=List.mem_map.1 hv;rfl
theorem bD.ofHeap{w:World}{base g n:Nat}{zs:List Bool}(h:w.heap[g]? = some (.cells (zs.map Value.bool).toArray 4 (0,0)))(hn:n=zs.length)(hb:base<= g)(hm:n<= maxLen):bD w base (.slice (some ⟨g,0,none⟩) n n) zs:=by
 subst hn;exact ⟨by simp,.inr ⟨g,zs.length,(zs.map Value.bool).toArray,rfl,hb,h,Nl,hm,by simp,by simp;exact List.take_of_length_le (by simp)⟩⟩
theorem n9{α:Type}(L cs:List α)(h:cs.length=L.length):splice L 0 cs=cs:=by simp [splice,h]
theorem qw(w:World)(n:Nat):∃ Z:List Value,Z.length=n/\(w.alloc (.cells (madeCells #[.bool false] n) 4)).heap[w.heap.size]? = some (.cells Z.toArray 4 (0,0)):=by
 obtain ⟨c,hc,hsz,_⟩:=World.rowIs_made w (.bool false) n 4;exact ⟨c.toList,by simpa using hsz,by simpa using hc⟩
theorem kZ(a:OA)(n cap:Nat)(zs:List Bool)(w:World)(hn:n=zs.length)(hs:be w a zs)(hl:zs.length<= 2000000):
 Calls prog 137 #[.slice a n cap] w fun e w'=>∃ g,e=.returned (.slice (some ⟨g,0,none⟩) n n)/\bD w' w.heap.size (.slice (some ⟨g,0,none⟩) n n) zs/\Below w.heap.size w w':=by
 have hm:n<= maxLen:=by unfold maxLen;omega
 have hmk:=run_make_row' (P:=prog) 77 4 (.bool false) 1 underlying77 Tryz.info4 rfl .i64 .i64 n (by omega) (by omega);obtain ⟨Z,hZ,hZh⟩:=qw w n;have HZ:Hid (Z.length=n):=hZ;have HZh:Hid ((w.alloc (.cells (madeCells #[.bool false] n) 4)).heap[w.heap.size]? = some (.cells Z.toArray 4 (0,0))):=hZh;have HN:Hid (n=zs.length):=hn;have b0:Below w.heap.size w (w.alloc (.cells (madeCells #[.bool false] n) 4)):=(Below.refl _ w).alloc Nl _;have hs1:=be.below hs b0;obtain ⟨X,hX⟩:∃ X,X=zs.map Value.bool:=⟨_,rfl⟩
 have HX:Hid (X=zs.map Value.bool):=hX;have hXl:Hid (X.length=n):=by show X.length=n;rw [hX,hn];simp
 have hpos:0<X.length->∃ ad,a=some ad/\∀ j v,X[j]? = some v->(w.alloc (.cells (madeCells #[.bool false] n) 4)).cell? (ad.add j)=some v:=by
  intro h;rcases hs1 with h0|⟨b,off,ha,hb,hc⟩
  ·rw [hX,h0] at h;simp at h
  exact ⟨⟨b,off,none⟩,ha,by rw [hX];exact vg (.inr ⟨b,off,rfl,hb,hc⟩)⟩
 have hone:∀ v ∈ X,v.oneCell'=true:=by rw [hX];exact xc zs
 have HP:Hid (0<X.length->∃ ad,a=some ad/\∀ j v,X[j]? = some v->(w.alloc (.cells (madeCells #[.bool false] n) 4)).cell? (ad.add j)=some v):=hpos;clear hs hs1 hn hZ hX hpos hZh;go_enter func137,ntmps137
 go_wp2_with ((refine wpList_copy_splice rfl (.tmp 7) (.tmp 8) 77 77 rfl 4 underlying77 xI _ _ _ _ _ _ rfl rfl w.heap.size 0 Z 4 HZh.out X (by rw [hXl.out];exact (Nat.min_self n).symm) (fun h=>⟨rfl,HP.out h⟩) (by rw [hXl.out,HZ.out];omega) hone w.heap.size w b0 Nl ?_);intro w2 H2 b2)
 have O2:bD w2 w.heap.size (.slice (some ⟨w.heap.size,0,none⟩) n n) zs:=bD.ofHeap (by rw [<- HX.out,<- n9 Z X (by rw [hXl.out,HZ.out])];exact H2.out) HN.out Nl hm;go_ret;exact ⟨_,rfl,O2,b2⟩
theorem xJ:(prog.info? 3).map (·.size)=some 1:=by kernel_rfl
theorem vh{w:World}{b off:Nat}{zs:List Int}(h:aZ w (some ⟨b,off,none⟩) zs):∀ j v,(zs.map (Value.int .i64))[j]? = some v->w.cell? (Addr.add ⟨b,off,none⟩ j)=some v:=by
 intro j v hj
 have hlt:j<zs.length:=by
  rcases Nat.lt_or_ge j zs.length with q|q
  ·exact q
  rw [List.getElem?_eq_none (by simpa using q)] at hj;cases hj
 obtain ⟨b',off',e,_,hc⟩:=cj h hlt;simp at e;obtain ⟨rfl,rfl⟩:=e
 have ev:v=Vi (zs.getD j 0):=by
  rw [List.getElem?_map,List.getElem?_eq_getElem hlt] at hj;simp at hj;rw [<- hj,List.getD_eq_getElem?_getD,List.getElem?_eq_getElem hlt];rfl
 rw [ev];by_cases e0:j=0
 ·subst e0;simpa [Addr.add] using hc
 simpa [Addr.add,e0] using hc
theorem xd(zs:List Int):∀ v ∈ zs.map (Value.int .i64),v.oneCell'=true:=by
 intro v hv;obtain ⟨z,_,rfl⟩:=List.mem_map.1 hv;rfl
theorem bi.ofHeap{w:World}{base g n:Nat}{zs:List Int}(h:w.heap[g]? = some (.cells (zs.map (Value.int .i64)).toArray 3 (0,0)))(hn:n=zs.length)(hb:base<= g)(hm:n<= maxLen):bi w base (.slice (some ⟨g,0,none⟩) n n) zs:=by
 subst hn;exact ⟨by simp,.inr ⟨g,zs.length,(zs.map (Value.int .i64)).toArray,rfl,hb,h,Nl,hm,by simp,by simp;exact List.take_of_length_le (by simp)⟩⟩
theorem ob{α:Type}(L cs:List α)(h:cs.length=L.length):splice L 0 cs=cs:=by simp [splice,h]
theorem qx(w:World)(n:Nat):∃ Z:List Value,Z.length=n/\(w.alloc (.cells (madeCells #[Vi 0] n) 3)).heap[w.heap.size]? = some (.cells Z.toArray 3 (0,0)):=by
 obtain ⟨c,hc,hsz,_⟩:=World.rowIs_made w (Vi 0) n 3;exact ⟨c.toList,by simpa using hsz,by simpa using hc⟩
theorem pk(a:OA)(n cap:Nat)(zs:List Int)(w:World)(hn:n=zs.length)(hs:aZ w a zs)(hl:zs.length<= 2000000):
 Calls prog 168 #[.slice a n cap] w fun e w'=>∃ g,e=.returned (.slice (some ⟨g,0,none⟩) n n)/\bi w' w.heap.size (.slice (some ⟨g,0,none⟩) n n) zs/\Below w.heap.size w w':=by
 have hm:n<= maxLen:=by unfold maxLen;omega
 have hmk:=run_make_row' (P:=prog) 76 3 (Vi 0) 8 underlying76 Tryz.infoI3 rfl .i64 .i64 n (by omega) (by omega);obtain ⟨Z,hZ,hZh⟩:=qx w n;have HZ:Hid (Z.length=n):=hZ;have HZh:Hid ((w.alloc (.cells (madeCells #[Vi 0] n) 3)).heap[w.heap.size]? = some (.cells Z.toArray 3 (0,0))):=hZh;have HN:Hid (n=zs.length):=hn;have b0:Below w.heap.size w (w.alloc (.cells (madeCells #[Vi 0] n) 3)):=(Below.refl _ w).alloc Nl _;have hs1:=aZ.below hs b0;obtain ⟨X,hX⟩:∃ X,X=zs.map (Value.int .i64):=⟨_,rfl⟩
 have HX:Hid (X=zs.map (Value.int .i64)):=hX;have hXl:Hid (X.length=n):=by show X.length=n;rw [hX,hn];simp
 have hpos:0<X.length->∃ ad,a=some ad/\∀ j v,X[j]? = some v->(w.alloc (.cells (madeCells #[Vi 0] n) 3)).cell? (ad.add j)=some v:=by
  intro h;rcases hs1 with h0|⟨b,off,ha,hb,hc⟩
  ·rw [hX,h0] at h;simp at h
  exact ⟨⟨b,off,none⟩,ha,by rw [hX];exact vh (.inr ⟨b,off,rfl,hb,hc⟩)⟩
 have hone:∀ v ∈ X,v.oneCell'=true:=by rw [hX];exact xd zs
 have HP:Hid (0<X.length->∃ ad,a=some ad/\∀ j v,X[j]? = some v->(w.alloc (.cells (madeCells #[Vi 0] n) 3)).cell? (ad.add j)=some v):=hpos;clear hs hs1 hn hZ hX hpos hZh;go_enter func168,ntmps168
 go_wp2_with ((refine wpList_copy_splice rfl (.tmp 7) (.tmp 8) 76 76 rfl 3 underlying76 xJ _ _ _ _ _ _ rfl rfl w.heap.size 0 Z 3 HZh.out X (by rw [hXl.out];exact (Nat.min_self n).symm) (fun h=>⟨rfl,HP.out h⟩) (by rw [hXl.out,HZ.out];omega) hone w.heap.size w b0 Nl ?_);intro w2 H2 b2)
 have O2:bi w2 w.heap.size (.slice (some ⟨w.heap.size,0,none⟩) n n) zs:=bi.ofHeap (by rw [<- HX.out,<- ob Z X (by rw [hXl.out,HZ.out])];exact H2.out) HN.out Nl hm;go_ret;exact ⟨_,rfl,O2,b2⟩
end Go.Proofs.YtohikbpolofklaaGreat
namespace Go.Proofs.YtohikbpolofklaaGreat
open Go.RowKit Go.Joins Go.Proofs.Tryz
structure El where
 pre:List Value
 ws:List Int
 bs:List Bool
 post:List Value
instance:Inhabited El:=⟨⟨[],[],[],[]⟩⟩
abbrev vi(E:El)(a1 a2:OA)(c1 c2:Nat):List Value:=E.pre++(.slice a1 E.ws.length c1:: .slice a2 E.bs.length c2:: E.post)
theorem af{w0 w w':World}(h:Below w0.heap.size w0 w)(h':Below w.heap.size w w'):Below w0.heap.size w0 w':=h.trans (h'.mono h.size)
theorem bf{g:Nat}:∀ (vs:List Value) (w:World) (o:Nat),w.grownBy (aF w g o vs) (some g)
 | [],w,o=>World.grownBy.refl w _
 |v:: vs,w,o=>by
  have h1:=ke w g o v;have h2:=bf (g:=g) vs (w.setCell ⟨g,o,none⟩ v) (o+1);exact ⟨h2.os.trans h1.os,h2.tape.trans h1.tape,h2.output.trans h1.output,Nat.le_trans h1.size h2.size,fun k hk hne=>by rw [show aF w g o (v:: vs)=aF (w.setCell ⟨g,o,none⟩ v) g (o+1) vs from rfl,h2.block k (Nat.lt_of_lt_of_le hk h1.size) hne,h1.block k hk hne]⟩
theorem fu{w:World}{base size n g o:Nat}{e t:TypeId}{v:Value}{xs vs:List Value}(h:w.ownsRow base e size v n xs)(hb:bp w g t)(ht:t≠e):(aF w g o vs).ownsRow base e size v n xs:=by
 obtain ⟨cs,hb⟩:=hb;exact World.ownsRow.kept h (bf vs w o) (.inr (lL h hb ht))
theorem vj{w:World}{base s n g:Nat}{e:TypeId}{v:Value}{xs:List Value}(h:w.ownsRow base e s v n xs)(hv:v.ownBlock=some g):bp w g e:=by
 rcases h.2 with ⟨rfl,_⟩|⟨g',cap,cur,rfl,_,hh,_⟩
 ·simp [Value.ownBlock] at hv
 simp [Value.ownBlock] at hv;subst hv;exact ⟨cur,hh⟩
theorem rP{w w':World}(hg:w.grownBy w' none):Below w.heap.size w w':=(Below.refl _ w).grown hg Nl (fun k hk=>by cases hk)
def xK(w:World)(g:Nat)(t:TypeId)(s o n:Nat)(F:Nat->List Value):Prop:=
 ∃ cs,w.heap[g]? = some (.cells cs t (0,0))/\o+n*s<= cs.size/\∀ k,k<n->∀ j,j<s->cs[o+k*s+j]? = (F k)[j]?
section
variable {w w':World} {g:Nat} {t:TypeId} {s o n:Nat} {F G:Nat->List Value}
end
def rQ(w:World)(base:Nat)(t:TypeId)(s:Nat)(v:Value)(n:Nat)(F:Nat->List Value):Prop:=
 (n=0/\∃ a c,v=.slice a 0 c)\/∃ g o c,v=.slice (some ⟨g,o,none⟩) n c/\base<= g/\xK w g t s o n F
section
variable {w w':World} {base:Nat} {t:TypeId} {s:Nat} {v:Value} {n:Nat} {F:Nat->List Value}
end
def xL(w:World)(lo hi:Nat)(vs:List Value)(E:El):Prop:=
 ∃ a1 a2 c1 c2,vs=vi E a1 a2 c1 c2/\bi w lo (.slice a1 E.ws.length c1) E.ws/\bD w lo (.slice a2 E.bs.length c2) E.bs/\
  (∀ k,(Value.slice a1 E.ws.length c1).ownBlock=some k->k<hi)/\(∀ k,(Value.slice a2 E.bs.length c2).ownBlock=some k->k<hi)
section
variable {w w':World} {lo hi:Nat} {vs:List Value} {E:El}
end
def tC(w:World)(base:Nat)(β:Nat->Nat)(F:Nat->List Value)(G:Nat->El)(z:Nat):Prop:=
 base<= β 0/\(∀ k,β k<= β (k+1))/\∀ k,k<z->xL w (β k) (β (k+1)) (F k) (G k)
section
variable {w w':World} {base gx z:Nat} {β:Nat->Nat} {F F':Nat->List Value} {G H:Nat->El}
end
def xM(w:World)(base:Nat)(t:TypeId)(s:Nat)(v:Value)(n:Nat)(G:Nat->El):Prop:=
 ∃ (F:Nat->List Value) (β:Nat->Nat),rQ w base t s v n F/\tC w base β F G n
def TopL(w:World)(base hi:Nat)(t:TypeId)(s:Nat)(v:Value)(n:Nat)(G:Nat->El):Prop:=
 ∃ (F:Nat->List Value) (β:Nat->Nat),rQ w base t s v n F/\tC w base β F G n/\β n<= hi/\∀ g o m c,v=.slice (some ⟨g,o,none⟩) m c->0<n->g<hi
def lO(w:World)(a:OA)(s n:Nat)(G:Nat->El):Prop:=
 ∃ F:Nat->List Value,fd w a s n F/\∀ k,k<n->∃ a1 a2 c1 c2,F k=vi (G k) a1 a2 c1 c2/\aZ w a1 (G k).ws/\be w a2 (G k).bs
section
variable {w w':World} {base:Nat} {t:TypeId} {s n:Nat} {v:Value} {G H:Nat->El} {a:OA}
theorem lO.below(h:lO w a s n G)(hb:Below w.heap.size w w'):lO w' a s n G:=by
 obtain ⟨F,h1,h2⟩:=h;refine ⟨F,h1.below hb,fun k hk=>?_⟩
 obtain ⟨a1,a2,c1,c2,e,o1,o2⟩:=h2 k hk;exact ⟨a1,a2,c1,c2,e,o1.below hb,o2.below hb⟩
theorem tP(w:World)(a:OA)(s:Nat)(G:Nat->El):lO w a s 0 G:=⟨fun _=>[],.inl rfl,fun k hk=>by omega⟩
theorem lO.at(h:lO w a s n G){k:Nat}(hk:k<n):∃ b off a1 a2 c1 c2,a=some ⟨b,off,none⟩/\b<w.heap.size/\(∀ j,j<s->w.cell? ⟨b,off+k*s+j,none⟩=(vi (G k) a1 a2 c1 c2)[j]?)/\aZ w a1 (G k).ws/\be w a2 (G k).bs:=by
 obtain ⟨F,h1,h2⟩:=h;obtain ⟨b,off,ha,hb,hc⟩:=fd.at h1 hk;obtain ⟨a1,a2,c1,c2,e,s1,s2⟩:=h2 k hk;rw [e] at hc;exact ⟨b,off,a1,a2,c1,c2,ha,hb,hc,s1,s2⟩
end
structure Ca where
 id:Int
 pa:Int
 un:Int
 kd:Int
 pl:Int
 n:Int
 wa:Int
 ws:List Int
 bs:List Bool
def vl(C:Ca):El:=⟨[Vi C.id,Vi C.pa,Vi C.un,Vi C.kd,Vi C.pl,Vi C.n],C.ws,C.bs,[Vi C.wa]⟩
abbrev qy(C:Ca)(a1 a2:OA)(l1 l2 c1 c2:Nat):Array Value:=#[Vi C.id,Vi C.pa,Vi C.un,Vi C.kd,Vi C.pl,Vi C.n,.slice a1 l1 c1,.slice a2 l2 c2,Vi C.wa]
def yn:Ca:=⟨0,0,0,0,0,0,0,[],[]⟩
abbrev mK(w:World)(a:OA)(n:Nat)(f:Nat->Ca):Prop:=lO w a 9 n (fun k=>vl (f k))
abbrev OwC(w:World)(base:Nat)(v:Value)(n:Nat)(f:Nat->Ca):Prop:=xM w base 88 9 v n (fun k=>vl (f k))
theorem mK.nine{w:World}{a:OA}{n:Nat}{f:Nat->Ca}(h:mK w a n f){k:Nat}(hk:k<n):∃ b off a1 a2 l1 l2 c1 c2,a=some ⟨b,off,none⟩/\b<w.heap.size/\l1=(f k).ws.length/\l2=(f k).bs.length/\
 (w.cell? ⟨b,off+k*9,none⟩=some (Vi (f k).id)/\w.cell? ⟨b,off+k*9+1,none⟩=some (Vi (f k).pa)/\w.cell? ⟨b,off+k*9+2,none⟩=some (Vi (f k).un)/\w.cell? ⟨b,off+k*9+3,none⟩=some (Vi (f k).kd)/\w.cell? ⟨b,off+k*9+4,none⟩=some (Vi (f k).pl)/\w.cell? ⟨b,off+k*9+5,none⟩=some (Vi (f k).n)/\
 w.cell? ⟨b,off+k*9+6,none⟩=some (.slice a1 l1 c1)/\w.cell? ⟨b,off+k*9+7,none⟩=some (.slice a2 l2 c2)/\w.cell? ⟨b,off+k*9+8,none⟩=some (Vi (f k).wa))/\aZ w a1 (f k).ws/\be w a2 (f k).bs:=by
 obtain ⟨b,off,a1,a2,c1,c2,ha,hb,hc,s1,s2⟩:=lO.at h hk;exact ⟨b,off,a1,a2,_,_,c1,c2,ha,hb,rfl,rfl,⟨hc 0 (by decide),hc 1 (by decide),hc 2 (by decide),hc 3 (by decide),hc 4 (by decide),hc 5 (by decide),hc 6 (by decide),hc 7 (by decide),hc 8 (by decide)⟩,s1,s2⟩
def tl(f:Nat->Ca):Nat->Nat
 |0=>0
 |k+1=>tl f k+((f k).ws.length+(f k).bs.length)
def lfC(left l1 l2:Nat):Int:=if l1+l2<= left then (left:Int)-(l1:Int)-(l2:Int) else -1
def lfS(left n:Nat)(f:Nat->Ca):Int:=if n+tl f n<= left then (left:Int)-(n:Int)-(tl f n:Int) else -1
theorem ae.nine{w:World}{g:Nat}{t:TypeId}{v0 v1 v2 v3 v4 v5 v6 v7 v8:Value}(h:ae w g t #[v0,v1,v2,v3,v4,v5,v6,v7,v8]):(w.cell? ⟨g,0,none⟩=some v0/\w.cell? ⟨g,1,none⟩=some v1/\w.cell? ⟨g,2,none⟩=some v2/\w.cell? ⟨g,3,none⟩=some v3/\w.cell? ⟨g,4,none⟩=some v4/\w.cell? ⟨g,5,none⟩=some v5/\w.cell? ⟨g,6,none⟩=some v6/\w.cell? ⟨g,7,none⟩=some v7/\w.cell? ⟨g,8,none⟩=some v8)/\∀ j,w.frozen? ⟨g,j,none⟩=false:=
 ⟨⟨h.cell 0 rfl,h.cell 1 rfl,h.cell 2 rfl,h.cell 3 rfl,h.cell 4 rfl,h.cell 5 rfl,h.cell 6 rfl,h.cell 7 rfl,h.cell 8 rfl⟩,h.fro⟩
def pm(n:Nat)(f:Nat->Ca):Prop:=n<= 2000000/\∀ k,k<n->(f k).ws.length<= 2000000/\(f k).bs.length<= 2000000
def bO(cs:Array Value):Nat->List Value->Array Value
 |_,[]=>cs
 |o,v:: vs=>bO (cs.setIfInBounds o v) (o+1) vs
theorem ae.stL{g:Nat}{t:TypeId}:∀ (vs:List Value) {w:World} {cs:Array Value} (o:Nat),ae w g t cs->ae (aF w g o vs) g t (bO cs o vs)
 | [],w,cs,o,h=>h
 |v:: vs,w,cs,o,h=>ae.stL vs (o+1) (h.set o v)
abbrev GF(w W:World)(t:TypeId)(A:Array Value)(s:TypeId)(Z O:Array Value)(R:Prop):Prop:=Below w.heap.size w W/\ae W w.heap.size t A/\ae W (w.heap.size+1) s Z/\ae W (w.heap.size+1+1) s O/\R
theorem pn{W w:World}{g:Nat}{t:TypeId}{j:Nat}{A A':Array Value}{vs:List Value}(hW:W=aF w g j vs)(O:ae w g t A)(h:A'=bO A j vs:=by simp [bO]):ae W g t A':=by rw [hW,h];exact ae.stL _ _ O
theorem bx(w:World)(A:Array Value)(t:TypeId):Below w.heap.size w (w.alloc (.cells A t))/\ae (w.alloc (.cells A t)) w.heap.size t A:=⟨aa w _,ae.new w A t⟩
theorem ae.stNe{g g':Nat}{t:TypeId}{cs:Array Value}(hne:g≠g'):∀ (vs:List Value) {w:World} (o:Nat),ae w g t cs->ae (aF w g' o vs) g t cs
 | [],w,o,h=>h
 |v:: vs,w,o,h=>ae.stNe hne vs (o+1) (h.setNe hne)
theorem aM.ex{w:World}{g:Nat}{t:TypeId}{s n:Nat}{F:Nat->List Value}(h:aM w g t s n F){k j:Nat}(hk:k<n)(hj:j<s):∃ v,w.cell? ⟨g,k*s+j,none⟩=some v:=by
 obtain ⟨cs,h1,h2,h3⟩:=h
 have hin:k*s+j<cs.size:=by
  have:(k+1)*s<= n*s:=Nat.mul_le_mul_right s hk;rw [Nat.add_mul,Nat.one_mul] at this;omega
 exact ⟨cs[k*s+j],by rw [cell_of_block h1];simp⟩
abbrev calL(C:Ca)(a1 a2:OA)(l1 l2 c1 c2:Nat):List Value:=[Vi C.id,Vi C.pa,Vi C.un,Vi C.kd,Vi C.pl,Vi C.n,.slice a1 l1 c1,.slice a2 l2 c2,Vi C.wa]
abbrev ca0c:Array Value:=#[Vi 0,Vi 0,Vi 0,Vi 0,Vi 0,Vi 0,Zs,Zs,Vi 0]
def MadeL(w:World)(B:Nat)(t:TypeId)(s n:Nat)(G:Nat->El):Prop:=∃ F β,aM w B t s n F/\tC w B β F G n/\β n<= w.heap.size
theorem bm(g:Nat):∀ (vs:List Value) (w:World) (o:Nat),w.setCells g o vs=aF w g o vs
 | [],_,_=>rfl
 |v:: vs,w,o=>by
  rw [World.setCells,bm g vs];rfl
theorem ae.range{w:World}{g:Nat}{t:TypeId}{cs:Array Value}(h:ae w g t cs)(o:Nat)(vs:List Value)(hv:∀ j,j<vs.length->cs[o+j]? = vs[j]?):w.rangeAt g o vs:=fun j v hj=>by
 have hlt:j<vs.length:=(List.getElem?_eq_some_iff.1 hj).1;exact h.cell (o+j) (by rw [hv j hlt,hj])
theorem ae.there{w:World}{g:Nat}{t:TypeId}{cs:Array Value}(h:ae w g t cs)(o n:Nat)(hn:o+n<= cs.size):w.there g o n:=fun j hj=>by
 refine ⟨?_,h.fro _⟩
 rw [h.cell (o+j) (Array.getElem?_eq_getElem (show o+j<cs.size by omega))];rfl
theorem ae.all{w:World}{g:Nat}{t:TypeId}{vs:List Value}(h:ae w g t vs.toArray):w.rangeAt g 0 vs:=h.range 0 vs (fun j hj=>by simp)
theorem fk{P:Program}{ops:Array Oper}{rest:List Oper}{op:Oper}{a:Act}{w:World}{Q:Exit->Act->World->Prop}(hgd:op.guard=none)(ty:TypeId)(ho:op.op=.alloc ty)(cs:Array Value)(n b:Nat)(hi:(P.info? ty).map (fun i=>(i.zero,i.size,i.bytes))=some (some (.agg cs),n,b))
 (h:wpList P ops Q rest (a.put op.dst (Vp w.heap.size 0)) (w.alloc (.cells cs ty))):wpList P ops Q (op:: rest) a w:=
 wpList_plain hgd fun K hK=>by
  have hz:(zeroValue ty).run P w=.ok (.agg cs) w:=by
   cases hq:P.info? ty with
   |none=>simp [hq] at hi
   |some i=>simp [hq] at hi;simp [zeroValue,typeInfo,hq,hi.1]
  have hr:(execOp a.eval op).run P w=.ok (.value (Vp w.heap.size 0)) (w.alloc (.cells cs ty)):=by
   unfold execOp;simp only [ho];rw [Sem.run_bind]
   have h9:(Instr.alloc ty true (.tuple #[])).run P w=.ok (Vp w.heap.size 0) (w.alloc (.cells cs ty)):=by
    unfold Instr.alloc;rw [Sem.run_bind,hz];rfl
   rw [h9];rfl
  unfold Oper.wp;rw [hr];exact hK _ _ h
theorem fA{P:Program}{ops:Array Oper}{rest:List Oper}{op:Oper}{a:Act}{w:World}{Q:Exit->Act->World->Prop}(hgd:op.guard=none)(x:Operand)(ho:op.op=.move x)(v:Value)(hv:a.eval x=v)
 (h:wpList P ops Q rest (a.put op.dst v) w):wpList P ops Q (op:: rest) a w:=
 wpList_plain hgd fun K hK=>by
  unfold Oper.wp execOp;simp only [ho,hv];exact hK _ _ h
theorem eG{P:Program}{fn:Func}{tmps:Array Value}{w:World}{s:Nat}{t:TypeId}{g o:Nat}{v:Value}(hf:fn.results=#[.cell s t])(ha:tmps.getD s undef=Vp g o)(hl:(loadVar t ⟨g,o,none⟩).run P w=.ok v w):(results fn tmps).run P w=.ok v w:=by
 rw [Array.getD_eq_getD_getElem?] at ha;unfold results;rw [hf];simp [ha,asAddr,hl,Sem.run_bind]
theorem dC{P:Program}{fn:Func}{tmps:Array Value}{w:World}{s s1:Nat}{t:TypeId}{g o:Nat}{v v1:Value}(hf:fn.results=#[.cell s t,.tmp s1])(ha:tmps.getD s undef=Vp g o)(h1:tmps.getD s1 undef=v1)(hl:(loadVar t ⟨g,o,none⟩).run P w=.ok v w):(results fn tmps).run P w=.ok (.tuple #[v,v1]) w:=by
 rw [Array.getD_eq_getD_getElem?] at ha h1;unfold results;rw [hf];simp [ha,asAddr,hl,h1,Sem.run_bind]
end Go.Proofs.YtohikbpolofklaaGreat
namespace Go.Proofs.YtohikbpolofklaaGreat
open Go.RowKit Go.Proofs.Tryz
theorem ae.six{w:World}{g:Nat}{t:TypeId}{v0 v1 v2 v3 v4 v5:Value}(h:ae w g t #[v0,v1,v2,v3,v4,v5]):w.cell? ⟨g,0,none⟩=some v0/\w.cell? ⟨g,1,none⟩=some v1/\w.cell? ⟨g,2,none⟩=some v2/\w.cell? ⟨g,3,none⟩=some v3/\w.cell? ⟨g,4,none⟩=some v4/\w.cell? ⟨g,5,none⟩=some v5:=
 ⟨h.cell 0 rfl,h.cell 1 rfl,h.cell 2 rfl,h.cell 3 rfl,h.cell 4 rfl,h.cell 5 rfl⟩
abbrev rq(kd pl nn wa:Int)(a1 a2:OA)(l1 l2 c1 c2:Nat):Value:=.agg #[Vi kd,Vi pl,Vi nn,.slice a1 l1 c1,.slice a2 l2 c2,Vi wa]
def wrK(kd:Int):Bool:=decide (kd=5\/kd=6\/kd=15\/kd=16\/kd=22\/kd=23)
abbrev rp(kd fl pl nn:Int)(a1 a2:OA)(l1 l2 c1 c2:Nat):Value:=.agg #[Vi kd,Vi fl,Vi pl,Vi nn,.slice a1 l1 c1,.slice a2 l2 c2]
theorem lP{w:World}{base size n g:Nat}{e t:TypeId}{v v0 v1 v2 v3 v4 v5:Value}{xs:List Value}(h:w.ownsRow base e size v n xs)(hb:bp w g t)(ht:t≠e):
 ((((((w.setCell ⟨g,0,none⟩ v0).setCell ⟨g,1,none⟩ v1).setCell ⟨g,2,none⟩ v2).setCell ⟨g,3,none⟩ v3).setCell ⟨g,4,none⟩ v4).setCell ⟨g,5,none⟩ v5).ownsRow base e size v n xs:=
 bn (bn (bn (bn (bn (bn h hb ht) (bp.set hb) ht) (bp.set (bp.set hb)) ht) (bp.set (bp.set (bp.set hb))) ht) (bp.set (bp.set (bp.set (bp.set hb)))) ht) (bp.set (bp.set (bp.set (bp.set (bp.set hb))))) ht
theorem lQ{B:Nat}{W w:World}{g:Nat}{v0 v1 v2 v3 v4 v5:Value}(hb:Below B W w)(hg:B<= g):
 Below B W ((((((w.setCell ⟨g,0,none⟩ v0).setCell ⟨g,1,none⟩ v1).setCell ⟨g,2,none⟩ v2).setCell ⟨g,3,none⟩ v3).setCell ⟨g,4,none⟩ v4).setCell ⟨g,5,none⟩ v5):=
 (((((hb.setCell (p:=⟨g,0,none⟩) hg _).setCell (p:=⟨g,1,none⟩) hg _).setCell (p:=⟨g,2,none⟩) hg _).setCell (p:=⟨g,3,none⟩) hg _).setCell (p:=⟨g,4,none⟩) hg _).setCell (p:=⟨g,5,none⟩) hg _
theorem pP(kd fl pl nn:Int)(a1 a2:OA)(l1 l2 c1 c2:Nat)(ws:List Int)(bs:List Bool)(w:World)(h1:l1=ws.length)(h2:l2=bs.length)(s1:aZ w a1 ws)(s2:be w a2 bs)(hl1:l1<= 2000000)(hl2:l2<= 2000000):
 Calls prog 167 #[.agg #[Vi kd,Vi fl,Vi pl,Vi nn,.slice a1 l1 c1,.slice a2 l2 c2]] w fun e w'=>∃ g1 g2,e=.returned (.agg #[Vi kd,Vi fl,Vi pl,Vi nn,.slice (some ⟨g1,0,none⟩) l1 l1,.slice (some ⟨g2,0,none⟩) l2 l2])/\
  bi w' w.heap.size (.slice (some ⟨g1,0,none⟩) l1 l1) ws/\bD w' w.heap.size (.slice (some ⟨g2,0,none⟩) l2 l2) bs/\Below w.heap.size w w':=by
 have H1:Hid (l1=ws.length):=h1;have H2:Hid (l2=bs.length):=h2;have HL:Hid (ws.length<= 2000000/\bs.length<= 20000000):=by show _/\_;omega
 obtain ⟨W0,hW0'⟩:∃ W0,W0=((w.alloc (.cells #[Vi kd,Vi fl,Vi pl,Vi nn,.slice a1 l1 c1,.slice a2 l2 c2] 187)).alloc (.cells cx 162)).alloc (.cells #[Vi kd,Vi fl,Vi pl,Vi nn,Zs,Zs] 162):=⟨_,rfl⟩
 have hW0:Hid (W0=_):=hW0';have hz:W0.heap.size=w.heap.size+1+1+1:=by rw [hW0'];simp
 have B0:Below w.heap.size w W0:=by rw [hW0'];exact ak (ak (aa w _) (aa _ _)) (aa _ _)
 have A0:ae W0 w.heap.size 187 #[Vi kd,Vi fl,Vi pl,Vi nn,.slice a1 l1 c1,.slice a2 l2 c2]:=by rw [hW0'];exact ((ae.new w _ _).below (aa _ _)).below (aa _ _)
 have R0:ae W0 (w.heap.size+1) 162 cx:=by
  rw [hW0'];have:=(ae.new (w.alloc (.cells #[Vi kd,Vi fl,Vi pl,Vi nn,.slice a1 l1 c1,.slice a2 l2 c2] 187)) cx 162).below (aa _ (.cells #[Vi kd,Vi fl,Vi pl,Vi nn,Zs,Zs] 162));simpa using this
 have O0:ae W0 (w.heap.size+1+1) 162 #[Vi kd,Vi fl,Vi pl,Vi nn,Zs,Zs]:=by
  rw [hW0'];have:=ae.new ((w.alloc (.cells #[Vi kd,Vi fl,Vi pl,Vi nn,.slice a1 l1 c1,.slice a2 l2 c2] 187)).alloc (.cells cx 162)) #[Vi kd,Vi fl,Vi pl,Vi nn,Zs,Zs] 162;simpa using this
 have S1:Hid (aZ W0 a1 ws):=s1.below B0;have S2:Hid (be w a2 bs):=s2;have c03:=A0.cell 4 rfl;clear h1 h2 s1 s2 hW0';go_enter func167,ntmps167
 go_upto_region 6 with fail
 rw [<- hW0.out];go_wp2_with fail
 refine (lM a1 l1 c1 ws _ H1.out S1.out HL.out.1).mono ?_;rintro e w1 ⟨g1,rfl,i1,b1'⟩;have b1:=ak B0 b1';have A1:=A0.below b1';have R1:=R0.below b1';have O1:=O0.below b1';have co:=O1.cell 4 rfl;have fo:=O1.fro 4;have A2:=A1.setNe (g':=w.heap.size+1+1) (j:=4) (y:=.slice (some ⟨g1,0,none⟩) l1 l1) (by omega);have R2:=R1.setNe (g':=w.heap.size+1+1) (j:=4) (y:=.slice (some ⟨g1,0,none⟩) l1 l1) (by omega);have O2:=O1.set 4 (.slice (some ⟨g1,0,none⟩) l1 l1);have I2:bi (w1.setCell ⟨w.heap.size+1+1,4,none⟩ (.slice (some ⟨g1,0,none⟩) l1 l1)) W0.heap.size (.slice (some ⟨g1,0,none⟩) l1 l1) ws:=kY i1 O1 (by decide);have b2:=b1.setCell (p:=⟨w.heap.size+1+1,4,none⟩) (by show w.heap.size<= w.heap.size+1+1;omega) (.slice (some ⟨g1,0,none⟩) l1 l1);clear b1' B0 A0 R0 O0 A1 R1 O1 i1 b1 c03;go_upto_region 7 with fail
 generalize w1.setCell ⟨w.heap.size+1+1,4,none⟩ (.slice (some ⟨g1,0,none⟩) l1 l1)=w2 at*;have c04:=A2.cell 5 rfl;clear co fo;go_wp2_with fail
 refine (it a2 l2 c2 bs _ H2.out (mJ S2.out b2) HL.out.2).mono ?_;rintro e w3 ⟨g2,rfl,j3,b3'⟩;have b3:=ak b2 b3';have R3:=R2.below b3';have O3:=O2.below b3';have I3:=I2.below b3';have o0:=O3.cell 0 rfl;have o1:=O3.cell 1 rfl;have o2:=O3.cell 2 rfl;have o3:=O3.cell 3 rfl;have o4:=O3.cell 4 rfl;have o5:=O3.cell 5 rfl;have r0:=R3.cell 0 rfl;have r1:=R3.cell 1 rfl;have r2:=R3.cell 2 rfl;have r3:=R3.cell 3 rfl;have r4:=R3.cell 4 rfl;have r5:=R3.cell 5 rfl;have fo:=O3.fro;have fr:=R3.fro;have HH:Hid (bi w3 W0.heap.size (.slice (some ⟨g1,0,none⟩) l1 l1) ws):=I3;have b2s:Hid (w.heap.size<= w2.heap.size):=b2.size;have eO:bp w3 (w.heap.size+1+1) 162:=⟨_,O3⟩
 have eR:bp w3 (w.heap.size+1) 162:=⟨_,R3⟩
 have HJ:Hid (bD w3 w2.heap.size (.slice (some ⟨g2,0,none⟩) l2 l2) bs/\Below w.heap.size w w3/\bp w3 (w.heap.size+1+1) 162/\bp w3 (w.heap.size+1) 162):=⟨j3,b3,eO,eR⟩
 have hz2:w.heap.size<= w2.heap.size:=by have:=b2s.out;omega
 have hz0:w.heap.size<= W0.heap.size:=by omega
 clear A2 R2 O2 I2 b3' b2 c04 I3 O3 R3 j3 b3 eO eR;go_wp2;refine bodyPost_ret (v:=.agg #[Vi kd,Vi fl,Vi pl,Vi nn,.slice (some ⟨g1,0,none⟩) l1 l1,.slice (some ⟨g2,0,none⟩) l2 l2]) (by simp [results,results167,go_sem,r0,r1,r2,r3,r4,r5]) rfl ?_;obtain ⟨j3,b3,eO,eR⟩:=HJ.out;refine ⟨g1,g2,rfl,?_,?_,?_⟩
 ·exact bi.mono (show bi _ _ _ _ from lP (bn HH.out eO (by decide)) (bp.set eR) (by decide)) hz0
 ·exact bD.mono (show bD _ _ _ _ from lP (bn j3 eO (by decide)) (bp.set eR) (by decide)) hz2
 exact lQ (b3.setCell (p:=⟨w.heap.size+1+1,5,none⟩) (by show w.heap.size<= w.heap.size+1+1;omega) _) (Nat.le_succ _)
theorem oc(kd fl pl nn:Int)(a1 a2 a1' a2':OA)(l1 l2 l1' l2' c1 c2 c1' c2':Nat)(ws:List Int)(bs:List Bool)(w:World)(h1:l1=ws.length)(h2:l2=bs.length)(h1':l1'=ws.length)(h2':l2'=bs.length)(s1:aZ w a1 ws)(s2:be w a2 bs)(s1':aZ w a1' ws)(s2':be w a2' bs)(hl1:ws.length<= 2000000)(hl2:bs.length<= 2000000):
 Calls prog 183 #[.agg #[Vi kd,Vi fl,Vi pl,Vi nn,.slice a1 l1 c1,.slice a2 l2 c2],.agg #[Vi kd,Vi fl,Vi pl,Vi nn,.slice a1' l1' c1',.slice a2' l2' c2']] w fun e w'=>e=.returned (.bool true)/\Below w.heap.size w w':=by
 obtain ⟨W0,hW0'⟩:∃ W0,W0=(w.alloc (.cells #[Vi kd,Vi fl,Vi pl,Vi nn,.slice a1 l1 c1,.slice a2 l2 c2] 162)).alloc (.cells #[Vi kd,Vi fl,Vi pl,Vi nn,.slice a1' l1' c1',.slice a2' l2' c2'] 162):=⟨_,rfl⟩
 have hW0:Hid (W0=_):=hW0';have B0:Below w.heap.size w W0:=by rw [hW0'];exact ak (aa w _) (aa _ _)
 have X0:ae W0 w.heap.size 162 #[Vi kd,Vi fl,Vi pl,Vi nn,.slice a1 l1 c1,.slice a2 l2 c2]:=by rw [hW0'];exact (ae.new w _ _).below (aa _ _)
 have Y0:ae W0 (w.heap.size+1) 162 #[Vi kd,Vi fl,Vi pl,Vi nn,.slice a1' l1' c1',.slice a2' l2' c2']:=by
  rw [hW0'];have:=ae.new (w.alloc (.cells #[Vi kd,Vi fl,Vi pl,Vi nn,.slice a1 l1 c1,.slice a2 l2 c2] 162)) #[Vi kd,Vi fl,Vi pl,Vi nn,.slice a1' l1' c1',.slice a2' l2' c2'] 162;simpa using this
 have HH:Hid (l1=ws.length/\l2=bs.length/\l1'=ws.length/\l2'=bs.length/\aZ W0 a1 ws/\be W0 a2 bs/\aZ W0 a1' ws/\be W0 a2' bs):=⟨h1,h2,h1',h2',s1.below B0,s2.below B0,s1'.below B0,s2'.below B0⟩
 obtain ⟨x0,x1,x2,x3,x4,x5⟩:=X0.six;obtain ⟨y0,y1,y2,y3,y4,y5⟩:=Y0.six;clear h1 h2 h1' h2' s1 s2 s1' s2' hW0';go_enter func183,ntmps183
 go_upto_region 1 with fail
 rw [<- hW0.out];go_wp2_with fail
 refine (lN _ _ _ _ _ _ ws _ HH.out.1 HH.out.2.2.1 HH.out.2.2.2.2.1 HH.out.2.2.2.2.2.2.1 hl1).mono ?_;rintro e w1 ⟨rfl,b1'⟩;have b1:=ak B0 b1';have X1:=X0.below b1';have Y1:=Y0.below b1';have S1:Hid (be w1 a2 bs/\be w1 a2' bs):=⟨HH.out.2.2.2.2.2.1.below b1',HH.out.2.2.2.2.2.2.2.below b1'⟩
 clear x0 x1 x2 x3 x4 x5 y0 y1 y2 y3 y4 y5 X0 Y0 B0 b1';have x5:=X1.cell 5 rfl;have y5:=Y1.cell 5 rfl;go_wp2_with fail
 refine (iu _ _ _ _ _ _ bs _ HH.out.2.1 HH.out.2.2.2.1 S1.out.1 S1.out.2 (by omega)).mono ?_;rintro e w2 ⟨rfl,b2'⟩;have b2:=ak b1 b2';go_wp2;go_ret;exact ⟨rfl,b2⟩
end Go.Proofs.YtohikbpolofklaaGreat
namespace Go.Proofs.YtohikbpolofklaaGreat
open Go.RowKit Go.Joins Go.Proofs.Tryz
inductive Tr where
 |leaf (v:Value)
 |list (s n:Nat) (f:Nat->Nat->Tr)
def Rd(w:World)(lo:Nat):Tr->Value->Prop
 | .leaf u,v=>v=u
 | .list s n f,v=>∃ a c,v=.slice a n c/\n<= c/\n<= maxLen/\(n=0\/∃ (g off:Nat) (F:Nat->List Value),a=some ⟨g,off,none⟩/\lo<= g/\g<w.heap.size/\
  ∀ k,k<n->(F k).length=s/\∀ j v,(F k)[j]? = some v->w.cell? ⟨g,off+k*s+j,none⟩=some v/\Rd w lo (f k j) v)
def aV(w:World)(lo:Nat)(ts:Nat->Tr)(vs:List Value):Prop:=∀ j v,vs[j]? = some v->Rd w lo (ts j) v
theorem Rd.below{w w':World}{lo:Nat}(hb:Below w.heap.size w w'):∀ {t:Tr} {v:Value},Rd w lo t v->Rd w' lo t v:=by
 intro t;induction t with
 |leaf u=>intro v h;exact h
 |list s n f ih=>
  intro v h;obtain ⟨a,c,h1,h2,h3,h4⟩:=h;refine ⟨a,c,h1,h2,h3,?_⟩
  rcases h4 with h4|⟨g,off,F,ha,hlo,hg,hc⟩
  ·exact .inl h4
  refine .inr ⟨g,off,F,ha,hlo,Nat.lt_of_lt_of_le hg hb.size,fun k hk=>⟨(hc k hk).1,fun j v hj=>?_⟩⟩;obtain ⟨q1,q2⟩:=(hc k hk).2 j v hj;exact ⟨(hb.cell (p:=⟨g,off+k*s+j,none⟩) hg).trans q1,ih k j q2⟩
theorem Rd.congr{w:World}{lo s n:Nat}{f f':Nat->Nat->Tr}{v:Value}(h:Rd w lo (.list s n f) v)(he:∀ k,k<n->f k=f' k):Rd w lo (.list s n f') v:=by
 obtain ⟨a,c,h1,h2,h3,h4⟩:=h;refine ⟨a,c,h1,h2,h3,?_⟩
 rcases h4 with h4|⟨g,off,F,ha,hlo,hgs,hc⟩
 ·exact .inl h4
 exact .inr ⟨g,off,F,ha,hlo,hgs,fun k hk=>by rw [<- he k hk];exact hc k hk⟩
theorem aV.below{w w':World}{lo:Nat}{ts:Nat->Tr}{vs:List Value}(h:aV w lo ts vs)(hb:Below w.heap.size w w'):aV w' lo ts vs:=fun j v hj=>(h j v hj).below hb
theorem Rd.shape{w:World}{lo s n:Nat}{f:Nat->Nat->Tr}{v:Value}(h:Rd w lo (.list s n f) v):∃ a c,v=.slice a n c/\n<= c/\n<= maxLen:=by
 obtain ⟨a,c,h1,h2,h3,_⟩:=h;exact ⟨a,c,h1,h2,h3⟩
theorem Rd.at{w:World}{lo s n m c k:Nat}{a:OA}{f:Nat->Nat->Tr}(h:Rd w lo (.list s n f) (.slice a m c))(hk:k<n):
 ∃ g off vs,a=some ⟨g,off,none⟩/\lo<= g/\g<w.heap.size/\vs.length=s/\w.rangeAt g (off+k*s) vs/\aV w lo (f k) vs:=by
 obtain ⟨a',c',h1,h2,h3,h4⟩:=h;simp only [Value.slice.injEq] at h1;rcases h4 with h4|⟨g,off,F,ha,hlo,hgs,hc⟩
 ·omega
 exact ⟨g,off,F k,by rw [h1.1,ha],hlo,hgs,(hc k hk).1,fun j v hj=>((hc k hk).2 j v hj).1,fun j v hj=>((hc k hk).2 j v hj).2⟩
def ag:Nat->(Nat->Nat)->Nat
 |0,_=>0
 |n+1,g=>ag n g+g n
theorem eH(g:Nat->Nat):∀ {i j:Nat},i<= j->ag i g<= ag j g:=by
 intro i j hij;induction hij with
 |refl=>exact Nl
 |step _ ih=>exact Nat.le_trans ih (by simp [ag])
theorem ci(g:Nat->Nat){k n:Nat}(hk:k<n):g k<= ag n g:=by
 have:=eH g (show k+1<= n by omega);simp only [ag] at this;omega
def Tr.sz:Tr->Nat
 | .leaf _=>0
 | .list s n f=>n+ag n (fun k=>ag s (fun j=>(f k j).sz))
def ax(s:Nat)(ts:Nat->Tr):Nat:=ag s (fun j=>(ts j).sz)
theorem Tr.sz_list(s n:Nat)(f:Nat->Nat->Tr):(Tr.list s n f).sz=n+ag n (fun k=>ax s (f k)):=rfl
def aH(left t:Nat):Int:=if t<= left then (left:Int)-(t:Int) else -1
def aw(ws:List Int):Tr:=.list 1 ws.length (fun k _=>.leaf (Vi (ws.getD k 0)))
def ai(bs:List Bool):Tr:=.list 1 bs.length (fun k _=>.leaf (.bool (bs.getD k false)))
theorem iZ:∀ (n:Nat),ag n (fun _=>0)=0
 |0=>rfl
 |n+1=>by simp [ag,iZ n]
theorem dV(ws:List Int):(aw ws).sz=ws.length:=by
 unfold aw;simp [Tr.sz,ag,iZ]
theorem dE(bs:List Bool):(ai bs).sz=bs.length:=by
 unfold ai;simp [Tr.sz,ag,iZ]
theorem Rd.ints{w:World}{lo:Nat}{ws:List Int}{v:Value}(h:Rd w lo (aw ws) v):∃ a c,v=.slice a ws.length c/\ws.length<= c/\ws.length<= maxLen/\aZ w a ws:=by
 obtain ⟨a,c,h1,h2,h3,h4⟩:=h;refine ⟨a,c,h1,h2,h3,?_⟩
 rcases h4 with h4|⟨g,off,F,ha,hlo,hgs,hc⟩
 ·exact .inl (List.eq_nil_of_length_eq_zero h4)
 refine .inr ⟨g,off,ha,hgs,fun i hi=>?_⟩;obtain ⟨q1,q2⟩:=hc i hi;obtain ⟨v,hv⟩:∃ v,(F i)[0]? = some v:=⟨(F i)[0]'(by omega),by simp⟩
 obtain ⟨q3,q4⟩:=q2 0 v hv;rw [Nat.mul_one,Nat.add_zero] at q3;rw [q3];exact congrArg some q4
theorem Rd.bools{w:World}{lo:Nat}{bs:List Bool}{v:Value}(h:Rd w lo (ai bs) v):∃ a c,v=.slice a bs.length c/\bs.length<= c/\bs.length<= maxLen/\be w a bs:=by
 obtain ⟨a,c,h1,h2,h3,h4⟩:=h;refine ⟨a,c,h1,h2,h3,?_⟩
 rcases h4 with h4|⟨g,off,F,ha,hlo,hgs,hc⟩
 ·exact .inl (List.eq_nil_of_length_eq_zero h4)
 refine .inr ⟨g,off,ha,hgs,fun i hi=>?_⟩;obtain ⟨q1,q2⟩:=hc i hi;obtain ⟨v,hv⟩:∃ v,(F i)[0]? = some v:=⟨(F i)[0]'(by omega),by simp⟩
 obtain ⟨q3,q4⟩:=q2 0 v hv;rw [Nat.mul_one,Nat.add_zero] at q3;rw [q3];exact congrArg some q4
theorem tQ{w:World}{lo n c:Nat}{a:OA}{ws:List Int}(hn:n=ws.length)(hc:n<= c)(hm:n<= maxLen)(h:aZ w a ws)(hlo:∀ g,(Value.slice a n c).ownBlock=some g->lo<= g):Rd w lo (aw ws) (.slice a n c):=by
 subst hn;refine ⟨a,c,rfl,hc,hm,?_⟩
 rcases h with h|⟨b,off,ha,hb,h⟩
 ·exact .inl (by rw [h];rfl)
 subst ha;refine .inr ⟨b,off,fun k=>[Vi (ws.getD k 0)],rfl,hlo b rfl,hb,fun k hk=>⟨rfl,fun j v hj=>?_⟩⟩;match j,hj with
 |0,hj=>
  simp only [List.getElem?_cons_zero,Option.some.injEq] at hj;subst hj;exact ⟨by rw [Nat.mul_one,Nat.add_zero];exact h k hk,rfl⟩
 |j+1,hj=>simp at hj
theorem rR{w:World}{lo n c:Nat}{a:OA}{bs:List Bool}(hn:n=bs.length)(hc:n<= c)(hm:n<= maxLen)(h:be w a bs)(hlo:∀ g,(Value.slice a n c).ownBlock=some g->lo<= g):Rd w lo (ai bs) (.slice a n c):=by
 subst hn;refine ⟨a,c,rfl,hc,hm,?_⟩
 rcases h with h|⟨b,off,ha,hb,h⟩
 ·exact .inl (by rw [h];rfl)
 subst ha;refine .inr ⟨b,off,fun k=>[.bool (bs.getD k false)],rfl,hlo b rfl,hb,fun k hk=>⟨rfl,fun j v hj=>?_⟩⟩;match j,hj with
 |0,hj=>
  simp only [List.getElem?_cons_zero,Option.some.injEq] at hj;subst hj;exact ⟨by rw [Nat.mul_one,Nat.add_zero];exact h k hk,rfl⟩
 |j+1,hj=>simp at hj
def ac(l:List Tr):Nat->Tr:=fun j=>l.getD j (.leaf undef)
theorem aV.get{w:World}{lo j:Nat}{l:List Tr}{vs:List Value}{t:Tr}{v:Value}(h:aV w lo (ac l) vs)(hv:vs[j]? = some v)(ht:l[j]? = some t):Rd w lo t v:=by
 have:=h j v hv;unfold ac at this;rw [List.getD_eq_getElem?_getD,ht] at this;exact this
theorem aV.mk{w:World}{lo:Nat}{l:List Tr}{vs:List Value}(h:∀ (j:Nat) v t,vs[j]? = some v->l[j]? = some t->Rd w lo t v)(hl:vs.length<= l.length):aV w lo (ac l) vs:=fun j v hv=>by
 have hj:j<vs.length:=(List.getElem?_eq_some_iff.1 hv).1;obtain ⟨t,ht⟩:∃ t,l[j]? = some t:=⟨l[j]'(by omega),by simp⟩
 unfold ac;rw [List.getD_eq_getElem?_getD,ht];exact h j v t hv ht
end Go.Proofs.YtohikbpolofklaaGreat
