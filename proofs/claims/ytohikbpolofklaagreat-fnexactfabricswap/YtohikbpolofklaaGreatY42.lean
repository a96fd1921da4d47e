/- Texts that the proof needs, joined: Tb5. -/
import Derived.Test.YtohikbpolofklaaGreatY39
import Derived.Test.YtohikbpolofklaaGreatY41
set_option linter.unusedVariables false
set_option linter.unusedSimpArgs false
set_option maxHeartbeats 8000000
set_option maxRecDepth 20000
namespace Go.Proofs.YtohikbpolofklaaGreat
open Go.RowKit Go.Joins Go.Proofs.Tryz
theorem fL(X:VT)(a:OA)(c:Nat)(w:World)(h:iq w X a c):
 Calls prog 45 #[.agg (tL X a X.m c).toArray] w fun e w'=>e=.returned (.bool (eB X))/\Below w.heap.size w w':=by
 obtain ⟨x0,hx0⟩:∃ x,aB X.nx 0 1000000000=x:=⟨_,rfl⟩
 obtain ⟨x1,hx1⟩:∃ x,decide (X.m<= 16)=x:=⟨_,rfl⟩
 obtain ⟨G,hG⟩:∃ G,G=w.heap.size:=⟨_,rfl⟩
 obtain ⟨W,hW⟩:∃ W,W=w.alloc (.cells (tL X a X.m c).toArray 38):=⟨_,rfl⟩
 have HE:Hid (eB X=(x0 && (x1 && aO (bQ X) X.m))/\aB X.nx 0 1000000000=x0/\decide (X.m<= 16)=x1/\Below w.heap.size w W/\ae W G 38 (tL X a X.m c).toArray/\iq W X a c):=⟨by unfold eB;rw [hx0,hx1],hx0,hx1,by rw [hW];exact aa _ _,by rw [hW,hG];exact ae.new _ _ _,h.below (by rw [hW];exact aa _ _)⟩
 rw [HE.out.1];have hm2:=h.2.1;clear hx0 hx1 h;obtain ⟨⟨y0,y1⟩,yf⟩:=HE.out.2.2.2.2.1.tc2;clear yf;go_enter func45,ntmps45
 go_upto_region 1 with fail
 rw [<- hW,<- hG];clear hW hG;go_wp2_with fail
 refine (aI _ _ _ _ _ HE.out.2.1).mono ?_;rintro e w1 ⟨rfl,hw⟩;have hw:=hw.symm;subst hw;cases x0
 case false=>
  go_wp2;go_ret;exact ⟨rfl,HE.out.2.2.2.1⟩
 have hnx:0<= X.nx/\X.nx<= 1000000000:=lk HE.out.2.1;obtain ⟨hnx0,hnx1⟩:=hnx;have wq:IntKind.i64.wrap (X.nx-1)=X.nx-1:=by rw [IntKind.wrap_i64];omega
 cases x1
 case false=>
  have h16:(16:Int)<(X.m:Int):=by have:=of_decide_eq_false HE.out.2.2.1;omega
  go_wp2;go_ret;exact ⟨rfl,HE.out.2.2.2.1⟩
 have h16:¬ (16:Int)<(X.m:Int):=by have:=of_decide_eq_true HE.out.2.2.1;omega
 go_wp2;clear y0 y1;go_loopw [3] (fun i wr=>∃ k:Nat,k<= X.m/\i=Vi k/\aO (bQ X) k=true/\Below W.heap.size W wr) (fun i _=>X.m-(intOf i).toNat)
 case atStart=>exact ⟨0,Nat.zero_le _,rfl,rfl,Br⟩
 case round=>
  obtain ⟨k,hk,rfl,hall,hbl⟩:=hrel;obtain ⟨⟨y0,y1⟩,yf⟩:=(HE.out.2.2.2.2.1.below hbl).tc2;clear yf;by_cases hlt:k<X.m
  ·have hi:(k:Int)<(X.m:Int):=by omega
   obtain ⟨b,off,rfl,hp,hbd⟩:=(HE.out.2.2.2.2.2.below hbl).at hlt;obtain ⟨hb0,a1,c1,a2,c2,a3,c3,a4,c4,a5,c5,hr,r1,r2,r3,r4,r5⟩:=hp.cells;obtain ⟨x,hx⟩:∃ x,fq (X.f k)=x:=⟨_,rfl⟩
   obtain ⟨xi,hxi⟩:∃ x,aB (X.f k).id 0 (X.nx-1)=x:=⟨_,rfl⟩
   have HX:Hid (fq (X.f k)=x/\aB (X.f k).id 0 (X.nx-1)=xi):=⟨hx,hxi⟩
   have HA:Hid (aO (bQ X) k=true/\Below w.heap.size w wr/\Below W.heap.size W wr/\bQ X k=(x && (xi && (decide (k=0)||decide ((X.f (k-1)).id<(X.f k).id))))):=⟨hall,af HE.out.2.2.2.1 hbl,hbl,by unfold bQ;rw [hx,hxi]⟩
   have HK:Hid (ae wr G 38 (tL X (some ⟨b,off,none⟩) X.m c).toArray/\b<wr.heap.size/\wr.rangeAt b (off+k*13) (dL (X.f k) a1 (X.f k).q.ws.length c1 a2 (X.f k).q.bs.length c2 a3 (X.f k).np c3 a4 (X.f k).hs.length c4 a5 (X.f k).nt c5)/\Rd wr 0 (aw (X.f k).q.ws) (.slice a1 (X.f k).q.ws.length c1)/\Rd wr 0 (ai (X.f k).q.bs) (.slice a2 (X.f k).q.bs.length c2)/\Rd wr 0 (.list 8 (X.f k).np (fun i=>ac (pT ((X.f k).pt i)))) (.slice a3 (X.f k).np c3)/\Rd wr 0 (ai (X.f k).hs) (.slice a4 (X.f k).hs.length c4)/\Rd wr 0 (.list 6 (X.f k).nt (fun i=>ac (aT ((X.f k).tl i)))) (.slice a5 (X.f k).nt c5)/\gS (X.f k)):=⟨HE.out.2.2.2.2.1.below hbl,hb0,hr,r1,r2,r3,r4,r5,hbd⟩
   have HJ0:Hid (∀ j,j<X.m->wr.rangeAt b (off+j*13) [Vi (X.f j).id]):=by
    show ∀ j,j<X.m->wr.rangeAt b (off+j*13) [Vi (X.f j).id];intro j hj;obtain ⟨b',off',he,hp',_⟩:=(HE.out.2.2.2.2.2.below hbl).at hj;simp only [Option.some.injEq,Addr.mk.injEq,and_true] at he;obtain ⟨rfl,rfl⟩:=he;obtain ⟨_,_,_,_,_,_,_,_,_,_,_,hr',_⟩:=hp'.cells;intro i v hv;match i,hv with
    |0,hv=>simp at hv;subst hv;exact hr' 0 _ rfl
    |i+1,hv=>simp at hv
   obtain ⟨j,hj⟩:∃ j,j=k-1:=⟨_,rfl⟩
   obtain ⟨pos,hpo⟩:∃ t,decide (0<k)=t:=⟨_,rfl⟩
   obtain ⟨ge,hge⟩:∃ t,decide ((X.f k).id<= (X.f j).id)=t:=⟨_,rfl⟩
   have HD:Hid (decide (0<k)=pos/\decide ((X.f k).id<= (X.f j).id)=ge/\j=k-1):=⟨hpo,hge,hj⟩
   have hij:(j:Int)<(X.m:Int):=by omega
   have HJ:Hid (wr.rangeAt b (off+j*13) [Vi (X.f j).id]):=HJ0.out j (by omega);clear hall hbl hx hxi hb0 hr hp hbd r1 r2 r3 r4 r5 hj hpo hge HJ0;go_upto_region 6 with fail
   clear y0 y1;refine wp_region_any (by kernel_rfl) ?_
   refine bw (fun u=>Below wr.heap.size wr u) (fun i v u=>match i with
    |0=>v=Vp G 1
    |1=>v=.slice (some ⟨b,off,none⟩) X.m c
    |2=>v=Vi (k:Int)
    |3=>v=Vp b (off+k*13)
    |4=>v=.agg (dL (X.f k) a1 (X.f k).q.ws.length c1 a2 (X.f k).q.bs.length c2 a3 (X.f k).np c3 a4 (X.f k).hs.length c4 a5 (X.f k).nt c5).toArray
    |5=>v=.bool x
    |6=>v=.bool (!x)
    |7=>v=.bool (!x)
    |8=>v=cond x (Vp G 1) undef
    |9=>v=cond x (.slice (some ⟨b,off,none⟩) X.m c) undef
    |10=>v=cond x (Vi (k:Int)) undef
    |11=>v=cond x (Vp b (off+k*13)) undef
    |12=>v=cond x (Vp b (off+k*13)) undef
    |13=>v=cond x (Vi (X.f k).id) undef
    |14=>v=cond x (Vp G 0) undef
    |15=>v=cond x (Vi X.nx) undef
    |16=>v=cond x (Vi (X.nx-1)) undef
    |17=>v=cond x (.bool xi) undef
    |18=>v=cond x (.bool (!xi)) undef
    |19=>v=cond x (.bool (!xi)) (.bool true)
    |20=>v=cond x (.bool (!xi)) (.bool true)
    |21=>v=cond x (cond xi (Vi (k:Int)) undef) undef
    |22=>v=cond x (cond xi (.bool pos) undef) undef
    |23=>v=cond x (cond xi (.bool pos) undef) undef
    |24=>v=cond x (cond xi (cond pos (Vp G 1) undef) undef) undef
    |25=>v=cond x (cond xi (cond pos (.slice (some ⟨b,off,none⟩) X.m c) undef) undef) undef
    |26=>v=cond x (cond xi (cond pos (Vi (k:Int)) undef) undef) undef
    |27=>v=cond x (cond xi (cond pos (Vi (j:Int)) undef) undef) undef
    |28=>v=cond x (cond xi (cond pos (Vp b (off+j*13)) undef) undef) undef
    |29=>v=cond x (cond xi (cond pos (Vp b (off+j*13)) undef) undef) undef
    |30=>v=cond x (cond xi (cond pos (Vi (X.f j).id) undef) undef) undef
    |31=>v=cond x (cond xi (cond pos (Vp G 1) undef) undef) undef
    |32=>v=cond x (cond xi (cond pos (.slice (some ⟨b,off,none⟩) X.m c) undef) undef) undef
    |33=>v=cond x (cond xi (cond pos (Vi (k:Int)) undef) undef) undef
    |34=>v=cond x (cond xi (cond pos (Vp b (off+k*13)) undef) undef) undef
    |35=>v=cond x (cond xi (cond pos (Vp b (off+k*13)) undef) undef) undef
    |36=>v=cond x (cond xi (cond pos (Vi (X.f k).id) undef) undef) undef
    |37=>v=cond x (cond xi (cond pos (.bool ge) undef) undef) undef
    |38=>v=cond x (cond xi (cond pos (.bool ge) (.bool false)) undef) undef
    |39=>v=cond x (cond xi (cond pos (.bool ge) (.bool false)) (.bool true)) (.bool true)
    |_=>v=undef) (by kernel_rfl) (by kernel_rfl) (fun _ _ _ _ h _=>h) (by first|exact Br|exact Br.drew) ?_ ?_ _ _ rfl (by decide) (fun i=>by simp [Array.getD];try (split <;> rfl))
   ·intro vs u hR hall
    simp only [bI];cases x
    ·have e39:vs 39=.bool true:=hall 39 (by simp)
     rw [e39];clear hall e39;have HF:Hid (aO (bQ X) X.m=false/\Below w.heap.size w u):=⟨cT hlt (by rw [HA.out.2.2.2];rfl),af HA.out.2.1 hR⟩
     clear HK HA hR;go_simp;go_wp2;go_ret;exact ⟨by rw [HF.out.1];rfl,HF.out.2⟩
    cases xi
    ·have e39:vs 39=.bool true:=hall 39 (by simp)
     rw [e39];clear hall e39;have HF:Hid (aO (bQ X) X.m=false/\Below w.heap.size w u):=⟨cT hlt (by rw [HA.out.2.2.2];rfl),af HA.out.2.1 hR⟩
     clear HK HA hR;go_simp;go_wp2;go_ret;exact ⟨by rw [HF.out.1];rfl,HF.out.2⟩
    cases pos
    ·have e39:vs 39=.bool false:=hall 39 (by simp)
     rw [e39];clear hall e39;have hn9:=of_decide_eq_false HD.out.1;have k0:k=0:=by omega
     have hgood:bQ X k=true:=by rw [HA.out.2.2.2];simp [k0]
     have HF:Hid (aO (bQ X) (k+1)=true/\Below W.heap.size W u):=⟨cL HA.out.1 hgood,af HA.out.2.2.1 hR⟩
     clear HK HA hR hgood k0 hn9;go_simp;go_wp2;go_roundw
     case rel=>exact ⟨k+1,by omega,by go_num,HF.out.1,HF.out.2⟩
     case measure=>simp [intOf];omega
    cases ge
    ·have e39:vs 39=.bool false:=hall 39 (by simp)
     rw [e39];clear hall e39;have hn9:=of_decide_eq_true HD.out.1;have k0:¬ k=0:=by omega
     have t1:=of_decide_eq_false HD.out.2.1;have hgood:bQ X k=true:=by rw [HA.out.2.2.2];rw [<- HD.out.2.2];simp [k0];omega
     have HF:Hid (aO (bQ X) (k+1)=true/\Below W.heap.size W u):=⟨cL HA.out.1 hgood,af HA.out.2.2.1 hR⟩
     clear HK HA hR hgood k0 hn9 t1;go_simp;go_wp2;go_roundw
     case rel=>exact ⟨k+1,by omega,by go_num,HF.out.1,HF.out.2⟩
     case measure=>simp [intOf];omega
    have e39:vs 39=.bool true:=hall 39 (by simp);rw [e39];clear hall e39;have hn9:=of_decide_eq_true HD.out.1;have k0:¬ k=0:=by omega
    have t1:=of_decide_eq_true HD.out.2.1;have HF:Hid (aO (bQ X) X.m=false/\Below w.heap.size w u):=⟨cT hlt (by rw [HA.out.2.2.2];rw [<- HD.out.2.2];simp [k0];omega),af HA.out.2.1 hR⟩
    clear HK HA hR k0 hn9 t1;go_simp;go_wp2;go_ret;exact ⟨by rw [HF.out.1];rfl,HF.out.2⟩
   intro u i o ρ hR ho hρ hc hf hd
   have hi:i<40:=by
    have:=(Array.getElem?_eq_some_iff.1 ho).1;simpa using this
   obtain rfl|rfl|rfl|rfl|rfl|rfl|rfl|rfl|rfl|rfl|rfl|rfl|rfl|rfl|rfl|rfl|rfl|rfl|rfl|rfl|rfl|rfl|rfl|rfl|rfl|rfl|rfl|rfl|rfl|rfl|rfl|rfl|rfl|rfl|rfl|rfl|rfl|rfl|rfl|rfl:i=0\/i=1\/i=2\/i=3\/i=4\/i=5\/i=6\/i=7\/i=8\/i=9\/i=10\/i=11\/i=12\/i=13\/i=14\/i=15\/i=16\/i=17\/i=18\/i=19\/i=20\/i=21\/i=22\/i=23\/i=24\/i=25\/i=26\/i=27\/i=28\/i=29\/i=30\/i=31\/i=32\/i=33\/i=34\/i=35\/i=36\/i=37\/i=38\/i=39:=by omega
   all_goals (simp only [List.getElem?_toArray,List.getElem?_cons_zero,List.getElem?_cons_succ,Option.some.injEq] at ho;subst ho)
   ·exact yr (ao rfl (hρ 1 (by kernel_rfl)) (by go_simp)) rfl hR
   ·have y9:=(HK.out.1.below hR).rng 1 _ rfl
    exact yr (ah rfl (dq hd 0 21) (by go_simp)) rfl hR
   ·exact yr rfl (hρ 3 (by kernel_rfl)) hR
   ·exact yr (au rfl (dq hd 1 22) (dq hd 2 23) (by go_simp)) rfl hR
   ·have h3:_=_:=dq hd 3 24
    have hr:(Instr.loadAt 122 (Vp b (off+k*13))).run prog u=.ok (.agg (dL (X.f k) a1 (X.f k).q.ws.length c1 a2 (X.f k).q.bs.length c2 a3 (X.f k).np c3 a4 (X.f k).hs.length c4 a5 (X.f k).nt c5).toArray) u:=run_loadAt_mid u b (off+k*13) 122 (dL (X.f k) a1 (X.f k).q.ws.length c1 a2 (X.f k).q.bs.length c2 a3 (X.f k).np c3 a4 (X.f k).hs.length c4 a5 (X.f k).nt c5) _ (ay HK.out.2.2.1 HK.out.2.1 hR) underlying122 rfl (by kernel_rfl);exact yr (ah rfl h3 hr) rfl hR
   ·have h4:_=_:=dq hd 4 25
    refine .inl ⟨rfl,.inr ⟨_,_,bv rfl (hf _) (args:=#[.agg (dL (X.f k) a1 (X.f k).q.ws.length c1 a2 (X.f k).q.bs.length c2 a3 (X.f k).np c3 a4 (X.f k).hs.length c4 a5 (X.f k).nt c5).toArray]) (by simp [h4]) (by kernel_rfl),?_⟩⟩;refine (nS (X.f k) a1 c1 a2 c2 a3 c3 a4 c4 a5 c5 _ (HK.out.2.2.2.1.below hR) (HK.out.2.2.2.2.1.below hR) (HK.out.2.2.2.2.2.1.below hR) (HK.out.2.2.2.2.2.2.1.below hR) (HK.out.2.2.2.2.2.2.2.1.below hR) HK.out.2.2.2.2.2.2.2.2).mono ?_;rintro e u' ⟨he,b'⟩;exact ⟨_,he.trans (by rw [HX.out.1] <;> rfl),rfl,af hR b',b'⟩
   ·exact yr (bT rfl (dq hd 5 26) (by go_simp)) rfl hR
   ·exact yr rfl (dq hd 6 27) hR
   ·cases x
    ·exact aj (.bool true) hd 7 28
    exact yq hd 7 28 (ao rfl (hρ 1 (by kernel_rfl)) (by go_simp)) rfl hR
   ·cases x
    ·exact aj (.bool true) hd 7 28
    have y9:=(HK.out.1.below hR).rng 1 _ rfl;exact yq hd 7 28 (ah rfl (dq hd 8 29) (by go_simp)) rfl hR
   ·cases x
    ·exact aj (.bool true) hd 7 28
    exact yq hd 7 28 rfl (hρ 3 (by kernel_rfl)) hR
   ·cases x
    ·exact aj (.bool true) hd 7 28
    exact yq hd 7 28 (au rfl (dq hd 9 30) (dq hd 10 31) (by go_simp)) rfl hR
   ·cases x
    ·exact aj (.bool true) hd 7 28
    exact yq hd 7 28 (ao rfl (dq hd 11 32) (by go_simp)) rfl hR
   ·cases x
    ·exact aj (.bool true) hd 7 28
    have y9:u.cell? ⟨b,off+k*13,none⟩=some (Vi (X.f k).id):=(ay HK.out.2.2.1 HK.out.2.1 hR) 0 _ rfl;exact yq hd 7 28 (ah rfl (dq hd 12 33) (by go_simp)) rfl hR
   ·cases x
    ·exact aj (.bool true) hd 7 28
    exact yq hd 7 28 (ao rfl (hρ 1 (by kernel_rfl)) (by go_simp)) rfl hR
   ·cases x
    ·exact aj (.bool true) hd 7 28
    have y9:u.cell? ⟨G,0,none⟩=some (Vi X.nx):=(HK.out.1.below hR).rng 0 _ rfl;exact yq hd 7 28 (ah rfl (dq hd 14 35) (by go_simp)) rfl hR
   ·cases x
    ·exact aj (.bool true) hd 7 28
    exact yq hd 7 28 (aG rfl (dq hd 15 36) (hc _) (by go_simp)) rfl hR
   ·cases x
    ·exact aj (.bool true) hd 7 28
    have g7:ρ (.tmp 28)=.bool false:=gq hd 7 28;have h13:_=_:=dq hd 13 34;have h16:_=_:=dq hd 16 37;refine .inl ⟨(by show (match ρ (.tmp 28) with| .bool b=>b == false|_=>false)=true;rw [g7];rfl),.inr ⟨_,_,bv rfl (hf _) (args:=#[Vi (X.f k).id,Vi 0,Vi (X.nx-1)]) (by simp [h13,hc,h16]) (by kernel_rfl),?_⟩⟩;refine (aI _ _ _ _ _ HX.out.2).mono ?_;rintro e u' ⟨he,rfl⟩;exact ⟨_,he.trans rfl,rfl,hR,Br⟩
   ·cases x
    ·exact aj (.bool true) hd 7 28
    exact yq hd 7 28 (bT rfl (dq hd 17 38) (by go_simp)) rfl hR
   ·cases x
    ·exact yr (aC rfl (dq hd 7 28)) (by simpa using hc _) hR
    exact yr (aC rfl (dq hd 7 28)) (by simpa using (dq hd 18 39)) hR
   ·exact yr rfl (dq hd 19 40) hR
   ·cases x
    ·exact aj (.bool true) hd 20 41
    cases xi
    ·exact aj (.bool true) hd 20 41
    exact yq hd 20 41 rfl (hρ 3 (by kernel_rfl)) hR
   ·cases x
    ·exact aj (.bool true) hd 20 41
    cases xi
    ·exact aj (.bool true) hd 20 41
    cases pos
    ·have hn9:=of_decide_eq_false HD.out.1
     have hn0:¬ (0:Int)<(k:Int):=by omega
     exact yq hd 20 41 (aG rfl (dq hd 21 42) (hc _) (by go_simp)) rfl hR
    have hn9:=of_decide_eq_true HD.out.1;have hn0:(0:Int)<(k:Int):=by omega
    exact yq hd 20 41 (aG rfl (dq hd 21 42) (hc _) (by go_simp)) rfl hR
   ·cases x
    ·exact aj (.bool true) hd 20 41
    cases xi
    ·exact aj (.bool true) hd 20 41
    exact yq hd 20 41 rfl (dq hd 22 43) hR
   ·cases x
    ·exact aj undef hd 23 44
    cases xi
    ·exact aj undef hd 23 44
    cases pos
    ·exact aj (.bool false) hd 23 44
    exact yq hd 23 44 (ao rfl (hρ 1 (by kernel_rfl)) (by go_simp)) rfl hR
   ·cases x
    ·exact aj undef hd 23 44
    cases xi
    ·exact aj undef hd 23 44
    cases pos
    ·exact aj (.bool false) hd 23 44
    have y9:=(HK.out.1.below hR).rng 1 _ rfl;exact yq hd 23 44 (ah rfl (dq hd 24 45) (by go_simp)) rfl hR
   ·cases x
    ·exact aj undef hd 23 44
    cases xi
    ·exact aj undef hd 23 44
    cases pos
    ·exact aj (.bool false) hd 23 44
    exact yq hd 23 44 rfl (hρ 3 (by kernel_rfl)) hR
   ·cases x
    ·exact aj undef hd 23 44
    cases xi
    ·exact aj undef hd 23 44
    cases pos
    ·exact aj (.bool false) hd 23 44
    have hn9:=of_decide_eq_true HD.out.1;have wj:IntKind.i64.wrap ((k:Int)-1)=(j:Int):=by rw [IntKind.wrap_i64];have:=HD.out.2.2;omega
    exact yq hd 23 44 (aG rfl (dq hd 26 47) (hc _) (by go_simp)) rfl hR
   ·cases x
    ·exact aj undef hd 23 44
    cases xi
    ·exact aj undef hd 23 44
    cases pos
    ·exact aj (.bool false) hd 23 44
    exact yq hd 23 44 (au rfl (dq hd 25 46) (dq hd 27 48) (by go_simp)) rfl hR
   ·cases x
    ·exact aj undef hd 23 44
    cases xi
    ·exact aj undef hd 23 44
    cases pos
    ·exact aj (.bool false) hd 23 44
    exact yq hd 23 44 (ao rfl (dq hd 28 49) (by go_simp)) rfl hR
   ·cases x
    ·exact aj undef hd 23 44
    cases xi
    ·exact aj undef hd 23 44
    cases pos
    ·exact aj (.bool false) hd 23 44
    have y9:u.cell? ⟨b,off+j*13,none⟩=some (Vi (X.f j).id):=(ay HJ.out HK.out.2.1 hR) 0 _ rfl;exact yq hd 23 44 (ah rfl (dq hd 29 50) (by go_simp)) rfl hR
   ·cases x
    ·exact aj undef hd 23 44
    cases xi
    ·exact aj undef hd 23 44
    cases pos
    ·exact aj (.bool false) hd 23 44
    exact yq hd 23 44 (ao rfl (hρ 1 (by kernel_rfl)) (by go_simp)) rfl hR
   ·cases x
    ·exact aj undef hd 23 44
    cases xi
    ·exact aj undef hd 23 44
    cases pos
    ·exact aj (.bool false) hd 23 44
    have y9:=(HK.out.1.below hR).rng 1 _ rfl;exact yq hd 23 44 (ah rfl (dq hd 31 52) (by go_simp)) rfl hR
   ·cases x
    ·exact aj undef hd 23 44
    cases xi
    ·exact aj undef hd 23 44
    cases pos
    ·exact aj (.bool false) hd 23 44
    exact yq hd 23 44 rfl (hρ 3 (by kernel_rfl)) hR
   ·cases x
    ·exact aj undef hd 23 44
    cases xi
    ·exact aj undef hd 23 44
    cases pos
    ·exact aj (.bool false) hd 23 44
    exact yq hd 23 44 (au rfl (dq hd 32 53) (dq hd 33 54) (by go_simp)) rfl hR
   ·cases x
    ·exact aj undef hd 23 44
    cases xi
    ·exact aj undef hd 23 44
    cases pos
    ·exact aj (.bool false) hd 23 44
    exact yq hd 23 44 (ao rfl (dq hd 34 55) (by go_simp)) rfl hR
   ·cases x
    ·exact aj undef hd 23 44
    cases xi
    ·exact aj undef hd 23 44
    cases pos
    ·exact aj (.bool false) hd 23 44
    have y9:u.cell? ⟨b,off+k*13,none⟩=some (Vi (X.f k).id):=(ay HK.out.2.2.1 HK.out.2.1 hR) 0 _ rfl;exact yq hd 23 44 (ah rfl (dq hd 35 56) (by go_simp)) rfl hR
   ·cases x
    ·exact aj undef hd 23 44
    cases xi
    ·exact aj undef hd 23 44
    cases pos
    ·exact aj (.bool false) hd 23 44
    cases ge
    ·have t1:=of_decide_eq_false HD.out.2.1
     exact yq hd 23 44 (aG rfl (dq hd 30 51) (dq hd 36 57) (by go_simp)) rfl hR
    have t1:=of_decide_eq_true HD.out.2.1;exact yq hd 23 44 (aG rfl (dq hd 30 51) (dq hd 36 57) (by go_simp)) rfl hR
   ·cases x
    ·exact aj (.bool true) hd 20 41
    cases xi
    ·exact aj (.bool true) hd 20 41
    cases pos
    ·exact yq hd 20 41 (aC rfl (dq hd 23 44)) (by simpa using hc _) hR
    exact yq hd 20 41 (aC rfl (dq hd 23 44)) (by simpa using (dq hd 37 58)) hR
   cases x
   ·exact yr (aC rfl (dq hd 20 41)) (by simpa using hc _) hR
   cases xi
   ·exact yr (aC rfl (dq hd 20 41)) (by simpa using hc _) hR
   exact yr (aC rfl (dq hd 20 41)) (by simpa using (dq hd 38 59)) hR
  have hi:¬ (k:Int)<(X.m:Int):=by omega
  have e9:k=X.m:=by omega
  have HF:Hid (aO (bQ X) X.m=true/\Below w.heap.size w wr):=⟨by rw [<- e9];exact hall,af HE.out.2.2.2.1 hbl⟩
  clear hall hbl e9;go_wp2;go_ret;exact ⟨by rw [HF.out.1];rfl,HF.out.2⟩
theorem kS(X:VT)(a:OA)(c:Nat)(w:World)(h:iq w X a c):
 Calls prog 50 #[.agg (tL X a X.m c).toArray] w fun e w'=>e=.returned (Vi (if eB X then (im X X.m:Int) else 0))/\Below w.heap.size w w':=by
 obtain ⟨x0,hx0⟩:∃ x,eB X=x:=⟨_,rfl⟩
 obtain ⟨G,hG⟩:∃ G,G=w.heap.size:=⟨_,rfl⟩
 obtain ⟨W,hW⟩:∃ W,W=w.alloc (.cells (tL X a X.m c).toArray 38):=⟨_,rfl⟩
 have HE:Hid (eB X=x0/\Below w.heap.size w W/\ae W G 38 (tL X a X.m c).toArray/\iq W X a c):=⟨hx0,by rw [hW];exact aa _ _,by rw [hW,hG];exact ae.new _ _ _,h.below (by rw [hW];exact aa _ _)⟩
 rw [HE.out.1];have hm2:=h.2.1;clear hx0 h;cases x0
 case false=>
  go_enter func50,ntmps50
  go_upto_region 1 with fail
  rw [<- hW,<- hG];clear hW hG;go_wp2;go_loopw [3,4] (fun s i wr=>s=Vi 0/\i=Vi 0/\Below W.heap.size W wr) (fun _ _ _=>0)
  case atStart=>exact ⟨rfl,rfl,Br⟩
  case round=>
   obtain ⟨rfl,rfl,hbl⟩:=hrel;obtain ⟨⟨y0,y1⟩,yf⟩:=(HE.out.2.2.1.below hbl).tc2;clear yf;have HB:Hid (Below W.heap.size W wr):=hbl;clear hbl;by_cases h0:X.m=0
   ·have h1:¬ (0:Int)<(X.m:Int):=by omega
    have B9:=af HE.out.2.1 HB.out;go_wp2;go_ret;exact ⟨rfl,B9⟩
   have h1:(0:Int)<(X.m:Int):=by omega
   go_wp2_with fail
   refine (fL X a c _ (HE.out.2.2.2.below HB.out)).mono ?_;rintro e w1 ⟨rfl,b1⟩;rw [HE.out.1];have B9:=af (af HE.out.2.1 HB.out) b1;clear b1 y0 y1;go_wp2;go_ret;exact ⟨rfl,B9⟩
 have h16:X.m<= 16:=by
  have:=HE.out.1;unfold eB at this;simp only [Bool.and_eq_true,decide_eq_true_eq] at this;exact this.2.1
 go_enter func50,ntmps50
 go_upto_region 1 with fail
 rw [<- hW,<- hG];clear hW hG;go_wp2;go_loopw [3,4] (fun s i wr=>∃ k:Nat,k<= X.m/\i=Vi k/\s=Vi (im X k:Int)/\im X k<= k*2000000/\Below W.heap.size W wr) (fun _ i _=>X.m-(intOf i).toNat)
 case atStart=>exact ⟨0,Nat.zero_le _,rfl,rfl,Nl,Br⟩
 case round=>
  obtain ⟨k,hk,rfl,rfl,hle,hbl⟩:=hrel;obtain ⟨s,hs⟩:∃ s,s=im X k:=⟨_,rfl⟩
  rw [<- hs] at hle ⊢;have HS:Hid (s=im X k/\Below W.heap.size W wr):=⟨hs,hbl⟩
  clear hs;have hs16:s<= 16*2000000:=Nat.le_trans hle (Nat.mul_le_mul_right _ (Nat.le_trans hk h16));obtain ⟨⟨y0,y1⟩,yf⟩:=(HE.out.2.2.1.below hbl).tc2;clear yf hbl;by_cases hlt:k<X.m
  ·have hi:(k:Int)<(X.m:Int):=by omega
   go_wp2_with fail
   refine (fL X a c _ (HE.out.2.2.2.below HS.out.2)).mono ?_;rintro e w1 ⟨rfl,b1⟩;rw [HE.out.1];have HB:Hid (Below W.heap.size W w1):=af HS.out.2 b1;clear b1 y0 y1;obtain ⟨⟨y0,y1⟩,yf⟩:=(HE.out.2.2.1.below HB.out).tc2;clear yf;obtain ⟨b,off,rfl,hp,hbd⟩:=(HE.out.2.2.2.below HB.out).at hlt;obtain ⟨hb0,a1,c1,a2,c2,a3,c3,a4,c4,a5,c5,hr,r1,r2,r3,r4,r5⟩:=hp.cells;have d11:=hr 11 _ rfl;obtain ⟨N,hN⟩:∃ N,N=(X.f k).hs.length:=⟨_,rfl⟩
   rw [<- hN] at d11 r4;have hN2:N<= 2000000:=by rw [hN];exact hbd.2.2.1
   have HP:Hid (Rd w1 0 (ai (X.f k).hs) (.slice a4 N c4)/\N=(X.f k).hs.length):=⟨r4,hN⟩
   clear hb0 hr r1 r2 r3 r4 r5 hp hbd hN;go_wp2;go_loopw [3,5] (fun s' i wr=>∃ q:Nat,q<= N/\i=Vi q/\s'=Vi ((s:Int)+(cN (X.f k).hs q:Int))/\wr=w1) (fun _ i _=>N-(intOf i).toNat)
   case atStart=>exact ⟨0,Nat.zero_le _,rfl,by simp [cN],rfl⟩
   case round=>
    obtain ⟨q,hq,rfl,rfl,hw⟩:=hrel;subst hw;have hcl:=jA (X.f k).hs q;obtain ⟨t,ht⟩:∃ t,t=cN (X.f k).hs q:=⟨_,rfl⟩
    rw [<- ht] at hcl ⊢;have HQ:Hid (t=cN (X.f k).hs q):=ht;clear ht;by_cases hql:q<N
    ·have hqi:(q:Int)<(N:Int):=by omega
     obtain ⟨b4,o4,rfl,hb4,d0⟩:=HP.out.1.bit (k:=q) (n:=N) (by rw [<- HP.out.2];exact hql);obtain ⟨x,hx⟩:∃ x,(X.f k).hs.getD q false=x:=⟨_,rfl⟩
     rw [hx] at d0;have HF:Hid (cN (X.f k).hs (q+1)=t+(if x then 0 else 1)):=by show cN (X.f k).hs (q+1)=_;simp only [cN];rw [hx,HQ.out]
     clear hx hb4;cases x with
     |true=>
      go_wp2;go_roundw
      case rel=>exact ⟨q+1,by omega,by go_num,by rw [HF.out];rfl,trivial⟩
      case measure=>simp [intOf];omega
     |false=>
      go_wp2;go_roundw
      case rel=>exact ⟨q+1,by omega,by go_num,by rw [HF.out];go_num,trivial⟩
      case measure=>simp [intOf];omega
    have hqi:¬ (q:Int)<(N:Int):=by omega
    have e8:q=N:=by omega
    have HF:Hid (im X (k+1)=s+t/\s+t<= (k+1)*2000000):=⟨by rw [HS.out.1,HQ.out,e8,HP.out.2];rfl,by rw [Nat.add_mul];omega⟩
    clear e8;go_wp2;go_roundw
    case rel=>exact ⟨k+1,by omega,by go_num,by rw [HF.out.1];go_num,by rw [HF.out.1];exact HF.out.2,HB.out⟩
    case measure=>simp [intOf];omega
  have hi:¬ (k:Int)<(X.m:Int):=by omega
  have e9:k=X.m:=by omega
  have HF:Hid (s=im X X.m/\Below w.heap.size w wr):=⟨by rw [<- e9];exact HS.out.1,af HE.out.2.1 HS.out.2⟩
  clear e9;go_wp2;go_ret;exact ⟨by rw [<- HF.out.1];rfl,HF.out.2⟩
end Go.Proofs.YtohikbpolofklaaGreat
