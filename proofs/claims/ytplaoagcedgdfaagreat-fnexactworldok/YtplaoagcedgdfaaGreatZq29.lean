/- Parts of the proof. -/
import Derived.Test.YtplaoagcedgdfaaGreatZq8
import Derived.Test.YtplaoagcedgdfaaGreatZq6
set_option linter.unusedVariables false
set_option linter.unusedSimpArgs false
set_option maxHeartbeats 4000000
set_option maxRecDepth 20000
namespace Go.Proofs.YtplaoagcedgdfaaGreat
open Go.RowKit Go.Joins Go.Proofs.Tryz
abbrev my : Array Value := #[.slice none 0 0, .bool false, .int .i64 0, .int .i64 0, .int .i64 0, .int .i64 0, .int .i64 0, .int .i64 0, .slice none 0 0, .slice none 0 0, .int .i64 0, .int .i64 0, .int .i64 0, .int .i64 0, .int .i64 0, .int .i64 0, .int .i64 0]
abbrev oC : Array Value := #[.int .i64 0, .int .i64 0, .int .i64 0, .int .i64 0, .int .i64 0, .slice none 0 0, .slice none 0 0, .int .i64 0, .slice none 0 0, .slice none 0 0, .int .i64 0, .int .i64 0, .int .i64 0, .int .i64 0, .slice none 0 0, .slice none 0 0]
abbrev oD : Array Value := #[.bool false, .int .i64 0, .int .i64 0, .int .i64 0, .int .i64 0, .int .i64 0, .int .i64 0, .slice none 0 0, .slice none 0 0, .int .i64 0, .int .i64 0, .int .i64 0, .int .i64 0, .int .i64 0, .slice none 0 0, .slice none 0 0]
abbrev uN : Array Value := #[.int .i64 0, .int .i64 0, .int .i64 0, .slice none 0 0, .int .i64 0, .slice none 0 0, .slice none 0 0, .int .i64 0, .int .i64 0, .int .i64 0, .int .i64 0, .slice none 0 0, .slice none 0 0, .slice none 0 0, .slice none 0 0]
abbrev oE : Array Value := #[.int .i64 0, .int .i64 0, .int .i64 0, .int .i64 0, .int .i64 0, .int .i64 0, .slice none 0 0, .slice none 0 0, .int .i64 0, .int .i64 0, .int .i64 0, .int .i64 0, .int .i64 0, .slice none 0 0, .slice none 0 0]
abbrev oF : Array Value := #[.int .i64 0, .int .i64 0, .int .i64 0, .int .i64 0, .int .i64 0, .int .i64 0, .slice none 0 0, .slice none 0 0, .int .i64 0]
abbrev oG : Array Value := #[.int .i64 0, .int .i64 0, .slice none 0 0, .slice none 0 0, .slice none 0 0, .slice none 0 0]
theorem pY (n : Nat) (f : Nat -> Ru) (a : Option Addr) (n' cap : Nat) (w : World) (hs : Rd w 0 (.list 7 n (fun k => aa (bi (f k)))) (.slice a n' cap)) (hz : (Tr.list 7 n (fun k => aa (bi (f k)))).sz <= 1048576) :
 Calls prog 15 #[.slice a n' cap] w fun e w' => ∃ b d, e = .returned (.slice b n' d) /\ Rd w' w.heap.size (.list 7 n (fun k => aa (bi (f k)))) (.slice b n' d) /\ Below w.heap.size w w' := by
 rw [qn] at hz
 obtain ⟨rfl, h1⟩ := hs.slu
 obtain ⟨_, _, h9, -, hm⟩ := hs.shape
 refine (m9 a n' cap f w h1 (by omega)).mono ?_
 rintro e w' ⟨rfl, hr, hb⟩
 exact ⟨_, _, rfl, Rd.made hr (Nat.le_refl _) hm (fun k hk => ⟨rfl, Ru.back⟩), hb⟩
theorem oH (X : VC) (a1 : Option Addr) (l1 c1 : Nat) (w : World) (r1 : Rd w 0 (.list 7 X.n (fun i => aa (bi (X.f i)))) (.slice a1 l1 c1)) (hz : ao 3 (aa (eW X)) <= 1048576) :
 Calls prog 41 #[.agg (dR X a1 l1 c1).toArray] w fun e w' => ∃ b1 d1, e = .returned (.agg (dR X b1 l1 d1).toArray) /\ Rd w' w.heap.size (.list 7 X.n (fun i => aa (bi (X.f i)))) (.slice b1 l1 d1) /\ Below w.heap.size w w' := by
 obtain ⟨W, hW⟩ : ∃ W, W = ((w.alloc (.cells (dR X a1 l1 c1).toArray 24)).alloc (.cells #[.int .i64 0, .int .i64 0, .slice none 0 0] 35)).alloc (.cells #[.int .i64 X.wt, .int .i64 X.tr, .slice none 0 0] 35) := ⟨_, rfl⟩
 have G0 := TS.new hW
 have HZ : Hid ((Tr.list 7 X.n (fun i => aa (bi (X.f i)))).sz <= 1048576) := by
  rw [gE] at hz
  show (Tr.list 7 X.n (fun i => aa (bi (X.f i)))).sz <= 1048576
  omega
 have HR := bg (r1)
 clear hz r1
 go_enter func41, ntmps41
 go_upto_region 4 with fail
 rw [<- hW]
 clear hW
 obtain ⟨⟨y0, y1, y2⟩, -⟩ := G0.out.a.tc3
 go_wp2_with fail
 refine (pY X.n X.f a1 l1 c1 _ (HR.out.below G0.out.b) HZ.out).mono ?_
 rintro e w1 ⟨b1, d1, rfl, q1, hb⟩
 clear y0 y1 y2
 obtain ⟨⟨z0, z1, z2⟩, zf⟩ := (G0.out.o.below hb).tc3
 have g2 := zf 2
 obtain ⟨W1, hX⟩ : ∃ z, z = aM w1 (w.heap.size + 1 + 1) 2 [.slice b1 l1 d1] := ⟨_, rfl⟩
 have G1 := TS.st G0 hb hX #[.int .i64 X.wt, .int .i64 X.tr, .slice b1 l1 d1] [(.list 7 X.n (fun i => aa (bi (X.f i))), .slice b1 l1 d1)] ⟨q1, trivial⟩
 simp only [aM, Nat.reduceAdd, Nat.zero_add] at hX
 clear hb q1
 go_upto_region 5 with fail
 rw [<- hX]
 clear hX zf z0 z1 z2 g2
 obtain ⟨V, hV⟩ : ∃ V, V = aM W1 (w.heap.size + 1) 0 (dR X b1 l1 d1) := ⟨_, rfl⟩
 have H9 := TS.fin G1 hV
 have hr : W1.rangeAt (w.heap.size + 1 + 1) 0 (dR X b1 l1 d1) := G1.out.o.all
 have ht := G1.out.z.there 0 3 (by simp)
 clear G1
 refine wp_region_lit ?_
 refine wpList_load_mid rfl 35 (.tmp 3) rfl (w.heap.size + 1 + 1) 0 rfl (dR X b1 l1 d1) _ hr underlying35 rfl (by kernel_rfl) ?_
 refine wpList_store_mid rfl 35 (.tmp 2) (.tmp 14) rfl (w.heap.size + 1) 0 (dR X b1 l1 d1).toArray rfl rfl ht (by kernel_rfl) (by simp [Value.oneCell']) ?_
 rw [bh, <- hV]
 clear hV hr ht
 refine wpList_nil ?_
 go_wp2
 obtain ⟨⟨y0, y1, y2⟩, -⟩ := H9.out.2.1.tc3
 obtain ⟨B, -, s1, -⟩ := H9.out
 refine bodyPost_ret (v := .agg (dR X b1 l1 d1).toArray) (by simp [results, results41, go_sem, y0, y1, y2]) rfl ⟨b1, d1, rfl, s1, B⟩
theorem mz (X : VL) (a1 : Option Addr) (l1 c1 : Nat) (a2 : Option Addr) (l2 c2 : Nat) (w : World) (r1 : Rd w 0 (ah X.q.ws) (.slice a1 l1 c1)) (r2 : Rd w 0 (af X.q.bs) (.slice a2 l2 c2)) (hz : ao 9 (aa (aO X)) <= 1048576) :
 Calls prog 140 #[.agg (bK X a1 l1 c1 a2 l2 c2).toArray] w fun e w' => ∃ b1 d1 b2 d2, e = .returned (.agg (bK X b1 l1 d1 b2 l2 d2).toArray) /\ Rd w' w.heap.size (ah X.q.ws) (.slice b1 l1 d1) /\ Rd w' w.heap.size (af X.q.bs) (.slice b2 l2 d2) /\ Below w.heap.size w w' := by
 obtain ⟨W, hW⟩ : ∃ W, W = ((w.alloc (.cells (bK X a1 l1 c1 a2 l2 c2).toArray 134)).alloc (.cells oF 86)).alloc (.cells #[.int .i64 X.id, .int .i64 X.pa, .int .i64 X.un, .int .i64 0, .int .i64 0, .int .i64 0, .slice none 0 0, .slice none 0 0, .int .i64 0] 86) := ⟨_, rfl⟩
 have G0 := TS.new hW
 have HZ : Hid (ao 6 (aa (qT X.q)) <= 1048576) := by
  rw [fQ] at hz
  show ao 6 (aa (qT X.q)) <= 1048576
  simp only [cO]
  omega
 have HR := bg (And.intro r1 <| r2)
 clear hz r1 r2
 go_enter func140, ntmps140
 go_upto_region 5 with fail
 rw [<- hW]
 clear hW
 obtain ⟨⟨y0, y1, y2, y3, y4, y5, y6, y7, y8⟩, -⟩ := G0.out.a.tc9
 go_wp2_with fail
 refine (fI X.q a1 l1 c1 a2 l2 c2 _ (HR.out.1.below G0.out.b) (HR.out.2.below G0.out.b) HZ.out).mono ?_
 rintro e w1 ⟨b1, d1, b2, d2, rfl, q1, q2, hb⟩
 clear y0 y1 y2 y3 y4 y5 y6 y7 y8
 obtain ⟨⟨z0, z1, z2, z3, z4, z5, z6, z7, z8⟩, zf⟩ := (G0.out.o.below hb).tc9
 have g3 := zf 3
 have g4 := zf 4
 have g5 := zf 5
 have g6 := zf 6
 have g7 := zf 7
 have g8 := zf 8
 obtain ⟨W1, hX⟩ : ∃ z, z = aM w1 (w.heap.size + 1 + 1) 3 [.int .i64 X.q.kd, .int .i64 X.q.pl, .int .i64 X.q.n, .slice b1 l1 d1, .slice b2 l2 d2, .int .i64 X.q.wa] := ⟨_, rfl⟩
 have G1 := TS.st G0 hb hX #[.int .i64 X.id, .int .i64 X.pa, .int .i64 X.un, .int .i64 X.q.kd, .int .i64 X.q.pl, .int .i64 X.q.n, .slice b1 l1 d1, .slice b2 l2 d2, .int .i64 X.q.wa] [(ah X.q.ws, .slice b1 l1 d1), (af X.q.bs, .slice b2 l2 d2)] ⟨q1, q2, trivial⟩
 simp only [aM, Nat.reduceAdd, Nat.zero_add] at hX
 clear hb q1 q2
 go_upto_region 6 with fail
 rw [<- hX]
 clear hX zf z0 z1 z2 z3 z4 z5 z6 z7 z8 g3 g4 g5 g6 g7 g8
 obtain ⟨V, hV⟩ : ∃ V, V = aM W1 (w.heap.size + 1) 0 (bK X b1 l1 d1 b2 l2 d2) := ⟨_, rfl⟩
 have H9 := TS.fin G1 hV
 have hr : W1.rangeAt (w.heap.size + 1 + 1) 0 (bK X b1 l1 d1 b2 l2 d2) := G1.out.o.all
 have ht := G1.out.z.there 0 9 (by simp)
 clear G1
 refine wp_region_lit ?_
 refine wpList_load_mid rfl 86 (.tmp 3) rfl (w.heap.size + 1 + 1) 0 rfl (bK X b1 l1 d1 b2 l2 d2) _ hr underlying86 rfl (by kernel_rfl) ?_
 refine wpList_store_mid rfl 86 (.tmp 2) (.tmp 17) rfl (w.heap.size + 1) 0 (bK X b1 l1 d1 b2 l2 d2).toArray rfl rfl ht (by kernel_rfl) (by simp [Value.oneCell']) ?_
 rw [bh, <- hV]
 clear hV hr ht
 refine wpList_nil ?_
 go_wp2
 obtain ⟨⟨y0, y1, y2, y3, y4, y5, y6, y7, y8⟩, -⟩ := H9.out.2.1.tc9
 obtain ⟨B, -, s1, s2, -⟩ := H9.out
 refine bodyPost_ret (v := .agg (bK X b1 l1 d1 b2 l2 d2).toArray) (by simp [results, results140, go_sem, y0, y1, y2, y3, y4, y5, y6, y7, y8]) rfl ⟨b1, d1, b2, d2, rfl, s1, s2, B⟩
theorem pZ (n : Nat) (f : Nat -> VL) (a : Option Addr) (n' cap : Nat) (w : World) (hs : Rd w 0 (.list 9 n (fun k => aa (aO (f k)))) (.slice a n' cap)) (hz : (Tr.list 9 n (fun k => aa (aO (f k)))).sz <= 1048576) :
 Calls prog 139 #[.slice a n' cap] w fun e w' => ∃ b d, e = .returned (.slice b n' d) /\ Rd w' w.heap.size (.list 9 n (fun k => aa (aO (f k)))) (.slice b n' d) /\ Below w.heap.size w w' := by
 obtain ⟨a9, c9, h9, -, hn⟩ := hs.shape
 simp only [Value.slice.injEq] at h9
 obtain ⟨-, rfl, -⟩ := h9
 clear a9 c9
 have hn1 : n' <= 1048576 := by rw [Tr.sz_list] at hz; omega
 have HZ : Hid (∀ k, k < n' -> ao 9 (aa (aO (f k))) <= 1048576) := by
  show ∀ k, k < n' -> ao 9 (aa (aO (f k))) <= 1048576
  intro k hk
  rw [Tr.sz_list] at hz
  have := cg (fun k => ao 9 (aa (aO (f k)))) hk
  omega
 have hmk := ck (P := prog) 79 86 (.agg oF) 9 104 underlying79 (by kernel_rfl) .i64 .i64 n' (by omega) (by omega)
 have HS : Hid (Rd w 0 (.list 9 n' (fun k => aa (aO (f k)))) (.slice a n' cap) /\ n' <= maxLen) := ⟨hs, hn⟩
 clear hs hz hn
 go_enter func139, ntmps139
 go_wp2
 clear hmk
 go_loopw [4] (fun i wr => ∃ (k : Nat) (F : Nat -> List Value), k <= n' /\ i = .int .i64 k /\ aG wr w.heap.size 86 9 n' F /\ (∀ j, j < k -> (F j).length = 9 /\ ay wr (w.heap.size + 1) (aa (aO (f j))) (F j)) /\ Below w.heap.size w wr) (fun i _ => n' - (intOf i).toNat)
 case atStart => exact ⟨0, fun _ => (oF).toList, Nat.zero_le _, rfl, aG.made w (oF).toList n' _ (by simp), fun j hj => by omega, (Below.refl _ _).alloc (Nat.le_refl _) _⟩
 case round =>
  obtain ⟨k, F, hk, rfl, hrow, hin, hb⟩ := hrel
  by_cases hlt : k < n'
  ·have hi : (k : Int) < (n' : Int) := by omega
   obtain ⟨b, off, vs, rfl, _, hb0, hlen, hr, hrd⟩ := (HS.out.1.below hb).at hlt
   obtain ⟨a1, c1, a2, c2, rfl, r1, r2⟩ := VL.cells hrd hlen
   clear hlen hrd
   have HK : Hid (aG wr w.heap.size 86 9 n' F /\ (∀ j, j < k -> (F j).length = 9 /\ ay wr (w.heap.size + 1) (aa (aO (f j))) (F j)) /\ Below w.heap.size w wr /\ Rd wr 0 (ah (f k).q.ws) (.slice a1 ((f k).q.ws.length) c1) /\ Rd wr 0 (af (f k).q.bs) (.slice a2 ((f k).q.bs.length) c2)) := ⟨hrow, hin, hb, r1, r2⟩
   clear hrow hin hb hb0 r1 r2
   go_wp2_with (first | (refine wpList_load_mid rfl 134 _ rfl b (off + k * 9) rfl _ _ hr underlying134 rfl (by kernel_rfl) ?_) | fail)
   refine (mz (f k) a1 ((f k).q.ws.length) c1 a2 ((f k).q.bs.length) c2 _ HK.out.2.2.2.1 HK.out.2.2.2.2 (HZ.out k hlt)).mono ?_
   rintro e w1 ⟨b1, d1, b2, d2, rfl, q1, q2, hb1⟩
   have R1 := HK.out.1.below hb1
   obtain ⟨W2, hW2⟩ : ∃ W2, W2 = aM w1 w.heap.size (k * 9) (bK (f k) b1 ((f k).q.ws.length) d1 b2 ((f k).q.bs.length) d2) := ⟨_, rfl⟩
   have H2 : Hid (∃ F', aG W2 w.heap.size 86 9 n' F' /\ (∀ j, j < k + 1 -> (F' j).length = 9 /\ ay W2 (w.heap.size + 1) (aa (aO (f j))) (F' j)) /\ Below w.heap.size w W2) := by
    have hg : w1.grownBy W2 (some w.heap.size) := by rw [hW2]; exact di _ _ _
    have hs1 := HK.out.1.lt
    refine ⟨_, by rw [hW2]; exact R1.set hlt _ rfl, fun j hj => ?_, by rw [hW2]; exact bp (Nat.le_refl _) _ _ _ (ae HK.out.2.2.1 hb1)⟩
    by_cases e : j = k
    ·subst e
     simp only [if_true]
     exact ⟨rfl, VL.back ((q1.mono (by omega)).kept hg (by omega)) ((q2.mono (by omega)).kept hg (by omega))⟩
    simp only [if_neg e]
    have h9 := HK.out.2.1 j (by omega)
    exact ⟨h9.1, (h9.2.below hb1).kept hg (by omega)⟩
   have ht := R1.there hlt (m := 9) (Nat.le_refl _)
   clear R1 hb1 HK hr q1 q2
   go_wp2_with (first | (refine wpList_store_mid rfl 86 _ _ rfl w.heap.size (k * 9) (bK (f k) b1 ((f k).q.ws.length) d1 b2 ((f k).q.bs.length) d2).toArray rfl rfl ht (by kernel_rfl) (by simp [Value.oneCell']) ?_; rw [bh, <- hW2]; clear hW2 ht) | fail)
   go_roundw
   case rel =>
    obtain ⟨F', x1, x2, x3⟩ := H2.out
    exact ⟨k + 1, F', by omega, by go_num, x1, x2, x3⟩
   case measure => simp [intOf]; omega
  have hi : ¬ (k : Int) < (n' : Int) := by omega
  have e9 : k = n' := by omega
  subst e9
  have HR : Hid (aG wr w.heap.size 86 9 k F /\ (∀ j, j < k -> (F j).length = 9 /\ ay wr (w.heap.size + 1) (aa (aO (f j))) (F j)) /\ Below w.heap.size w wr) := ⟨hrow, hin, hb⟩
  clear hrow hin hb
  go_wp2
  go_ret
  exact ⟨_, _, rfl, Rd.made HR.out.1 (Nat.le_refl _) HS.out.2 (fun j hj => ⟨(HR.out.2.1 j hj).1, (HR.out.2.1 j hj).2.mono (by omega)⟩), HR.out.2.2⟩
theorem rm (X : VN) (a1 : Option Addr) (l1 c1 : Nat) (a2 : Option Addr) (l2 c2 : Nat) (a3 : Option Addr) (l3 c3 : Nat) (w : World) (r1 : Rd w 0 (.list 9 X.nq (fun i => aa (aO (X.qf i)))) (.slice a1 l1 c1)) (r2 : Rd w 0 (ah X.c.q.ws) (.slice a2 l2 c2)) (r3 : Rd w 0 (af X.c.q.bs) (.slice a3 l3 c3)) (hz : ao 17 (aa (aU X)) <= 1048576) :
 Calls prog 85 #[.agg (cj X a1 l1 c1 a2 l2 c2 a3 l3 c3).toArray] w fun e w' => ∃ b1 d1 b2 d2 b3 d3, e = .returned (.agg (cj X b1 l1 d1 b2 l2 d2 b3 l3 d3).toArray) /\ Rd w' w.heap.size (.list 9 X.nq (fun i => aa (aO (X.qf i)))) (.slice b1 l1 d1) /\ Rd w' w.heap.size (ah X.c.q.ws) (.slice b2 l2 d2) /\ Rd w' w.heap.size (af X.c.q.bs) (.slice b3 l3 d3) /\ Below w.heap.size w w' := by
 obtain ⟨W, hW⟩ : ∃ W, W = ((w.alloc (.cells (cj X a1 l1 c1 a2 l2 c2 a3 l3 c3).toArray 136)).alloc (.cells my 88)).alloc (.cells my 88) := ⟨_, rfl⟩
 have G0 := TS.new hW
 have HZ : Hid ((Tr.list 9 X.nq (fun i => aa (aO (X.qf i)))).sz <= 1048576 /\ ao 9 (aa (aO X.c)) <= 1048576) := by
  rw [jW] at hz
  show (Tr.list 9 X.nq (fun i => aa (aO (X.qf i)))).sz <= 1048576 /\ ao 9 (aa (aO X.c)) <= 1048576
  simp only [fQ]
  omega
 have HR := bg (And.intro r1 <| And.intro r2 <| r3)
 clear hz r1 r2 r3
 go_enter func85, ntmps85
 go_upto_region 2 with fail
 rw [<- hW]
 clear hW
 obtain ⟨⟨y0, y1, y2, y3, y4, y5, y6, y7, y8, y9, y10, y11, y12, y13, y14, y15, y16⟩, -⟩ := G0.out.a.tc17
 go_wp2_with fail
 refine (pZ X.nq X.qf a1 l1 c1 _ (HR.out.1.below G0.out.b) HZ.out.1).mono ?_
 rintro e w1 ⟨b1, d1, rfl, q1, hb⟩
 clear y0 y1 y2 y3 y4 y5 y6 y7 y8 y9 y10 y11 y12 y13 y14 y15 y16
 obtain ⟨⟨y0, y1, y2, y3, y4, y5, y6, y7, y8, y9, y10, y11, y12, y13, y14, y15, y16⟩, -⟩ := (G0.out.a.below hb).tc17
 obtain ⟨⟨z0, z1, z2, z3, z4, z5, z6, z7, z8, z9, aR, aV, z12, z13, z14, z15, z16⟩, zf⟩ := (G0.out.o.below hb).tc17
 have g0 := zf 0
 have g1 := zf 1
 obtain ⟨W1, hX⟩ : ∃ z, z = aM w1 (w.heap.size + 1 + 1) 0 [.slice b1 l1 d1, .bool X.bz] := ⟨_, rfl⟩
 have G1 := TS.st G0 hb hX #[.slice b1 l1 d1, .bool X.bz, .int .i64 0, .int .i64 0, .int .i64 0, .int .i64 0, .int .i64 0, .int .i64 0, .slice none 0 0, .slice none 0 0, .int .i64 0, .int .i64 0, .int .i64 0, .int .i64 0, .int .i64 0, .int .i64 0, .int .i64 0] [(.list 9 X.nq (fun i => aa (aO (X.qf i))), .slice b1 l1 d1)] ⟨q1, trivial⟩
 simp only [aM, Nat.reduceAdd, Nat.zero_add] at hX
 clear hb q1
 go_upto_region 4 with fail
 rw [<- hX]
 clear hX zf z0 z1 z2 z3 z4 z5 z6 z7 z8 z9 aR aV z12 z13 z14 z15 z16 g0 g1 y0 y1 y2 y3 y4 y5 y6 y7 y8 y9 y10 y11 y12 y13 y14 y15 y16
 obtain ⟨⟨y0, y1, y2, y3, y4, y5, y6, y7, y8, y9, y10, y11, y12, y13, y14, y15, y16⟩, -⟩ := G1.out.a.tc17
 go_wp2_with fail
 refine (mz X.c a2 l2 c2 a3 l3 c3 _ (HR.out.2.1.below G1.out.b) (HR.out.2.2.below G1.out.b) HZ.out.2).mono ?_
 rintro e w2 ⟨b2, d2, b3, d3, rfl, q2, q3, hb⟩
 clear y0 y1 y2 y3 y4 y5 y6 y7 y8 y9 y10 y11 y12 y13 y14 y15 y16
 obtain ⟨⟨y0, y1, y2, y3, y4, y5, y6, y7, y8, y9, y10, y11, y12, y13, y14, y15, y16⟩, -⟩ := (G1.out.a.below hb).tc17
 obtain ⟨⟨z0, z1, z2, z3, z4, z5, z6, z7, z8, z9, aR, aV, z12, z13, z14, z15, z16⟩, zf⟩ := (G1.out.o.below hb).tc17
 have g2 := zf 2
 have g3 := zf 3
 have g4 := zf 4
 have g5 := zf 5
 have g6 := zf 6
 have g7 := zf 7
 have g8 := zf 8
 have g9 := zf 9
 have g10 := zf 10
 have g11 := zf 11
 have g12 := zf 12
 have g13 := zf 13
 have g14 := zf 14
 have g15 := zf 15
 have g16 := zf 16
 obtain ⟨W2, hX⟩ : ∃ z, z = aM w2 (w.heap.size + 1 + 1) 2 [.int .i64 X.c.id, .int .i64 X.c.pa, .int .i64 X.c.un, .int .i64 X.c.q.kd, .int .i64 X.c.q.pl, .int .i64 X.c.q.n, .slice b2 l2 d2, .slice b3 l3 d3, .int .i64 X.c.q.wa, .int .i64 X.nu, .int .i64 X.du, .int .i64 X.le, .int .i64 X.nx, .int .i64 X.wt, .int .i64 X.tr] := ⟨_, rfl⟩
 have G2 := TS.st G1 hb hX #[.slice b1 l1 d1, .bool X.bz, .int .i64 X.c.id, .int .i64 X.c.pa, .int .i64 X.c.un, .int .i64 X.c.q.kd, .int .i64 X.c.q.pl, .int .i64 X.c.q.n, .slice b2 l2 d2, .slice b3 l3 d3, .int .i64 X.c.q.wa, .int .i64 X.nu, .int .i64 X.du, .int .i64 X.le, .int .i64 X.nx, .int .i64 X.wt, .int .i64 X.tr] [(ah X.c.q.ws, .slice b2 l2 d2), (af X.c.q.bs, .slice b3 l3 d3)] ⟨q2, q3, trivial⟩
 simp only [aM, Nat.reduceAdd, Nat.zero_add] at hX
 clear hb q2 q3
 go_upto_region 11 with fail
 rw [<- hX]
 clear hX zf z0 z1 z2 z3 z4 z5 z6 z7 z8 z9 aR aV z12 z13 z14 z15 z16 g2 g3 g4 g5 g6 g7 g8 g9 g10 g11 g12 g13 g14 g15 g16 y0 y1 y2 y3 y4 y5 y6 y7 y8 y9 y10 y11 y12 y13 y14 y15 y16
 obtain ⟨V, hV⟩ : ∃ V, V = aM W2 (w.heap.size + 1) 0 (cj X b1 l1 d1 b2 l2 d2 b3 l3 d3) := ⟨_, rfl⟩
 have H9 := TS.fin G2 hV
 have hr : W2.rangeAt (w.heap.size + 1 + 1) 0 (cj X b1 l1 d1 b2 l2 d2 b3 l3 d3) := G2.out.o.all
 have ht := G2.out.z.there 0 17 (by simp)
 clear G2
 refine wp_region_lit ?_
 refine wpList_load_mid rfl 88 (.tmp 3) rfl (w.heap.size + 1 + 1) 0 rfl (cj X b1 l1 d1 b2 l2 d2 b3 l3 d3) _ hr underlying88 rfl (by kernel_rfl) ?_
 refine wpList_store_mid rfl 88 (.tmp 2) (.tmp 33) rfl (w.heap.size + 1) 0 (cj X b1 l1 d1 b2 l2 d2 b3 l3 d3).toArray rfl rfl ht (by kernel_rfl) (by simp [Value.oneCell']) ?_
 rw [bh, <- hV]
 clear hV hr ht
 refine wpList_nil ?_
 go_wp2
 obtain ⟨⟨y0, y1, y2, y3, y4, y5, y6, y7, y8, y9, y10, y11, y12, y13, y14, y15, y16⟩, -⟩ := H9.out.2.1.tc17
 obtain ⟨B, -, s1, s2, s3, -⟩ := H9.out
 refine bodyPost_ret (v := .agg (cj X b1 l1 d1 b2 l2 d2 b3 l3 d3).toArray) (by simp [results, results85, go_sem, y0, y1, y2, y3, y4, y5, y6, y7, y8, y9, y10, y11, y12, y13, y14, y15, y16]) rfl ⟨b1, d1, b2, d2, b3, d3, rfl, s1, s2, s3, B⟩
theorem p8 (n : Nat) (f : Nat -> VN) (a : Option Addr) (n' cap : Nat) (w : World) (hs : Rd w 0 (.list 17 n (fun k => aa (aU (f k)))) (.slice a n' cap)) (hz : (Tr.list 17 n (fun k => aa (aU (f k)))).sz <= 1048576) :
 Calls prog 43 #[.slice a n' cap] w fun e w' => ∃ b d, e = .returned (.slice b n' d) /\ Rd w' w.heap.size (.list 17 n (fun k => aa (aU (f k)))) (.slice b n' d) /\ Below w.heap.size w w' := by
 obtain ⟨a9, c9, h9, -, hn⟩ := hs.shape
 simp only [Value.slice.injEq] at h9
 obtain ⟨-, rfl, -⟩ := h9
 clear a9 c9
 have hn1 : n' <= 1048576 := by rw [Tr.sz_list] at hz; omega
 have HZ : Hid (∀ k, k < n' -> ao 17 (aa (aU (f k))) <= 1048576) := by
  show ∀ k, k < n' -> ao 17 (aa (aU (f k))) <= 1048576
  intro k hk
  rw [Tr.sz_list] at hz
  have := cg (fun k => ao 17 (aa (aU (f k)))) hk
  omega
 have hmk := ck (P := prog) 39 88 (.agg my) 17 184 underlying39 (by kernel_rfl) .i64 .i64 n' (by omega) (by omega)
 have HS : Hid (Rd w 0 (.list 17 n' (fun k => aa (aU (f k)))) (.slice a n' cap) /\ n' <= maxLen) := ⟨hs, hn⟩
 clear hs hz hn
 go_enter func43, ntmps43
 go_wp2
 clear hmk
 go_loopw [4] (fun i wr => ∃ (k : Nat) (F : Nat -> List Value), k <= n' /\ i = .int .i64 k /\ aG wr w.heap.size 88 17 n' F /\ (∀ j, j < k -> (F j).length = 17 /\ ay wr (w.heap.size + 1) (aa (aU (f j))) (F j)) /\ Below w.heap.size w wr) (fun i _ => n' - (intOf i).toNat)
 case atStart => exact ⟨0, fun _ => (my).toList, Nat.zero_le _, rfl, aG.made w (my).toList n' _ (by simp), fun j hj => by omega, (Below.refl _ _).alloc (Nat.le_refl _) _⟩
 case round =>
  obtain ⟨k, F, hk, rfl, hrow, hin, hb⟩ := hrel
  by_cases hlt : k < n'
  ·have hi : (k : Int) < (n' : Int) := by omega
   obtain ⟨b, off, vs, rfl, _, hb0, hlen, hr, hrd⟩ := (HS.out.1.below hb).at hlt
   obtain ⟨a1, c1, a2, c2, a3, c3, rfl, r1, r2, r3⟩ := VN.cells hrd hlen
   clear hlen hrd
   have HK : Hid (aG wr w.heap.size 88 17 n' F /\ (∀ j, j < k -> (F j).length = 17 /\ ay wr (w.heap.size + 1) (aa (aU (f j))) (F j)) /\ Below w.heap.size w wr /\ Rd wr 0 (.list 9 (f k).nq (fun i => aa (aO ((f k).qf i)))) (.slice a1 ((f k).nq) c1) /\ Rd wr 0 (ah (f k).c.q.ws) (.slice a2 ((f k).c.q.ws.length) c2) /\ Rd wr 0 (af (f k).c.q.bs) (.slice a3 ((f k).c.q.bs.length) c3)) := ⟨hrow, hin, hb, r1, r2, r3⟩
   clear hrow hin hb hb0 r1 r2 r3
   go_wp2_with (first | (refine wpList_load_mid rfl 136 _ rfl b (off + k * 17) rfl _ _ hr underlying136 rfl (by kernel_rfl) ?_) | fail)
   refine (rm (f k) a1 ((f k).nq) c1 a2 ((f k).c.q.ws.length) c2 a3 ((f k).c.q.bs.length) c3 _ HK.out.2.2.2.1 HK.out.2.2.2.2.1 HK.out.2.2.2.2.2 (HZ.out k hlt)).mono ?_
   rintro e w1 ⟨b1, d1, b2, d2, b3, d3, rfl, q1, q2, q3, hb1⟩
   have R1 := HK.out.1.below hb1
   obtain ⟨W2, hW2⟩ : ∃ W2, W2 = aM w1 w.heap.size (k * 17) (cj (f k) b1 ((f k).nq) d1 b2 ((f k).c.q.ws.length) d2 b3 ((f k).c.q.bs.length) d3) := ⟨_, rfl⟩
   have H2 : Hid (∃ F', aG W2 w.heap.size 88 17 n' F' /\ (∀ j, j < k + 1 -> (F' j).length = 17 /\ ay W2 (w.heap.size + 1) (aa (aU (f j))) (F' j)) /\ Below w.heap.size w W2) := by
    have hg : w1.grownBy W2 (some w.heap.size) := by rw [hW2]; exact di _ _ _
    have hs1 := HK.out.1.lt
    refine ⟨_, by rw [hW2]; exact R1.set hlt _ rfl, fun j hj => ?_, by rw [hW2]; exact bp (Nat.le_refl _) _ _ _ (ae HK.out.2.2.1 hb1)⟩
    by_cases e : j = k
    ·subst e
     simp only [if_true]
     exact ⟨rfl, VN.back ((q1.mono (by omega)).kept hg (by omega)) ((q2.mono (by omega)).kept hg (by omega)) ((q3.mono (by omega)).kept hg (by omega))⟩
    simp only [if_neg e]
    have h9 := HK.out.2.1 j (by omega)
    exact ⟨h9.1, (h9.2.below hb1).kept hg (by omega)⟩
   have ht := R1.there hlt (m := 17) (Nat.le_refl _)
   clear R1 hb1 HK hr q1 q2 q3
   go_wp2_with (first | (refine wpList_store_mid rfl 88 _ _ rfl w.heap.size (k * 17) (cj (f k) b1 ((f k).nq) d1 b2 ((f k).c.q.ws.length) d2 b3 ((f k).c.q.bs.length) d3).toArray rfl rfl ht (by kernel_rfl) (by simp [Value.oneCell']) ?_; rw [bh, <- hW2]; clear hW2 ht) | fail)
   go_roundw
   case rel =>
    obtain ⟨F', x1, x2, x3⟩ := H2.out
    exact ⟨k + 1, F', by omega, by go_num, x1, x2, x3⟩
   case measure => simp [intOf]; omega
  have hi : ¬ (k : Int) < (n' : Int) := by omega
  have e9 : k = n' := by omega
  subst e9
  have HR : Hid (aG wr w.heap.size 88 17 k F /\ (∀ j, j < k -> (F j).length = 17 /\ ay wr (w.heap.size + 1) (aa (aU (f j))) (F j)) /\ Below w.heap.size w wr) := ⟨hrow, hin, hb⟩
  clear hrow hin hb
  go_wp2
  go_ret
  exact ⟨_, _, rfl, Rd.made HR.out.1 (Nat.le_refl _) HS.out.2 (fun j hj => ⟨(HR.out.2.1 j hj).1, (HR.out.2.1 j hj).2.mono (by omega)⟩), HR.out.2.2⟩
theorem oI (X : VF) (a1 : Option Addr) (l1 c1 : Nat) (a2 : Option Addr) (l2 c2 : Nat) (a3 : Option Addr) (l3 c3 : Nat) (w : World) (r1 : Rd w 0 (.list 7 X.set.n (fun i => aa (bi (X.set.f i)))) (.slice a1 l1 c1)) (r2 : Rd w 0 (.list 13 X.op.m (fun i => aa (dT (X.op.f i)))) (.slice a2 l2 c2)) (r3 : Rd w 0 (.list 17 X.nl (fun i => aa (aU (X.lf i)))) (.slice a3 l3 c3)) (hz : ao 11 (aa (dS X)) <= 1048576) :
 Calls prog 10 #[.agg (bL X a1 l1 c1 a2 l2 c2 a3 l3 c3).toArray] w fun e w' => ∃ b1 d1 b2 d2 b3 d3, e = .returned (.agg (bL X b1 l1 d1 b2 l2 d2 b3 l3 d3).toArray) /\ Rd w' w.heap.size (.list 7 X.set.n (fun i => aa (bi (X.set.f i)))) (.slice b1 l1 d1) /\ Rd w' w.heap.size (.list 13 X.op.m (fun i => aa (dT (X.op.f i)))) (.slice b2 l2 d2) /\ Rd w' w.heap.size (.list 17 X.nl (fun i => aa (aU (X.lf i)))) (.slice b3 l3 d3) /\ Below w.heap.size w w' := by
 obtain ⟨W, hW⟩ : ∃ W, W = ((w.alloc (.cells (bL X a1 l1 c1 a2 l2 c2 a3 l3 c3).toArray 30)).alloc (.cells #[.int .i64 0, .int .i64 0, .int .i64 0, .slice none 0 0, .int .i64 0, .slice none 0 0, .slice none 0 0, .int .i64 0, .int .i64 0, .int .i64 0, .int .i64 0] 41)).alloc (.cells #[.int .i64 X.nw, .int .i64 0, .int .i64 0, .slice none 0 0, .int .i64 0, .slice none 0 0, .slice none 0 0, .int .i64 0, .int .i64 0, .int .i64 0, .int .i64 0] 41) := ⟨_, rfl⟩
 have G0 := TS.new hW
 have HZ : Hid (ao 3 (aa (eW X.set)) <= 1048576 /\ ao 2 (aa (tT X.op)) <= 1048576 /\ (Tr.list 17 X.nl (fun i => aa (aU (X.lf i)))).sz <= 1048576) := by
  rw [fn] at hz
  show ao 3 (aa (eW X.set)) <= 1048576 /\ ao 2 (aa (tT X.op)) <= 1048576 /\ (Tr.list 17 X.nl (fun i => aa (aU (X.lf i)))).sz <= 1048576
  simp only [fR, gE]
  omega
 have HR := bg (And.intro r1 <| And.intro r2 <| r3)
 clear hz r1 r2 r3
 go_enter func10, ntmps10
 go_upto_region 3 with fail
 rw [<- hW]
 clear hW
 obtain ⟨⟨y0, y1, y2, y3, y4, y5, y6, y7, y8, y9, y10⟩, -⟩ := G0.out.a.tc11
 go_wp2_with fail
 refine (oH X.set a1 l1 c1 _ (HR.out.1.below G0.out.b) HZ.out.1).mono ?_
 rintro e w1 ⟨b1, d1, rfl, q1, hb⟩
 clear y0 y1 y2 y3 y4 y5 y6 y7 y8 y9 y10
 obtain ⟨⟨z0, z1, z2, z3, z4, z5, z6, z7, z8, z9, aR⟩, zf⟩ := (G0.out.o.below hb).tc11
 have g1 := zf 1
 have g2 := zf 2
 have g3 := zf 3
 obtain ⟨W1, hX⟩ : ∃ z, z = aM w1 (w.heap.size + 1 + 1) 1 [.int .i64 X.set.wt, .int .i64 X.set.tr, .slice b1 l1 d1] := ⟨_, rfl⟩
 have G1 := TS.st G0 hb hX #[.int .i64 X.nw, .int .i64 X.set.wt, .int .i64 X.set.tr, .slice b1 l1 d1, .int .i64 0, .slice none 0 0, .slice none 0 0, .int .i64 0, .int .i64 0, .int .i64 0, .int .i64 0] [(.list 7 X.set.n (fun i => aa (bi (X.set.f i))), .slice b1 l1 d1)] ⟨q1, trivial⟩
 simp only [aM, Nat.reduceAdd, Nat.zero_add] at hX
 clear hb q1
 go_upto_region 4 with fail
 rw [<- hX]
 clear hX zf z0 z1 z2 z3 z4 z5 z6 z7 z8 z9 aR g1 g2 g3
 obtain ⟨⟨y0, y1, y2, y3, y4, y5, y6, y7, y8, y9, y10⟩, -⟩ := G1.out.a.tc11
 go_wp2_with fail
 refine (qp X.op a2 l2 c2 _ (HR.out.2.1.below G1.out.b) HZ.out.2.1).mono ?_
 rintro e w2 ⟨b2, d2, rfl, q2, hb⟩
 clear y0 y1 y2 y3 y4 y5 y6 y7 y8 y9 y10
 obtain ⟨⟨z0, z1, z2, z3, z4, z5, z6, z7, z8, z9, aR⟩, zf⟩ := (G1.out.o.below hb).tc11
 have g4 := zf 4
 have g5 := zf 5
 obtain ⟨W2, hX⟩ : ∃ z, z = aM w2 (w.heap.size + 1 + 1) 4 [.int .i64 X.op.nx, .slice b2 l2 d2] := ⟨_, rfl⟩
 have G2 := TS.st G1 hb hX #[.int .i64 X.nw, .int .i64 X.set.wt, .int .i64 X.set.tr, .slice b1 l1 d1, .int .i64 X.op.nx, .slice b2 l2 d2, .slice none 0 0, .int .i64 0, .int .i64 0, .int .i64 0, .int .i64 0] [(.list 13 X.op.m (fun i => aa (dT (X.op.f i))), .slice b2 l2 d2)] ⟨q2, trivial⟩
 simp only [aM, Nat.reduceAdd, Nat.zero_add] at hX
 clear hb q2
 go_upto_region 5 with fail
 rw [<- hX]
 clear hX zf z0 z1 z2 z3 z4 z5 z6 z7 z8 z9 aR g4 g5
 obtain ⟨⟨y0, y1, y2, y3, y4, y5, y6, y7, y8, y9, y10⟩, -⟩ := G2.out.a.tc11
 go_wp2_with fail
 refine (p8 X.nl X.lf a3 l3 c3 _ (HR.out.2.2.below G2.out.b) HZ.out.2.2).mono ?_
 rintro e w3 ⟨b3, d3, rfl, q3, hb⟩
 clear y0 y1 y2 y3 y4 y5 y6 y7 y8 y9 y10
 obtain ⟨⟨y0, y1, y2, y3, y4, y5, y6, y7, y8, y9, y10⟩, -⟩ := (G2.out.a.below hb).tc11
 obtain ⟨⟨z0, z1, z2, z3, z4, z5, z6, z7, z8, z9, aR⟩, zf⟩ := (G2.out.o.below hb).tc11
 have g6 := zf 6
 have g7 := zf 7
 have g8 := zf 8
 have g9 := zf 9
 have g10 := zf 10
 obtain ⟨W3, hX⟩ : ∃ z, z = aM w3 (w.heap.size + 1 + 1) 6 [.slice b3 l3 d3, .int .i64 X.sk, .int .i64 X.re, .int .i64 X.fa, .int .i64 X.se] := ⟨_, rfl⟩
 have G3 := TS.st G2 hb hX #[.int .i64 X.nw, .int .i64 X.set.wt, .int .i64 X.set.tr, .slice b1 l1 d1, .int .i64 X.op.nx, .slice b2 l2 d2, .slice b3 l3 d3, .int .i64 X.sk, .int .i64 X.re, .int .i64 X.fa, .int .i64 X.se] [(.list 17 X.nl (fun i => aa (aU (X.lf i))), .slice b3 l3 d3)] ⟨q3, trivial⟩
 simp only [aM, Nat.reduceAdd, Nat.zero_add] at hX
 clear hb q3
 go_upto_region 10 with fail
 rw [<- hX]
 clear hX zf z0 z1 z2 z3 z4 z5 z6 z7 z8 z9 aR g6 g7 g8 g9 g10 y0 y1 y2 y3 y4 y5 y6 y7 y8 y9 y10
 obtain ⟨V, hV⟩ : ∃ V, V = aM W3 (w.heap.size + 1) 0 (bL X b1 l1 d1 b2 l2 d2 b3 l3 d3) := ⟨_, rfl⟩
 have H9 := TS.fin G3 hV
 have hr : W3.rangeAt (w.heap.size + 1 + 1) 0 (bL X b1 l1 d1 b2 l2 d2 b3 l3 d3) := G3.out.o.all
 have ht := G3.out.z.there 0 11 (by simp)
 clear G3
 refine wp_region_lit ?_
 refine wpList_load_mid rfl 41 (.tmp 3) rfl (w.heap.size + 1 + 1) 0 rfl (bL X b1 l1 d1 b2 l2 d2 b3 l3 d3) _ hr underlying41 rfl (by kernel_rfl) ?_
 refine wpList_store_mid rfl 41 (.tmp 2) (.tmp 31) rfl (w.heap.size + 1) 0 (bL X b1 l1 d1 b2 l2 d2 b3 l3 d3).toArray rfl rfl ht (by kernel_rfl) (by simp [Value.oneCell']) ?_
 rw [bh, <- hV]
 clear hV hr ht
 refine wpList_nil ?_
 go_wp2
 obtain ⟨⟨y0, y1, y2, y3, y4, y5, y6, y7, y8, y9, y10⟩, -⟩ := H9.out.2.1.tc11
 obtain ⟨B, -, s1, s2, s3, -⟩ := H9.out
 refine bodyPost_ret (v := .agg (bL X b1 l1 d1 b2 l2 d2 b3 l3 d3).toArray) (by simp [results, results10, go_sem, y0, y1, y2, y3, y4, y5, y6, y7, y8, y9, y10]) rfl ⟨b1, d1, b2, d2, b3, d3, rfl, s1, s2, s3, B⟩
theorem oJ (X : VI) (a1 : Option Addr) (l1 c1 : Nat) (a2 : Option Addr) (l2 c2 : Nat) (a3 : Option Addr) (l3 c3 : Nat) (a4 : Option Addr) (l4 c4 : Nat) (w : World) (r1 : Rd w 0 (af X.co) (.slice a1 l1 c1)) (r2 : Rd w 0 (af X.ip) (.slice a2 l2 c2)) (r3 : Rd w 0 (ah X.ho) (.slice a3 l3 c3)) (r4 : Rd w 0 (ah X.wd) (.slice a4 l4 c4)) (hz : ao 4 (aa (eu X)) <= 1048576) :
 Calls prog 180 #[.agg (dn X a1 l1 c1 a2 l2 c2 a3 l3 c3 a4 l4 c4).toArray] w fun e w' => ∃ b1 d1 b2 d2 b3 d3 b4 d4, e = .returned (.agg (dn X b1 l1 d1 b2 l2 d2 b3 l3 d3 b4 l4 d4).toArray) /\ Rd w' w.heap.size (af X.co) (.slice b1 l1 d1) /\ Rd w' w.heap.size (af X.ip) (.slice b2 l2 d2) /\ Rd w' w.heap.size (ah X.ho) (.slice b3 l3 d3) /\ Rd w' w.heap.size (ah X.wd) (.slice b4 l4 d4) /\ Below w.heap.size w w' := by
 obtain ⟨W, hW⟩ : ∃ W, W = ((w.alloc (.cells (dn X a1 l1 c1 a2 l2 c2 a3 l3 c3 a4 l4 c4).toArray 163)).alloc (.cells #[.slice none 0 0, .slice none 0 0, .slice none 0 0, .slice none 0 0] 178)).alloc (.cells #[.slice none 0 0, .slice none 0 0, .slice none 0 0, .slice none 0 0] 178) := ⟨_, rfl⟩
 have G0 := TS.new hW
 have HZ : Hid (X.co.length <= 1048576 /\ X.ip.length <= 1048576 /\ X.ho.length <= 1048576 /\ X.wd.length <= 1048576) := by
  rw [fp] at hz
  show X.co.length <= 1048576 /\ X.ip.length <= 1048576 /\ X.ho.length <= 1048576 /\ X.wd.length <= 1048576
  omega
 have HR := bg (And.intro r1 <| And.intro r2 <| And.intro r3 <| r4)
 clear hz r1 r2 r3 r4
 go_enter func180, ntmps180
 go_upto_region 2 with fail
 rw [<- hW]
 clear hW
 obtain ⟨⟨y0, y1, y2, y3⟩, -⟩ := G0.out.a.tc4
 go_wp2_with fail
 refine (iL X.co a1 l1 c1 _ (HR.out.1.below G0.out.b) HZ.out.1).mono ?_
 rintro e w1 ⟨b1, d1, rfl, q1, hb⟩
 clear y0 y1 y2 y3
 obtain ⟨⟨z0, z1, z2, z3⟩, zf⟩ := (G0.out.o.below hb).tc4
 have g0 := zf 0
 obtain ⟨W1, hX⟩ : ∃ z, z = aM w1 (w.heap.size + 1 + 1) 0 [.slice b1 l1 d1] := ⟨_, rfl⟩
 have G1 := TS.st G0 hb hX #[.slice b1 l1 d1, .slice none 0 0, .slice none 0 0, .slice none 0 0] [(af X.co, .slice b1 l1 d1)] ⟨q1, trivial⟩
 simp only [aM, Nat.reduceAdd, Nat.zero_add] at hX
 clear hb q1
 go_upto_region 3 with fail
 rw [<- hX]
 clear hX zf z0 z1 z2 z3 g0
 obtain ⟨⟨y0, y1, y2, y3⟩, -⟩ := G1.out.a.tc4
 go_wp2_with fail
 refine (iL X.ip a2 l2 c2 _ (HR.out.2.1.below G1.out.b) HZ.out.2.1).mono ?_
 rintro e w2 ⟨b2, d2, rfl, q2, hb⟩
 clear y0 y1 y2 y3
 obtain ⟨⟨z0, z1, z2, z3⟩, zf⟩ := (G1.out.o.below hb).tc4
 have g1 := zf 1
 obtain ⟨W2, hX⟩ : ∃ z, z = aM w2 (w.heap.size + 1 + 1) 1 [.slice b2 l2 d2] := ⟨_, rfl⟩
 have G2 := TS.st G1 hb hX #[.slice b1 l1 d1, .slice b2 l2 d2, .slice none 0 0, .slice none 0 0] [(af X.ip, .slice b2 l2 d2)] ⟨q2, trivial⟩
 simp only [aM, Nat.reduceAdd, Nat.zero_add] at hX
 clear hb q2
 go_upto_region 4 with fail
 rw [<- hX]
 clear hX zf z0 z1 z2 z3 g1
 obtain ⟨⟨y0, y1, y2, y3⟩, -⟩ := G2.out.a.tc4
 go_wp2_with fail
 refine (mG X.ho a3 l3 c3 _ (HR.out.2.2.1.below G2.out.b) HZ.out.2.2.1).mono ?_
 rintro e w3 ⟨b3, d3, rfl, q3, hb⟩
 clear y0 y1 y2 y3
 obtain ⟨⟨z0, z1, z2, z3⟩, zf⟩ := (G2.out.o.below hb).tc4
 have g2 := zf 2
 obtain ⟨W3, hX⟩ : ∃ z, z = aM w3 (w.heap.size + 1 + 1) 2 [.slice b3 l3 d3] := ⟨_, rfl⟩
 have G3 := TS.st G2 hb hX #[.slice b1 l1 d1, .slice b2 l2 d2, .slice b3 l3 d3, .slice none 0 0] [(ah X.ho, .slice b3 l3 d3)] ⟨q3, trivial⟩
 simp only [aM, Nat.reduceAdd, Nat.zero_add] at hX
 clear hb q3
 go_upto_region 5 with fail
 rw [<- hX]
 clear hX zf z0 z1 z2 z3 g2
 obtain ⟨⟨y0, y1, y2, y3⟩, -⟩ := G3.out.a.tc4
 go_wp2_with fail
 refine (mG X.wd a4 l4 c4 _ (HR.out.2.2.2.below G3.out.b) HZ.out.2.2.2).mono ?_
 rintro e w4 ⟨b4, d4, rfl, q4, hb⟩
 clear y0 y1 y2 y3
 obtain ⟨⟨z0, z1, z2, z3⟩, zf⟩ := (G3.out.o.below hb).tc4
 have g3 := zf 3
 obtain ⟨W4, hX⟩ : ∃ z, z = aM w4 (w.heap.size + 1 + 1) 3 [.slice b4 l4 d4] := ⟨_, rfl⟩
 have G4 := TS.st G3 hb hX #[.slice b1 l1 d1, .slice b2 l2 d2, .slice b3 l3 d3, .slice b4 l4 d4] [(ah X.wd, .slice b4 l4 d4)] ⟨q4, trivial⟩
 simp only [aM, Nat.reduceAdd, Nat.zero_add] at hX
 clear hb q4
 go_upto_region 6 with fail
 rw [<- hX]
 clear hX zf z0 z1 z2 z3 g3
 obtain ⟨V, hV⟩ : ∃ V, V = aM W4 (w.heap.size + 1) 0 (dn X b1 l1 d1 b2 l2 d2 b3 l3 d3 b4 l4 d4) := ⟨_, rfl⟩
 have H9 := TS.fin G4 hV
 have hr : W4.rangeAt (w.heap.size + 1 + 1) 0 (dn X b1 l1 d1 b2 l2 d2 b3 l3 d3 b4 l4 d4) := G4.out.o.all
 have ht := G4.out.z.there 0 4 (by simp)
 clear G4
 refine wp_region_lit ?_
 refine wpList_load_mid rfl 178 (.tmp 3) rfl (w.heap.size + 1 + 1) 0 rfl (dn X b1 l1 d1 b2 l2 d2 b3 l3 d3 b4 l4 d4) _ hr underlying178 rfl (by kernel_rfl) ?_
 refine wpList_store_mid rfl 178 (.tmp 2) (.tmp 20) rfl (w.heap.size + 1) 0 (dn X b1 l1 d1 b2 l2 d2 b3 l3 d3 b4 l4 d4).toArray rfl rfl ht (by kernel_rfl) (by simp [Value.oneCell']) ?_
 rw [bh, <- hV]
 clear hV hr ht
 refine wpList_nil ?_
 go_wp2
 obtain ⟨⟨y0, y1, y2, y3⟩, -⟩ := H9.out.2.1.tc4
 obtain ⟨B, -, s1, s2, s3, s4, -⟩ := H9.out
 refine bodyPost_ret (v := .agg (dn X b1 l1 d1 b2 l2 d2 b3 l3 d3 b4 l4 d4).toArray) (by simp [results, results180, go_sem, y0, y1, y2, y3]) rfl ⟨b1, d1, b2, d2, b3, d3, b4, d4, rfl, s1, s2, s3, s4, B⟩
theorem rn (X : VS) (a1 : Option Addr) (l1 c1 : Nat) (a2 : Option Addr) (l2 c2 : Nat) (a3 : Option Addr) (l3 c3 : Nat) (a4 : Option Addr) (l4 c4 : Nat) (w : World) (r1 : Rd w 0 (af X.d.co) (.slice a1 l1 c1)) (r2 : Rd w 0 (af X.d.ip) (.slice a2 l2 c2)) (r3 : Rd w 0 (ah X.d.ho) (.slice a3 l3 c3)) (r4 : Rd w 0 (ah X.d.wd) (.slice a4 l4 c4)) (hz : ao 6 (aa (bn X)) <= 1048576) :
 Calls prog 121 #[.agg (cz X a1 l1 c1 a2 l2 c2 a3 l3 c3 a4 l4 c4).toArray] w fun e w' => ∃ b1 d1 b2 d2 b3 d3 b4 d4, e = .returned (.agg (cz X b1 l1 d1 b2 l2 d2 b3 l3 d3 b4 l4 d4).toArray) /\ Rd w' w.heap.size (af X.d.co) (.slice b1 l1 d1) /\ Rd w' w.heap.size (af X.d.ip) (.slice b2 l2 d2) /\ Rd w' w.heap.size (ah X.d.ho) (.slice b3 l3 d3) /\ Rd w' w.heap.size (ah X.d.wd) (.slice b4 l4 d4) /\ Below w.heap.size w w' := by
 obtain ⟨W, hW⟩ : ∃ W, W = ((w.alloc (.cells (cz X a1 l1 c1 a2 l2 c2 a3 l3 c3 a4 l4 c4).toArray 165)).alloc (.cells oG 180)).alloc (.cells #[.int .i64 X.po, .int .i64 X.un, .slice none 0 0, .slice none 0 0, .slice none 0 0, .slice none 0 0] 180) := ⟨_, rfl⟩
 have G0 := TS.new hW
 have HZ : Hid (ao 4 (aa (eu X.d)) <= 1048576) := by
  rw [jY] at hz
  show ao 4 (aa (eu X.d)) <= 1048576
  simp only [fp]
  omega
 have HR := bg (And.intro r1 <| And.intro r2 <| And.intro r3 <| r4)
 clear hz r1 r2 r3 r4
 go_enter func121, ntmps121
 go_upto_region 4 with fail
 rw [<- hW]
 clear hW
 obtain ⟨⟨y0, y1, y2, y3, y4, y5⟩, -⟩ := G0.out.a.tc6
 go_wp2_with fail
 refine (oJ X.d a1 l1 c1 a2 l2 c2 a3 l3 c3 a4 l4 c4 _ (HR.out.1.below G0.out.b) (HR.out.2.1.below G0.out.b) (HR.out.2.2.1.below G0.out.b) (HR.out.2.2.2.below G0.out.b) HZ.out).mono ?_
 rintro e w1 ⟨b1, d1, b2, d2, b3, d3, b4, d4, rfl, q1, q2, q3, q4, hb⟩
 clear y0 y1 y2 y3 y4 y5
 obtain ⟨⟨z0, z1, z2, z3, z4, z5⟩, zf⟩ := (G0.out.o.below hb).tc6
 have g2 := zf 2
 have g3 := zf 3
 have g4 := zf 4
 have g5 := zf 5
 obtain ⟨W1, hX⟩ : ∃ z, z = aM w1 (w.heap.size + 1 + 1) 2 [.slice b1 l1 d1, .slice b2 l2 d2, .slice b3 l3 d3, .slice b4 l4 d4] := ⟨_, rfl⟩
 have G1 := TS.st G0 hb hX #[.int .i64 X.po, .int .i64 X.un, .slice b1 l1 d1, .slice b2 l2 d2, .slice b3 l3 d3, .slice b4 l4 d4] [(af X.d.co, .slice b1 l1 d1), (af X.d.ip, .slice b2 l2 d2), (ah X.d.ho, .slice b3 l3 d3), (ah X.d.wd, .slice b4 l4 d4)] ⟨q1, q2, q3, q4, trivial⟩
 simp only [aM, Nat.reduceAdd, Nat.zero_add] at hX
 clear hb q1 q2 q3 q4
 go_upto_region 5 with fail
 rw [<- hX]
 clear hX zf z0 z1 z2 z3 z4 z5 g2 g3 g4 g5
 obtain ⟨V, hV⟩ : ∃ V, V = aM W1 (w.heap.size + 1) 0 (cz X b1 l1 d1 b2 l2 d2 b3 l3 d3 b4 l4 d4) := ⟨_, rfl⟩
 have H9 := TS.fin G1 hV
 have hr : W1.rangeAt (w.heap.size + 1 + 1) 0 (cz X b1 l1 d1 b2 l2 d2 b3 l3 d3 b4 l4 d4) := G1.out.o.all
 have ht := G1.out.z.there 0 6 (by simp)
 clear G1
 refine wp_region_lit ?_
 refine wpList_load_mid rfl 180 (.tmp 3) rfl (w.heap.size + 1 + 1) 0 rfl (cz X b1 l1 d1 b2 l2 d2 b3 l3 d3 b4 l4 d4) _ hr underlying180 rfl (by kernel_rfl) ?_
 refine wpList_store_mid rfl 180 (.tmp 2) (.tmp 14) rfl (w.heap.size + 1) 0 (cz X b1 l1 d1 b2 l2 d2 b3 l3 d3 b4 l4 d4).toArray rfl rfl ht (by kernel_rfl) (by simp [Value.oneCell']) ?_
 rw [bh, <- hV]
 clear hV hr ht
 refine wpList_nil ?_
 go_wp2
 obtain ⟨⟨y0, y1, y2, y3, y4, y5⟩, -⟩ := H9.out.2.1.tc6
 obtain ⟨B, -, s1, s2, s3, s4, -⟩ := H9.out
 refine bodyPost_ret (v := .agg (cz X b1 l1 d1 b2 l2 d2 b3 l3 d3 b4 l4 d4).toArray) (by simp [results, results121, go_sem, y0, y1, y2, y3, y4, y5]) rfl ⟨b1, d1, b2, d2, b3, d3, b4, d4, rfl, s1, s2, s3, s4, B⟩
theorem p9 (n : Nat) (f : Nat -> VS) (a : Option Addr) (n' cap : Nat) (w : World) (hs : Rd w 0 (.list 6 n (fun k => aa (bn (f k)))) (.slice a n' cap)) (hz : (Tr.list 6 n (fun k => aa (bn (f k)))).sz <= 1048576) :
 Calls prog 68 #[.slice a n' cap] w fun e w' => ∃ b d, e = .returned (.slice b n' d) /\ Rd w' w.heap.size (.list 6 n (fun k => aa (bn (f k)))) (.slice b n' d) /\ Below w.heap.size w w' := by
 obtain ⟨a9, c9, h9, -, hn⟩ := hs.shape
 simp only [Value.slice.injEq] at h9
 obtain ⟨-, rfl, -⟩ := h9
 clear a9 c9
 have hn1 : n' <= 1048576 := by rw [Tr.sz_list] at hz; omega
 have HZ : Hid (∀ k, k < n' -> ao 6 (aa (bn (f k))) <= 1048576) := by
  show ∀ k, k < n' -> ao 6 (aa (bn (f k))) <= 1048576
  intro k hk
  rw [Tr.sz_list] at hz
  have := cg (fun k => ao 6 (aa (bn (f k)))) hk
  omega
 have hmk := ck (P := prog) 62 180 (.agg oG) 6 112 underlying62 (by kernel_rfl) .i64 .i64 n' (by omega) (by omega)
 have HS : Hid (Rd w 0 (.list 6 n' (fun k => aa (bn (f k)))) (.slice a n' cap) /\ n' <= maxLen) := ⟨hs, hn⟩
 clear hs hz hn
 go_enter func68, ntmps68
 go_wp2
 clear hmk
 go_loopw [4] (fun i wr => ∃ (k : Nat) (F : Nat -> List Value), k <= n' /\ i = .int .i64 k /\ aG wr w.heap.size 180 6 n' F /\ (∀ j, j < k -> (F j).length = 6 /\ ay wr (w.heap.size + 1) (aa (bn (f j))) (F j)) /\ Below w.heap.size w wr) (fun i _ => n' - (intOf i).toNat)
 case atStart => exact ⟨0, fun _ => (oG).toList, Nat.zero_le _, rfl, aG.made w (oG).toList n' _ (by simp), fun j hj => by omega, (Below.refl _ _).alloc (Nat.le_refl _) _⟩
 case round =>
  obtain ⟨k, F, hk, rfl, hrow, hin, hb⟩ := hrel
  by_cases hlt : k < n'
  ·have hi : (k : Int) < (n' : Int) := by omega
   obtain ⟨b, off, vs, rfl, _, hb0, hlen, hr, hrd⟩ := (HS.out.1.below hb).at hlt
   obtain ⟨a1, c1, a2, c2, a3, c3, a4, c4, rfl, r1, r2, r3, r4⟩ := VS.cells hrd hlen
   clear hlen hrd
   have HK : Hid (aG wr w.heap.size 180 6 n' F /\ (∀ j, j < k -> (F j).length = 6 /\ ay wr (w.heap.size + 1) (aa (bn (f j))) (F j)) /\ Below w.heap.size w wr /\ Rd wr 0 (af (f k).d.co) (.slice a1 ((f k).d.co.length) c1) /\ Rd wr 0 (af (f k).d.ip) (.slice a2 ((f k).d.ip.length) c2) /\ Rd wr 0 (ah (f k).d.ho) (.slice a3 ((f k).d.ho.length) c3) /\ Rd wr 0 (ah (f k).d.wd) (.slice a4 ((f k).d.wd.length) c4)) := ⟨hrow, hin, hb, r1, r2, r3, r4⟩
   clear hrow hin hb hb0 r1 r2 r3 r4
   go_wp2_with (first | (refine wpList_load_mid rfl 165 _ rfl b (off + k * 6) rfl _ _ hr underlying165 rfl (by kernel_rfl) ?_) | fail)
   refine (rn (f k) a1 ((f k).d.co.length) c1 a2 ((f k).d.ip.length) c2 a3 ((f k).d.ho.length) c3 a4 ((f k).d.wd.length) c4 _ HK.out.2.2.2.1 HK.out.2.2.2.2.1 HK.out.2.2.2.2.2.1 HK.out.2.2.2.2.2.2 (HZ.out k hlt)).mono ?_
   rintro e w1 ⟨b1, d1, b2, d2, b3, d3, b4, d4, rfl, q1, q2, q3, q4, hb1⟩
   have R1 := HK.out.1.below hb1
   obtain ⟨W2, hW2⟩ : ∃ W2, W2 = aM w1 w.heap.size (k * 6) (cz (f k) b1 ((f k).d.co.length) d1 b2 ((f k).d.ip.length) d2 b3 ((f k).d.ho.length) d3 b4 ((f k).d.wd.length) d4) := ⟨_, rfl⟩
   have H2 : Hid (∃ F', aG W2 w.heap.size 180 6 n' F' /\ (∀ j, j < k + 1 -> (F' j).length = 6 /\ ay W2 (w.heap.size + 1) (aa (bn (f j))) (F' j)) /\ Below w.heap.size w W2) := by
    have hg : w1.grownBy W2 (some w.heap.size) := by rw [hW2]; exact di _ _ _
    have hs1 := HK.out.1.lt
    refine ⟨_, by rw [hW2]; exact R1.set hlt _ rfl, fun j hj => ?_, by rw [hW2]; exact bp (Nat.le_refl _) _ _ _ (ae HK.out.2.2.1 hb1)⟩
    by_cases e : j = k
    ·subst e
     simp only [if_true]
     exact ⟨rfl, VS.back ((q1.mono (by omega)).kept hg (by omega)) ((q2.mono (by omega)).kept hg (by omega)) ((q3.mono (by omega)).kept hg (by omega)) ((q4.mono (by omega)).kept hg (by omega))⟩
    simp only [if_neg e]
    have h9 := HK.out.2.1 j (by omega)
    exact ⟨h9.1, (h9.2.below hb1).kept hg (by omega)⟩
   have ht := R1.there hlt (m := 6) (Nat.le_refl _)
   clear R1 hb1 HK hr q1 q2 q3 q4
   go_wp2_with (first | (refine wpList_store_mid rfl 180 _ _ rfl w.heap.size (k * 6) (cz (f k) b1 ((f k).d.co.length) d1 b2 ((f k).d.ip.length) d2 b3 ((f k).d.ho.length) d3 b4 ((f k).d.wd.length) d4).toArray rfl rfl ht (by kernel_rfl) (by simp [Value.oneCell']) ?_; rw [bh, <- hW2]; clear hW2 ht) | fail)
   go_roundw
   case rel =>
    obtain ⟨F', x1, x2, x3⟩ := H2.out
    exact ⟨k + 1, F', by omega, by go_num, x1, x2, x3⟩
   case measure => simp [intOf]; omega
  have hi : ¬ (k : Int) < (n' : Int) := by omega
  have e9 : k = n' := by omega
  subst e9
  have HR : Hid (aG wr w.heap.size 180 6 k F /\ (∀ j, j < k -> (F j).length = 6 /\ ay wr (w.heap.size + 1) (aa (bn (f j))) (F j)) /\ Below w.heap.size w wr) := ⟨hrow, hin, hb⟩
  clear hrow hin hb
  go_wp2
  go_ret
  exact ⟨_, _, rfl, Rd.made HR.out.1 (Nat.le_refl _) HS.out.2 (fun j hj => ⟨(HR.out.2.1 j hj).1, (HR.out.2.1 j hj).2.mono (by omega)⟩), HR.out.2.2⟩
theorem oK (X : VK) (a1 : Option Addr) (l1 c1 : Nat) (a2 : Option Addr) (l2 c2 : Nat) (a3 : Option Addr) (l3 c3 : Nat) (a4 : Option Addr) (l4 c4 : Nat) (w : World) (r1 : Rd w 0 (ah X.q.ws) (.slice a1 l1 c1)) (r2 : Rd w 0 (af X.q.bs) (.slice a2 l2 c2)) (r3 : Rd w 0 (ah X.a.ws) (.slice a3 l3 c3)) (r4 : Rd w 0 (af X.a.bs) (.slice a4 l4 c4)) (hz : ao 16 (aa (br X)) <= 1048576) :
 Calls prog 122 #[.agg (cr X a1 l1 c1 a2 l2 c2 a3 l3 c3 a4 l4 c4).toArray] w fun e w' => ∃ b1 d1 b2 d2 b3 d3 b4 d4, e = .returned (.agg (cr X b1 l1 d1 b2 l2 d2 b3 l3 d3 b4 l4 d4).toArray) /\ Rd w' w.heap.size (ah X.q.ws) (.slice b1 l1 d1) /\ Rd w' w.heap.size (af X.q.bs) (.slice b2 l2 d2) /\ Rd w' w.heap.size (ah X.a.ws) (.slice b3 l3 d3) /\ Rd w' w.heap.size (af X.a.bs) (.slice b4 l4 d4) /\ Below w.heap.size w w' := by
 obtain ⟨W, hW⟩ : ∃ W, W = ((w.alloc (.cells (cr X a1 l1 c1 a2 l2 c2 a3 l3 c3 a4 l4 c4).toArray 169)).alloc (.cells oD 120)).alloc (.cells #[.bool X.bk, .int .i64 X.po, .int .i64 X.nu, .int .i64 X.un, .int .i64 0, .int .i64 0, .int .i64 0, .slice none 0 0, .slice none 0 0, .int .i64 0, .int .i64 0, .int .i64 0, .int .i64 0, .int .i64 0, .slice none 0 0, .slice none 0 0] 120) := ⟨_, rfl⟩
 have G0 := TS.new hW
 have HZ : Hid (ao 6 (aa (qT X.q)) <= 1048576 /\ ao 6 (aa (aT X.a)) <= 1048576) := by
  rw [jZ] at hz
  show ao 6 (aa (qT X.q)) <= 1048576 /\ ao 6 (aa (aT X.a)) <= 1048576
  simp only [dX, cO]
  omega
 have HR := bg (And.intro r1 <| And.intro r2 <| And.intro r3 <| r4)
 clear hz r1 r2 r3 r4
 go_enter func122, ntmps122
 go_upto_region 6 with fail
 rw [<- hW]
 clear hW
 obtain ⟨⟨y0, y1, y2, y3, y4, y5, y6, y7, y8, y9, y10, y11, y12, y13, y14, y15⟩, -⟩ := G0.out.a.tc16
 go_wp2_with fail
 refine (fI X.q a1 l1 c1 a2 l2 c2 _ (HR.out.1.below G0.out.b) (HR.out.2.1.below G0.out.b) HZ.out.1).mono ?_
 rintro e w1 ⟨b1, d1, b2, d2, rfl, q1, q2, hb⟩
 clear y0 y1 y2 y3 y4 y5 y6 y7 y8 y9 y10 y11 y12 y13 y14 y15
 obtain ⟨⟨z0, z1, z2, z3, z4, z5, z6, z7, z8, z9, aR, aV, z12, z13, z14, z15⟩, zf⟩ := (G0.out.o.below hb).tc16
 have g4 := zf 4
 have g5 := zf 5
 have g6 := zf 6
 have g7 := zf 7
 have g8 := zf 8
 have g9 := zf 9
 obtain ⟨W1, hX⟩ : ∃ z, z = aM w1 (w.heap.size + 1 + 1) 4 [.int .i64 X.q.kd, .int .i64 X.q.pl, .int .i64 X.q.n, .slice b1 l1 d1, .slice b2 l2 d2, .int .i64 X.q.wa] := ⟨_, rfl⟩
 have G1 := TS.st G0 hb hX #[.bool X.bk, .int .i64 X.po, .int .i64 X.nu, .int .i64 X.un, .int .i64 X.q.kd, .int .i64 X.q.pl, .int .i64 X.q.n, .slice b1 l1 d1, .slice b2 l2 d2, .int .i64 X.q.wa, .int .i64 0, .int .i64 0, .int .i64 0, .int .i64 0, .slice none 0 0, .slice none 0 0] [(ah X.q.ws, .slice b1 l1 d1), (af X.q.bs, .slice b2 l2 d2)] ⟨q1, q2, trivial⟩
 simp only [aM, Nat.reduceAdd, Nat.zero_add] at hX
 clear hb q1 q2
 go_upto_region 7 with fail
 rw [<- hX]
 clear hX zf z0 z1 z2 z3 z4 z5 z6 z7 z8 z9 aR aV z12 z13 z14 z15 g4 g5 g6 g7 g8 g9
 obtain ⟨⟨y0, y1, y2, y3, y4, y5, y6, y7, y8, y9, y10, y11, y12, y13, y14, y15⟩, -⟩ := G1.out.a.tc16
 go_wp2_with fail
 refine (gQ X.a a3 l3 c3 a4 l4 c4 _ (HR.out.2.2.1.below G1.out.b) (HR.out.2.2.2.below G1.out.b) HZ.out.2).mono ?_
 rintro e w2 ⟨b3, d3, b4, d4, rfl, q3, q4, hb⟩
 clear y0 y1 y2 y3 y4 y5 y6 y7 y8 y9 y10 y11 y12 y13 y14 y15
 obtain ⟨⟨z0, z1, z2, z3, z4, z5, z6, z7, z8, z9, aR, aV, z12, z13, z14, z15⟩, zf⟩ := (G1.out.o.below hb).tc16
 have g10 := zf 10
 have g11 := zf 11
 have g12 := zf 12
 have g13 := zf 13
 have g14 := zf 14
 have g15 := zf 15
 obtain ⟨W2, hX⟩ : ∃ z, z = aM w2 (w.heap.size + 1 + 1) 10 [.int .i64 X.a.kd, .int .i64 X.a.fl, .int .i64 X.a.pl, .int .i64 X.a.n, .slice b3 l3 d3, .slice b4 l4 d4] := ⟨_, rfl⟩
 have G2 := TS.st G1 hb hX #[.bool X.bk, .int .i64 X.po, .int .i64 X.nu, .int .i64 X.un, .int .i64 X.q.kd, .int .i64 X.q.pl, .int .i64 X.q.n, .slice b1 l1 d1, .slice b2 l2 d2, .int .i64 X.q.wa, .int .i64 X.a.kd, .int .i64 X.a.fl, .int .i64 X.a.pl, .int .i64 X.a.n, .slice b3 l3 d3, .slice b4 l4 d4] [(ah X.a.ws, .slice b3 l3 d3), (af X.a.bs, .slice b4 l4 d4)] ⟨q3, q4, trivial⟩
 simp only [aM, Nat.reduceAdd, Nat.zero_add] at hX
 clear hb q3 q4
 go_upto_region 8 with fail
 rw [<- hX]
 clear hX zf z0 z1 z2 z3 z4 z5 z6 z7 z8 z9 aR aV z12 z13 z14 z15 g10 g11 g12 g13 g14 g15
 obtain ⟨V, hV⟩ : ∃ V, V = aM W2 (w.heap.size + 1) 0 (cr X b1 l1 d1 b2 l2 d2 b3 l3 d3 b4 l4 d4) := ⟨_, rfl⟩
 have H9 := TS.fin G2 hV
 have hr : W2.rangeAt (w.heap.size + 1 + 1) 0 (cr X b1 l1 d1 b2 l2 d2 b3 l3 d3 b4 l4 d4) := G2.out.o.all
 have ht := G2.out.z.there 0 16 (by simp)
 clear G2
 refine wp_region_lit ?_
 refine wpList_load_mid rfl 120 (.tmp 3) rfl (w.heap.size + 1 + 1) 0 rfl (cr X b1 l1 d1 b2 l2 d2 b3 l3 d3 b4 l4 d4) _ hr underlying120 rfl (by kernel_rfl) ?_
 refine wpList_store_mid rfl 120 (.tmp 2) (.tmp 24) rfl (w.heap.size + 1) 0 (cr X b1 l1 d1 b2 l2 d2 b3 l3 d3 b4 l4 d4).toArray rfl rfl ht (by kernel_rfl) (by simp [Value.oneCell']) ?_
 rw [bh, <- hV]
 clear hV hr ht
 refine wpList_nil ?_
 go_wp2
 obtain ⟨⟨y0, y1, y2, y3, y4, y5, y6, y7, y8, y9, y10, y11, y12, y13, y14, y15⟩, -⟩ := H9.out.2.1.tc16
 obtain ⟨B, -, s1, s2, s3, s4, -⟩ := H9.out
 refine bodyPost_ret (v := .agg (cr X b1 l1 d1 b2 l2 d2 b3 l3 d3 b4 l4 d4).toArray) (by simp [results, results122, go_sem, y0, y1, y2, y3, y4, y5, y6, y7, y8, y9, y10, y11, y12, y13, y14, y15]) rfl ⟨b1, d1, b2, d2, b3, d3, b4, d4, rfl, s1, s2, s3, s4, B⟩
theorem nv (n : Nat) (f : Nat -> VK) (a : Option Addr) (n' cap : Nat) (w : World) (hs : Rd w 0 (.list 16 n (fun k => aa (br (f k)))) (.slice a n' cap)) (hz : (Tr.list 16 n (fun k => aa (br (f k)))).sz <= 1048576) :
 Calls prog 69 #[.slice a n' cap] w fun e w' => ∃ b d, e = .returned (.slice b n' d) /\ Rd w' w.heap.size (.list 16 n (fun k => aa (br (f k)))) (.slice b n' d) /\ Below w.heap.size w w' := by
 obtain ⟨a9, c9, h9, -, hn⟩ := hs.shape
 simp only [Value.slice.injEq] at h9
 obtain ⟨-, rfl, -⟩ := h9
 clear a9 c9
 have hn1 : n' <= 1048576 := by rw [Tr.sz_list] at hz; omega
 have HZ : Hid (∀ k, k < n' -> ao 16 (aa (br (f k))) <= 1048576) := by
  show ∀ k, k < n' -> ao 16 (aa (br (f k))) <= 1048576
  intro k hk
  rw [Tr.sz_list] at hz
  have := cg (fun k => ao 16 (aa (br (f k)))) hk
  omega
 have hmk := ck (P := prog) 63 120 (.agg oD) 16 192 underlying63 (by kernel_rfl) .i64 .i64 n' (by omega) (by omega)
 have HS : Hid (Rd w 0 (.list 16 n' (fun k => aa (br (f k)))) (.slice a n' cap) /\ n' <= maxLen) := ⟨hs, hn⟩
 clear hs hz hn
 go_enter func69, ntmps69
 go_wp2
 clear hmk
 go_loopw [4] (fun i wr => ∃ (k : Nat) (F : Nat -> List Value), k <= n' /\ i = .int .i64 k /\ aG wr w.heap.size 120 16 n' F /\ (∀ j, j < k -> (F j).length = 16 /\ ay wr (w.heap.size + 1) (aa (br (f j))) (F j)) /\ Below w.heap.size w wr) (fun i _ => n' - (intOf i).toNat)
 case atStart => exact ⟨0, fun _ => (oD).toList, Nat.zero_le _, rfl, aG.made w (oD).toList n' _ (by simp), fun j hj => by omega, (Below.refl _ _).alloc (Nat.le_refl _) _⟩
 case round =>
  obtain ⟨k, F, hk, rfl, hrow, hin, hb⟩ := hrel
  by_cases hlt : k < n'
  ·have hi : (k : Int) < (n' : Int) := by omega
   obtain ⟨b, off, vs, rfl, _, hb0, hlen, hr, hrd⟩ := (HS.out.1.below hb).at hlt
   obtain ⟨a1, c1, a2, c2, a3, c3, a4, c4, rfl, r1, r2, r3, r4⟩ := VK.cells hrd hlen
   clear hlen hrd
   have HK : Hid (aG wr w.heap.size 120 16 n' F /\ (∀ j, j < k -> (F j).length = 16 /\ ay wr (w.heap.size + 1) (aa (br (f j))) (F j)) /\ Below w.heap.size w wr /\ Rd wr 0 (ah (f k).q.ws) (.slice a1 ((f k).q.ws.length) c1) /\ Rd wr 0 (af (f k).q.bs) (.slice a2 ((f k).q.bs.length) c2) /\ Rd wr 0 (ah (f k).a.ws) (.slice a3 ((f k).a.ws.length) c3) /\ Rd wr 0 (af (f k).a.bs) (.slice a4 ((f k).a.bs.length) c4)) := ⟨hrow, hin, hb, r1, r2, r3, r4⟩
   clear hrow hin hb hb0 r1 r2 r3 r4
   go_wp2_with (first | (refine wpList_load_mid rfl 169 _ rfl b (off + k * 16) rfl _ _ hr underlying169 rfl (by kernel_rfl) ?_) | fail)
   refine (oK (f k) a1 ((f k).q.ws.length) c1 a2 ((f k).q.bs.length) c2 a3 ((f k).a.ws.length) c3 a4 ((f k).a.bs.length) c4 _ HK.out.2.2.2.1 HK.out.2.2.2.2.1 HK.out.2.2.2.2.2.1 HK.out.2.2.2.2.2.2 (HZ.out k hlt)).mono ?_
   rintro e w1 ⟨b1, d1, b2, d2, b3, d3, b4, d4, rfl, q1, q2, q3, q4, hb1⟩
   have R1 := HK.out.1.below hb1
   obtain ⟨W2, hW2⟩ : ∃ W2, W2 = aM w1 w.heap.size (k * 16) (cr (f k) b1 ((f k).q.ws.length) d1 b2 ((f k).q.bs.length) d2 b3 ((f k).a.ws.length) d3 b4 ((f k).a.bs.length) d4) := ⟨_, rfl⟩
   have H2 : Hid (∃ F', aG W2 w.heap.size 120 16 n' F' /\ (∀ j, j < k + 1 -> (F' j).length = 16 /\ ay W2 (w.heap.size + 1) (aa (br (f j))) (F' j)) /\ Below w.heap.size w W2) := by
    have hg : w1.grownBy W2 (some w.heap.size) := by rw [hW2]; exact di _ _ _
    have hs1 := HK.out.1.lt
    refine ⟨_, by rw [hW2]; exact R1.set hlt _ rfl, fun j hj => ?_, by rw [hW2]; exact bp (Nat.le_refl _) _ _ _ (ae HK.out.2.2.1 hb1)⟩
    by_cases e : j = k
    ·subst e
     simp only [if_true]
     exact ⟨rfl, VK.back ((q1.mono (by omega)).kept hg (by omega)) ((q2.mono (by omega)).kept hg (by omega)) ((q3.mono (by omega)).kept hg (by omega)) ((q4.mono (by omega)).kept hg (by omega))⟩
    simp only [if_neg e]
    have h9 := HK.out.2.1 j (by omega)
    exact ⟨h9.1, (h9.2.below hb1).kept hg (by omega)⟩
   have ht := R1.there hlt (m := 16) (Nat.le_refl _)
   clear R1 hb1 HK hr q1 q2 q3 q4
   go_wp2_with (first | (refine wpList_store_mid rfl 120 _ _ rfl w.heap.size (k * 16) (cr (f k) b1 ((f k).q.ws.length) d1 b2 ((f k).q.bs.length) d2 b3 ((f k).a.ws.length) d3 b4 ((f k).a.bs.length) d4).toArray rfl rfl ht (by kernel_rfl) (by simp [Value.oneCell']) ?_; rw [bh, <- hW2]; clear hW2 ht) | fail)
   go_roundw
   case rel =>
    obtain ⟨F', x1, x2, x3⟩ := H2.out
    exact ⟨k + 1, F', by omega, by go_num, x1, x2, x3⟩
   case measure => simp [intOf]; omega
  have hi : ¬ (k : Int) < (n' : Int) := by omega
  have e9 : k = n' := by omega
  subst e9
  have HR : Hid (aG wr w.heap.size 120 16 k F /\ (∀ j, j < k -> (F j).length = 16 /\ ay wr (w.heap.size + 1) (aa (br (f j))) (F j)) /\ Below w.heap.size w wr) := ⟨hrow, hin, hb⟩
  clear hrow hin hb
  go_wp2
  go_ret
  exact ⟨_, _, rfl, Rd.made HR.out.1 (Nat.le_refl _) HS.out.2 (fun j hj => ⟨(HR.out.2.1 j hj).1, (HR.out.2.1 j hj).2.mono (by omega)⟩), HR.out.2.2⟩
theorem qa (X : VR) (a1 : Option Addr) (l1 c1 : Nat) (a2 : Option Addr) (l2 c2 : Nat) (a3 : Option Addr) (l3 c3 : Nat) (a4 : Option Addr) (l4 c4 : Nat) (a5 : Option Addr) (l5 c5 : Nat) (a6 : Option Addr) (l6 c6 : Nat) (w : World) (r1 : Rd w 0 (ah X.q.ws) (.slice a1 l1 c1)) (r2 : Rd w 0 (af X.q.bs) (.slice a2 l2 c2)) (r3 : Rd w 0 (.list 8 X.np (fun i => aa (pT (X.pt i)))) (.slice a3 l3 c3)) (r4 : Rd w 0 (.list 6 X.nt (fun i => aa (aT (X.tl i)))) (.slice a4 l4 c4)) (r5 : Rd w 0 (ah X.a.ws) (.slice a5 l5 c5)) (r6 : Rd w 0 (af X.a.bs) (.slice a6 l6 c6)) (hz : ao 16 (aa (bI X)) <= 1048576) :
 Calls prog 123 #[.agg (de X a1 l1 c1 a2 l2 c2 a3 l3 c3 a4 l4 c4 a5 l5 c5 a6 l6 c6).toArray] w fun e w' => ∃ b1 d1 b2 d2 b3 d3 b4 d4 b5 d5 b6 d6, e = .returned (.agg (de X b1 l1 d1 b2 l2 d2 b3 l3 d3 b4 l4 d4 b5 l5 d5 b6 l6 d6).toArray) /\ Rd w' w.heap.size (ah X.q.ws) (.slice b1 l1 d1) /\ Rd w' w.heap.size (af X.q.bs) (.slice b2 l2 d2) /\ Rd w' w.heap.size (.list 8 X.np (fun i => aa (pT (X.pt i)))) (.slice b3 l3 d3) /\ Rd w' w.heap.size (.list 6 X.nt (fun i => aa (aT (X.tl i)))) (.slice b4 l4 d4) /\ Rd w' w.heap.size (ah X.a.ws) (.slice b5 l5 d5) /\ Rd w' w.heap.size (af X.a.bs) (.slice b6 l6 d6) /\ Below w.heap.size w w' := by
 obtain ⟨W, hW⟩ : ∃ W, W = ((w.alloc (.cells (de X a1 l1 c1 a2 l2 c2 a3 l3 c3 a4 l4 c4 a5 l5 c5 a6 l6 c6).toArray 174)).alloc (.cells oC 187)).alloc (.cells #[.int .i64 X.so, .int .i64 X.ta, .int .i64 0, .int .i64 0, .int .i64 0, .slice none 0 0, .slice none 0 0, .int .i64 0, .slice none 0 0, .slice none 0 0, .int .i64 0, .int .i64 0, .int .i64 0, .int .i64 0, .slice none 0 0, .slice none 0 0] 187) := ⟨_, rfl⟩
 have G0 := TS.new hW
 have HZ : Hid (ao 6 (aa (qT X.q)) <= 1048576 /\ (Tr.list 8 X.np (fun i => aa (pT (X.pt i)))).sz <= 1048576 /\ (Tr.list 6 X.nt (fun i => aa (aT (X.tl i)))).sz <= 1048576 /\ ao 6 (aa (aT X.a)) <= 1048576) := by
  rw [mD] at hz
  show ao 6 (aa (qT X.q)) <= 1048576 /\ (Tr.list 8 X.np (fun i => aa (pT (X.pt i)))).sz <= 1048576 /\ (Tr.list 6 X.nt (fun i => aa (aT (X.tl i)))).sz <= 1048576 /\ ao 6 (aa (aT X.a)) <= 1048576
  simp only [dX, cO]
  omega
 have HR := bg (And.intro r1 <| And.intro r2 <| And.intro r3 <| And.intro r4 <| And.intro r5 <| r6)
 clear hz r1 r2 r3 r4 r5 r6
 go_enter func123, ntmps123
 go_upto_region 4 with fail
 rw [<- hW]
 clear hW
 obtain ⟨⟨y0, y1, y2, y3, y4, y5, y6, y7, y8, y9, y10, y11, y12, y13, y14, y15⟩, -⟩ := G0.out.a.tc16
 go_wp2_with fail
 refine (fI X.q a1 l1 c1 a2 l2 c2 _ (HR.out.1.below G0.out.b) (HR.out.2.1.below G0.out.b) HZ.out.1).mono ?_
 rintro e w1 ⟨b1, d1, b2, d2, rfl, q1, q2, hb⟩
 clear y0 y1 y2 y3 y4 y5 y6 y7 y8 y9 y10 y11 y12 y13 y14 y15
 obtain ⟨⟨z0, z1, z2, z3, z4, z5, z6, z7, z8, z9, aR, aV, z12, z13, z14, z15⟩, zf⟩ := (G0.out.o.below hb).tc16
 have g2 := zf 2
 have g3 := zf 3
 have g4 := zf 4
 have g5 := zf 5
 have g6 := zf 6
 have g7 := zf 7
 obtain ⟨W1, hX⟩ : ∃ z, z = aM w1 (w.heap.size + 1 + 1) 2 [.int .i64 X.q.kd, .int .i64 X.q.pl, .int .i64 X.q.n, .slice b1 l1 d1, .slice b2 l2 d2, .int .i64 X.q.wa] := ⟨_, rfl⟩
 have G1 := TS.st G0 hb hX #[.int .i64 X.so, .int .i64 X.ta, .int .i64 X.q.kd, .int .i64 X.q.pl, .int .i64 X.q.n, .slice b1 l1 d1, .slice b2 l2 d2, .int .i64 X.q.wa, .slice none 0 0, .slice none 0 0, .int .i64 0, .int .i64 0, .int .i64 0, .int .i64 0, .slice none 0 0, .slice none 0 0] [(ah X.q.ws, .slice b1 l1 d1), (af X.q.bs, .slice b2 l2 d2)] ⟨q1, q2, trivial⟩
 simp only [aM, Nat.reduceAdd, Nat.zero_add] at hX
 clear hb q1 q2
 go_upto_region 5 with fail
 rw [<- hX]
 clear hX zf z0 z1 z2 z3 z4 z5 z6 z7 z8 z9 aR aV z12 z13 z14 z15 g2 g3 g4 g5 g6 g7
 obtain ⟨⟨y0, y1, y2, y3, y4, y5, y6, y7, y8, y9, y10, y11, y12, y13, y14, y15⟩, -⟩ := G1.out.a.tc16
 go_wp2_with fail
 refine (ld X.np X.pt a3 l3 c3 _ (HR.out.2.2.1.below G1.out.b) HZ.out.2.1).mono ?_
 rintro e w2 ⟨b3, d3, rfl, q3, hb⟩
 clear y0 y1 y2 y3 y4 y5 y6 y7 y8 y9 y10 y11 y12 y13 y14 y15
 obtain ⟨⟨z0, z1, z2, z3, z4, z5, z6, z7, z8, z9, aR, aV, z12, z13, z14, z15⟩, zf⟩ := (G1.out.o.below hb).tc16
 have g8 := zf 8
 obtain ⟨W2, hX⟩ : ∃ z, z = aM w2 (w.heap.size + 1 + 1) 8 [.slice b3 l3 d3] := ⟨_, rfl⟩
 have G2 := TS.st G1 hb hX #[.int .i64 X.so, .int .i64 X.ta, .int .i64 X.q.kd, .int .i64 X.q.pl, .int .i64 X.q.n, .slice b1 l1 d1, .slice b2 l2 d2, .int .i64 X.q.wa, .slice b3 l3 d3, .slice none 0 0, .int .i64 0, .int .i64 0, .int .i64 0, .int .i64 0, .slice none 0 0, .slice none 0 0] [(.list 8 X.np (fun i => aa (pT (X.pt i))), .slice b3 l3 d3)] ⟨q3, trivial⟩
 simp only [aM, Nat.reduceAdd, Nat.zero_add] at hX
 clear hb q3
 go_upto_region 6 with fail
 rw [<- hX]
 clear hX zf z0 z1 z2 z3 z4 z5 z6 z7 z8 z9 aR aV z12 z13 z14 z15 g8
 obtain ⟨⟨y0, y1, y2, y3, y4, y5, y6, y7, y8, y9, y10, y11, y12, y13, y14, y15⟩, -⟩ := G2.out.a.tc16
 go_wp2_with fail
 refine (lc X.nt X.tl a4 l4 c4 _ (HR.out.2.2.2.1.below G2.out.b) HZ.out.2.2.1).mono ?_
 rintro e w3 ⟨b4, d4, rfl, q4, hb⟩
 clear y0 y1 y2 y3 y4 y5 y6 y7 y8 y9 y10 y11 y12 y13 y14 y15
 obtain ⟨⟨z0, z1, z2, z3, z4, z5, z6, z7, z8, z9, aR, aV, z12, z13, z14, z15⟩, zf⟩ := (G2.out.o.below hb).tc16
 have g9 := zf 9
 obtain ⟨W3, hX⟩ : ∃ z, z = aM w3 (w.heap.size + 1 + 1) 9 [.slice b4 l4 d4] := ⟨_, rfl⟩
 have G3 := TS.st G2 hb hX #[.int .i64 X.so, .int .i64 X.ta, .int .i64 X.q.kd, .int .i64 X.q.pl, .int .i64 X.q.n, .slice b1 l1 d1, .slice b2 l2 d2, .int .i64 X.q.wa, .slice b3 l3 d3, .slice b4 l4 d4, .int .i64 0, .int .i64 0, .int .i64 0, .int .i64 0, .slice none 0 0, .slice none 0 0] [(.list 6 X.nt (fun i => aa (aT (X.tl i))), .slice b4 l4 d4)] ⟨q4, trivial⟩
 simp only [aM, Nat.reduceAdd, Nat.zero_add] at hX
 clear hb q4
 go_upto_region 7 with fail
 rw [<- hX]
 clear hX zf z0 z1 z2 z3 z4 z5 z6 z7 z8 z9 aR aV z12 z13 z14 z15 g9
 obtain ⟨⟨y0, y1, y2, y3, y4, y5, y6, y7, y8, y9, y10, y11, y12, y13, y14, y15⟩, -⟩ := G3.out.a.tc16
 go_wp2_with fail
 refine (gQ X.a a5 l5 c5 a6 l6 c6 _ (HR.out.2.2.2.2.1.below G3.out.b) (HR.out.2.2.2.2.2.below G3.out.b) HZ.out.2.2.2).mono ?_
 rintro e w4 ⟨b5, d5, b6, d6, rfl, q5, q6, hb⟩
 clear y0 y1 y2 y3 y4 y5 y6 y7 y8 y9 y10 y11 y12 y13 y14 y15
 obtain ⟨⟨z0, z1, z2, z3, z4, z5, z6, z7, z8, z9, aR, aV, z12, z13, z14, z15⟩, zf⟩ := (G3.out.o.below hb).tc16
 have g10 := zf 10
 have g11 := zf 11
 have g12 := zf 12
 have g13 := zf 13
 have g14 := zf 14
 have g15 := zf 15
 obtain ⟨W4, hX⟩ : ∃ z, z = aM w4 (w.heap.size + 1 + 1) 10 [.int .i64 X.a.kd, .int .i64 X.a.fl, .int .i64 X.a.pl, .int .i64 X.a.n, .slice b5 l5 d5, .slice b6 l6 d6] := ⟨_, rfl⟩
 have G4 := TS.st G3 hb hX #[.int .i64 X.so, .int .i64 X.ta, .int .i64 X.q.kd, .int .i64 X.q.pl, .int .i64 X.q.n, .slice b1 l1 d1, .slice b2 l2 d2, .int .i64 X.q.wa, .slice b3 l3 d3, .slice b4 l4 d4, .int .i64 X.a.kd, .int .i64 X.a.fl, .int .i64 X.a.pl, .int .i64 X.a.n, .slice b5 l5 d5, .slice b6 l6 d6] [(ah X.a.ws, .slice b5 l5 d5), (af X.a.bs, .slice b6 l6 d6)] ⟨q5, q6, trivial⟩
 simp only [aM, Nat.reduceAdd, Nat.zero_add] at hX
 clear hb q5 q6
 go_upto_region 8 with fail
 rw [<- hX]
 clear hX zf z0 z1 z2 z3 z4 z5 z6 z7 z8 z9 aR aV z12 z13 z14 z15 g10 g11 g12 g13 g14 g15
 obtain ⟨V, hV⟩ : ∃ V, V = aM W4 (w.heap.size + 1) 0 (de X b1 l1 d1 b2 l2 d2 b3 l3 d3 b4 l4 d4 b5 l5 d5 b6 l6 d6) := ⟨_, rfl⟩
 have H9 := TS.fin G4 hV
 have hr : W4.rangeAt (w.heap.size + 1 + 1) 0 (de X b1 l1 d1 b2 l2 d2 b3 l3 d3 b4 l4 d4 b5 l5 d5 b6 l6 d6) := G4.out.o.all
 have ht := G4.out.z.there 0 16 (by simp)
 clear G4
 refine wp_region_lit ?_
 refine wpList_load_mid rfl 187 (.tmp 3) rfl (w.heap.size + 1 + 1) 0 rfl (de X b1 l1 d1 b2 l2 d2 b3 l3 d3 b4 l4 d4 b5 l5 d5 b6 l6 d6) _ hr underlying187 rfl (by kernel_rfl) ?_
 refine wpList_store_mid rfl 187 (.tmp 2) (.tmp 26) rfl (w.heap.size + 1) 0 (de X b1 l1 d1 b2 l2 d2 b3 l3 d3 b4 l4 d4 b5 l5 d5 b6 l6 d6).toArray rfl rfl ht (by kernel_rfl) (by simp [Value.oneCell']) ?_
 rw [bh, <- hV]
 clear hV hr ht
 refine wpList_nil ?_
 go_wp2
 obtain ⟨⟨y0, y1, y2, y3, y4, y5, y6, y7, y8, y9, y10, y11, y12, y13, y14, y15⟩, -⟩ := H9.out.2.1.tc16
 obtain ⟨B, -, s1, s2, s3, s4, s5, s6, -⟩ := H9.out
 refine bodyPost_ret (v := .agg (de X b1 l1 d1 b2 l2 d2 b3 l3 d3 b4 l4 d4 b5 l5 d5 b6 l6 d6).toArray) (by simp [results, results123, go_sem, y0, y1, y2, y3, y4, y5, y6, y7, y8, y9, y10, y11, y12, y13, y14, y15]) rfl ⟨b1, d1, b2, d2, b3, d3, b4, d4, b5, d5, b6, d6, rfl, s1, s2, s3, s4, s5, s6, B⟩
theorem oL (n : Nat) (f : Nat -> VR) (a : Option Addr) (n' cap : Nat) (w : World) (hs : Rd w 0 (.list 16 n (fun k => aa (bI (f k)))) (.slice a n' cap)) (hz : (Tr.list 16 n (fun k => aa (bI (f k)))).sz <= 1048576) :
 Calls prog 70 #[.slice a n' cap] w fun e w' => ∃ b d, e = .returned (.slice b n' d) /\ Rd w' w.heap.size (.list 16 n (fun k => aa (bI (f k)))) (.slice b n' d) /\ Below w.heap.size w w' := by
 obtain ⟨a9, c9, h9, -, hn⟩ := hs.shape
 simp only [Value.slice.injEq] at h9
 obtain ⟨-, rfl, -⟩ := h9
 clear a9 c9
 have hn1 : n' <= 1048576 := by rw [Tr.sz_list] at hz; omega
 have HZ : Hid (∀ k, k < n' -> ao 16 (aa (bI (f k))) <= 1048576) := by
  show ∀ k, k < n' -> ao 16 (aa (bI (f k))) <= 1048576
  intro k hk
  rw [Tr.sz_list] at hz
  have := cg (fun k => ao 16 (aa (bI (f k)))) hk
  omega
 have hmk := ck (P := prog) 64 187 (.agg oC) 16 224 underlying64 (by kernel_rfl) .i64 .i64 n' (by omega) (by omega)
 have HS : Hid (Rd w 0 (.list 16 n' (fun k => aa (bI (f k)))) (.slice a n' cap) /\ n' <= maxLen) := ⟨hs, hn⟩
 clear hs hz hn
 go_enter func70, ntmps70
 go_wp2
 clear hmk
 go_loopw [4] (fun i wr => ∃ (k : Nat) (F : Nat -> List Value), k <= n' /\ i = .int .i64 k /\ aG wr w.heap.size 187 16 n' F /\ (∀ j, j < k -> (F j).length = 16 /\ ay wr (w.heap.size + 1) (aa (bI (f j))) (F j)) /\ Below w.heap.size w wr) (fun i _ => n' - (intOf i).toNat)
 case atStart => exact ⟨0, fun _ => (oC).toList, Nat.zero_le _, rfl, aG.made w (oC).toList n' _ (by simp), fun j hj => by omega, (Below.refl _ _).alloc (Nat.le_refl _) _⟩
 case round =>
  obtain ⟨k, F, hk, rfl, hrow, hin, hb⟩ := hrel
  by_cases hlt : k < n'
  ·have hi : (k : Int) < (n' : Int) := by omega
   obtain ⟨b, off, vs, rfl, _, hb0, hlen, hr, hrd⟩ := (HS.out.1.below hb).at hlt
   obtain ⟨a1, c1, a2, c2, a3, c3, a4, c4, a5, c5, a6, c6, rfl, r1, r2, r3, r4, r5, r6⟩ := VR.cells hrd hlen
   clear hlen hrd
   have HK : Hid (aG wr w.heap.size 187 16 n' F /\ (∀ j, j < k -> (F j).length = 16 /\ ay wr (w.heap.size + 1) (aa (bI (f j))) (F j)) /\ Below w.heap.size w wr /\ Rd wr 0 (ah (f k).q.ws) (.slice a1 ((f k).q.ws.length) c1) /\ Rd wr 0 (af (f k).q.bs) (.slice a2 ((f k).q.bs.length) c2) /\ Rd wr 0 (.list 8 (f k).np (fun i => aa (pT ((f k).pt i)))) (.slice a3 ((f k).np) c3) /\ Rd wr 0 (.list 6 (f k).nt (fun i => aa (aT ((f k).tl i)))) (.slice a4 ((f k).nt) c4) /\ Rd wr 0 (ah (f k).a.ws) (.slice a5 ((f k).a.ws.length) c5) /\ Rd wr 0 (af (f k).a.bs) (.slice a6 ((f k).a.bs.length) c6)) := ⟨hrow, hin, hb, r1, r2, r3, r4, r5, r6⟩
   clear hrow hin hb hb0 r1 r2 r3 r4 r5 r6
   go_wp2_with (first | (refine wpList_load_mid rfl 174 _ rfl b (off + k * 16) rfl _ _ hr underlying174 rfl (by kernel_rfl) ?_) | fail)
   refine (qa (f k) a1 ((f k).q.ws.length) c1 a2 ((f k).q.bs.length) c2 a3 ((f k).np) c3 a4 ((f k).nt) c4 a5 ((f k).a.ws.length) c5 a6 ((f k).a.bs.length) c6 _ HK.out.2.2.2.1 HK.out.2.2.2.2.1 HK.out.2.2.2.2.2.1 HK.out.2.2.2.2.2.2.1 HK.out.2.2.2.2.2.2.2.1 HK.out.2.2.2.2.2.2.2.2 (HZ.out k hlt)).mono ?_
   rintro e w1 ⟨b1, d1, b2, d2, b3, d3, b4, d4, b5, d5, b6, d6, rfl, q1, q2, q3, q4, q5, q6, hb1⟩
   have R1 := HK.out.1.below hb1
   obtain ⟨W2, hW2⟩ : ∃ W2, W2 = aM w1 w.heap.size (k * 16) (de (f k) b1 ((f k).q.ws.length) d1 b2 ((f k).q.bs.length) d2 b3 ((f k).np) d3 b4 ((f k).nt) d4 b5 ((f k).a.ws.length) d5 b6 ((f k).a.bs.length) d6) := ⟨_, rfl⟩
   have H2 : Hid (∃ F', aG W2 w.heap.size 187 16 n' F' /\ (∀ j, j < k + 1 -> (F' j).length = 16 /\ ay W2 (w.heap.size + 1) (aa (bI (f j))) (F' j)) /\ Below w.heap.size w W2) := by
    have hg : w1.grownBy W2 (some w.heap.size) := by rw [hW2]; exact di _ _ _
    have hs1 := HK.out.1.lt
    refine ⟨_, by rw [hW2]; exact R1.set hlt _ rfl, fun j hj => ?_, by rw [hW2]; exact bp (Nat.le_refl _) _ _ _ (ae HK.out.2.2.1 hb1)⟩
    by_cases e : j = k
    ·subst e
     simp only [if_true]
     exact ⟨rfl, VR.back ((q1.mono (by omega)).kept hg (by omega)) ((q2.mono (by omega)).kept hg (by omega)) ((q3.mono (by omega)).kept hg (by omega)) ((q4.mono (by omega)).kept hg (by omega)) ((q5.mono (by omega)).kept hg (by omega)) ((q6.mono (by omega)).kept hg (by omega))⟩
    simp only [if_neg e]
    have h9 := HK.out.2.1 j (by omega)
    exact ⟨h9.1, (h9.2.below hb1).kept hg (by omega)⟩
   have ht := R1.there hlt (m := 16) (Nat.le_refl _)
   clear R1 hb1 HK hr q1 q2 q3 q4 q5 q6
   go_wp2_with (first | (refine wpList_store_mid rfl 187 _ _ rfl w.heap.size (k * 16) (de (f k) b1 ((f k).q.ws.length) d1 b2 ((f k).q.bs.length) d2 b3 ((f k).np) d3 b4 ((f k).nt) d4 b5 ((f k).a.ws.length) d5 b6 ((f k).a.bs.length) d6).toArray rfl rfl ht (by kernel_rfl) (by simp [Value.oneCell']) ?_; rw [bh, <- hW2]; clear hW2 ht) | fail)
   go_roundw
   case rel =>
    obtain ⟨F', x1, x2, x3⟩ := H2.out
    exact ⟨k + 1, F', by omega, by go_num, x1, x2, x3⟩
   case measure => simp [intOf]; omega
  have hi : ¬ (k : Int) < (n' : Int) := by omega
  have e9 : k = n' := by omega
  subst e9
  have HR : Hid (aG wr w.heap.size 187 16 k F /\ (∀ j, j < k -> (F j).length = 16 /\ ay wr (w.heap.size + 1) (aa (bI (f j))) (F j)) /\ Below w.heap.size w wr) := ⟨hrow, hin, hb⟩
  clear hrow hin hb
  go_wp2
  go_ret
  exact ⟨_, _, rfl, Rd.made HR.out.1 (Nat.le_refl _) HS.out.2 (fun j hj => ⟨(HR.out.2.1 j hj).1, (HR.out.2.1 j hj).2.mono (by omega)⟩), HR.out.2.2⟩
theorem oM (X : VE) (a1 : Option Addr) (l1 c1 : Nat) (a2 : Option Addr) (l2 c2 : Nat) (a3 : Option Addr) (l3 c3 : Nat) (a4 : Option Addr) (l4 c4 : Nat) (w : World) (r1 : Rd w 0 (ah X.q.ws) (.slice a1 l1 c1)) (r2 : Rd w 0 (af X.q.bs) (.slice a2 l2 c2)) (r3 : Rd w 0 (ah X.a.ws) (.slice a3 l3 c3)) (r4 : Rd w 0 (af X.a.bs) (.slice a4 l4 c4)) (hz : ao 15 (aa (bJ X)) <= 1048576) :
 Calls prog 124 #[.agg (dx X a1 l1 c1 a2 l2 c2 a3 l3 c3 a4 l4 c4).toArray] w fun e w' => ∃ b1 d1 b2 d2 b3 d3 b4 d4, e = .returned (.agg (dx X b1 l1 d1 b2 l2 d2 b3 l3 d3 b4 l4 d4).toArray) /\ Rd w' w.heap.size (ah X.q.ws) (.slice b1 l1 d1) /\ Rd w' w.heap.size (af X.q.bs) (.slice b2 l2 d2) /\ Rd w' w.heap.size (ah X.a.ws) (.slice b3 l3 d3) /\ Rd w' w.heap.size (af X.a.bs) (.slice b4 l4 d4) /\ Below w.heap.size w w' := by
 obtain ⟨W, hW⟩ : ∃ W, W = ((w.alloc (.cells (dx X a1 l1 c1 a2 l2 c2 a3 l3 c3 a4 l4 c4).toArray 177)).alloc (.cells oE 190)).alloc (.cells #[.int .i64 X.po, .int .i64 X.nu, .int .i64 X.un, .int .i64 0, .int .i64 0, .int .i64 0, .slice none 0 0, .slice none 0 0, .int .i64 0, .int .i64 0, .int .i64 0, .int .i64 0, .int .i64 0, .slice none 0 0, .slice none 0 0] 190) := ⟨_, rfl⟩
 have G0 := TS.new hW
 have HZ : Hid (ao 6 (aa (qT X.q)) <= 1048576 /\ ao 6 (aa (aT X.a)) <= 1048576) := by
  rw [mE] at hz
  show ao 6 (aa (qT X.q)) <= 1048576 /\ ao 6 (aa (aT X.a)) <= 1048576
  simp only [dX, cO]
  omega
 have HR := bg (And.intro r1 <| And.intro r2 <| And.intro r3 <| r4)
 clear hz r1 r2 r3 r4
 go_enter func124, ntmps124
 go_upto_region 5 with fail
 rw [<- hW]
 clear hW
 obtain ⟨⟨y0, y1, y2, y3, y4, y5, y6, y7, y8, y9, y10, y11, y12, y13, y14⟩, -⟩ := G0.out.a.tc15
 go_wp2_with fail
 refine (fI X.q a1 l1 c1 a2 l2 c2 _ (HR.out.1.below G0.out.b) (HR.out.2.1.below G0.out.b) HZ.out.1).mono ?_
 rintro e w1 ⟨b1, d1, b2, d2, rfl, q1, q2, hb⟩
 clear y0 y1 y2 y3 y4 y5 y6 y7 y8 y9 y10 y11 y12 y13 y14
 obtain ⟨⟨z0, z1, z2, z3, z4, z5, z6, z7, z8, z9, aR, aV, z12, z13, z14⟩, zf⟩ := (G0.out.o.below hb).tc15
 have g3 := zf 3
 have g4 := zf 4
 have g5 := zf 5
 have g6 := zf 6
 have g7 := zf 7
 have g8 := zf 8
 obtain ⟨W1, hX⟩ : ∃ z, z = aM w1 (w.heap.size + 1 + 1) 3 [.int .i64 X.q.kd, .int .i64 X.q.pl, .int .i64 X.q.n, .slice b1 l1 d1, .slice b2 l2 d2, .int .i64 X.q.wa] := ⟨_, rfl⟩
 have G1 := TS.st G0 hb hX #[.int .i64 X.po, .int .i64 X.nu, .int .i64 X.un, .int .i64 X.q.kd, .int .i64 X.q.pl, .int .i64 X.q.n, .slice b1 l1 d1, .slice b2 l2 d2, .int .i64 X.q.wa, .int .i64 0, .int .i64 0, .int .i64 0, .int .i64 0, .slice none 0 0, .slice none 0 0] [(ah X.q.ws, .slice b1 l1 d1), (af X.q.bs, .slice b2 l2 d2)] ⟨q1, q2, trivial⟩
 simp only [aM, Nat.reduceAdd, Nat.zero_add] at hX
 clear hb q1 q2
 go_upto_region 6 with fail
 rw [<- hX]
 clear hX zf z0 z1 z2 z3 z4 z5 z6 z7 z8 z9 aR aV z12 z13 z14 g3 g4 g5 g6 g7 g8
 obtain ⟨⟨y0, y1, y2, y3, y4, y5, y6, y7, y8, y9, y10, y11, y12, y13, y14⟩, -⟩ := G1.out.a.tc15
 go_wp2_with fail
 refine (gQ X.a a3 l3 c3 a4 l4 c4 _ (HR.out.2.2.1.below G1.out.b) (HR.out.2.2.2.below G1.out.b) HZ.out.2).mono ?_
 rintro e w2 ⟨b3, d3, b4, d4, rfl, q3, q4, hb⟩
 clear y0 y1 y2 y3 y4 y5 y6 y7 y8 y9 y10 y11 y12 y13 y14
 obtain ⟨⟨z0, z1, z2, z3, z4, z5, z6, z7, z8, z9, aR, aV, z12, z13, z14⟩, zf⟩ := (G1.out.o.below hb).tc15
 have g9 := zf 9
 have g10 := zf 10
 have g11 := zf 11
 have g12 := zf 12
 have g13 := zf 13
 have g14 := zf 14
 obtain ⟨W2, hX⟩ : ∃ z, z = aM w2 (w.heap.size + 1 + 1) 9 [.int .i64 X.a.kd, .int .i64 X.a.fl, .int .i64 X.a.pl, .int .i64 X.a.n, .slice b3 l3 d3, .slice b4 l4 d4] := ⟨_, rfl⟩
 have G2 := TS.st G1 hb hX #[.int .i64 X.po, .int .i64 X.nu, .int .i64 X.un, .int .i64 X.q.kd, .int .i64 X.q.pl, .int .i64 X.q.n, .slice b1 l1 d1, .slice b2 l2 d2, .int .i64 X.q.wa, .int .i64 X.a.kd, .int .i64 X.a.fl, .int .i64 X.a.pl, .int .i64 X.a.n, .slice b3 l3 d3, .slice b4 l4 d4] [(ah X.a.ws, .slice b3 l3 d3), (af X.a.bs, .slice b4 l4 d4)] ⟨q3, q4, trivial⟩
 simp only [aM, Nat.reduceAdd, Nat.zero_add] at hX
 clear hb q3 q4
 go_upto_region 7 with fail
 rw [<- hX]
 clear hX zf z0 z1 z2 z3 z4 z5 z6 z7 z8 z9 aR aV z12 z13 z14 g9 g10 g11 g12 g13 g14
 obtain ⟨V, hV⟩ : ∃ V, V = aM W2 (w.heap.size + 1) 0 (dx X b1 l1 d1 b2 l2 d2 b3 l3 d3 b4 l4 d4) := ⟨_, rfl⟩
 have H9 := TS.fin G2 hV
 have hr : W2.rangeAt (w.heap.size + 1 + 1) 0 (dx X b1 l1 d1 b2 l2 d2 b3 l3 d3 b4 l4 d4) := G2.out.o.all
 have ht := G2.out.z.there 0 15 (by simp)
 clear G2
 refine wp_region_lit ?_
 refine wpList_load_mid rfl 190 (.tmp 3) rfl (w.heap.size + 1 + 1) 0 rfl (dx X b1 l1 d1 b2 l2 d2 b3 l3 d3 b4 l4 d4) _ hr underlying190 rfl (by kernel_rfl) ?_
 refine wpList_store_mid rfl 190 (.tmp 2) (.tmp 21) rfl (w.heap.size + 1) 0 (dx X b1 l1 d1 b2 l2 d2 b3 l3 d3 b4 l4 d4).toArray rfl rfl ht (by kernel_rfl) (by simp [Value.oneCell']) ?_
 rw [bh, <- hV]
 clear hV hr ht
 refine wpList_nil ?_
 go_wp2
 obtain ⟨⟨y0, y1, y2, y3, y4, y5, y6, y7, y8, y9, y10, y11, y12, y13, y14⟩, -⟩ := H9.out.2.1.tc15
 obtain ⟨B, -, s1, s2, s3, s4, -⟩ := H9.out
 refine bodyPost_ret (v := .agg (dx X b1 l1 d1 b2 l2 d2 b3 l3 d3 b4 l4 d4).toArray) (by simp [results, results124, go_sem, y0, y1, y2, y3, y4, y5, y6, y7, y8, y9, y10, y11, y12, y13, y14]) rfl ⟨b1, d1, b2, d2, b3, d3, b4, d4, rfl, s1, s2, s3, s4, B⟩
theorem ny (n : Nat) (f : Nat -> VE) (a : Option Addr) (n' cap : Nat) (w : World) (hs : Rd w 0 (.list 15 n (fun k => aa (bJ (f k)))) (.slice a n' cap)) (hz : (Tr.list 15 n (fun k => aa (bJ (f k)))).sz <= 1048576) :
 Calls prog 71 #[.slice a n' cap] w fun e w' => ∃ b d, e = .returned (.slice b n' d) /\ Rd w' w.heap.size (.list 15 n (fun k => aa (bJ (f k)))) (.slice b n' d) /\ Below w.heap.size w w' := by
 obtain ⟨a9, c9, h9, -, hn⟩ := hs.shape
 simp only [Value.slice.injEq] at h9
 obtain ⟨-, rfl, -⟩ := h9
 clear a9 c9
 have hn1 : n' <= 1048576 := by rw [Tr.sz_list] at hz; omega
 have HZ : Hid (∀ k, k < n' -> ao 15 (aa (bJ (f k))) <= 1048576) := by
  show ∀ k, k < n' -> ao 15 (aa (bJ (f k))) <= 1048576
  intro k hk
  rw [Tr.sz_list] at hz
  have := cg (fun k => ao 15 (aa (bJ (f k)))) hk
  omega
 have hmk := ck (P := prog) 65 190 (.agg oE) 15 184 underlying65 (by kernel_rfl) .i64 .i64 n' (by omega) (by omega)
 have HS : Hid (Rd w 0 (.list 15 n' (fun k => aa (bJ (f k)))) (.slice a n' cap) /\ n' <= maxLen) := ⟨hs, hn⟩
 clear hs hz hn
 go_enter func71, ntmps71
 go_wp2
 clear hmk
 go_loopw [4] (fun i wr => ∃ (k : Nat) (F : Nat -> List Value), k <= n' /\ i = .int .i64 k /\ aG wr w.heap.size 190 15 n' F /\ (∀ j, j < k -> (F j).length = 15 /\ ay wr (w.heap.size + 1) (aa (bJ (f j))) (F j)) /\ Below w.heap.size w wr) (fun i _ => n' - (intOf i).toNat)
 case atStart => exact ⟨0, fun _ => (oE).toList, Nat.zero_le _, rfl, aG.made w (oE).toList n' _ (by simp), fun j hj => by omega, (Below.refl _ _).alloc (Nat.le_refl _) _⟩
 case round =>
  obtain ⟨k, F, hk, rfl, hrow, hin, hb⟩ := hrel
  by_cases hlt : k < n'
  ·have hi : (k : Int) < (n' : Int) := by omega
   obtain ⟨b, off, vs, rfl, _, hb0, hlen, hr, hrd⟩ := (HS.out.1.below hb).at hlt
   obtain ⟨a1, c1, a2, c2, a3, c3, a4, c4, rfl, r1, r2, r3, r4⟩ := VE.cells hrd hlen
   clear hlen hrd
   have HK : Hid (aG wr w.heap.size 190 15 n' F /\ (∀ j, j < k -> (F j).length = 15 /\ ay wr (w.heap.size + 1) (aa (bJ (f j))) (F j)) /\ Below w.heap.size w wr /\ Rd wr 0 (ah (f k).q.ws) (.slice a1 ((f k).q.ws.length) c1) /\ Rd wr 0 (af (f k).q.bs) (.slice a2 ((f k).q.bs.length) c2) /\ Rd wr 0 (ah (f k).a.ws) (.slice a3 ((f k).a.ws.length) c3) /\ Rd wr 0 (af (f k).a.bs) (.slice a4 ((f k).a.bs.length) c4)) := ⟨hrow, hin, hb, r1, r2, r3, r4⟩
   clear hrow hin hb hb0 r1 r2 r3 r4
   go_wp2_with (first | (refine wpList_load_mid rfl 177 _ rfl b (off + k * 15) rfl _ _ hr underlying177 rfl (by kernel_rfl) ?_) | fail)
   refine (oM (f k) a1 ((f k).q.ws.length) c1 a2 ((f k).q.bs.length) c2 a3 ((f k).a.ws.length) c3 a4 ((f k).a.bs.length) c4 _ HK.out.2.2.2.1 HK.out.2.2.2.2.1 HK.out.2.2.2.2.2.1 HK.out.2.2.2.2.2.2 (HZ.out k hlt)).mono ?_
   rintro e w1 ⟨b1, d1, b2, d2, b3, d3, b4, d4, rfl, q1, q2, q3, q4, hb1⟩
   have R1 := HK.out.1.below hb1
   obtain ⟨W2, hW2⟩ : ∃ W2, W2 = aM w1 w.heap.size (k * 15) (dx (f k) b1 ((f k).q.ws.length) d1 b2 ((f k).q.bs.length) d2 b3 ((f k).a.ws.length) d3 b4 ((f k).a.bs.length) d4) := ⟨_, rfl⟩
   have H2 : Hid (∃ F', aG W2 w.heap.size 190 15 n' F' /\ (∀ j, j < k + 1 -> (F' j).length = 15 /\ ay W2 (w.heap.size + 1) (aa (bJ (f j))) (F' j)) /\ Below w.heap.size w W2) := by
    have hg : w1.grownBy W2 (some w.heap.size) := by rw [hW2]; exact di _ _ _
    have hs1 := HK.out.1.lt
    refine ⟨_, by rw [hW2]; exact R1.set hlt _ rfl, fun j hj => ?_, by rw [hW2]; exact bp (Nat.le_refl _) _ _ _ (ae HK.out.2.2.1 hb1)⟩
    by_cases e : j = k
    ·subst e
     simp only [if_true]
     exact ⟨rfl, VE.back ((q1.mono (by omega)).kept hg (by omega)) ((q2.mono (by omega)).kept hg (by omega)) ((q3.mono (by omega)).kept hg (by omega)) ((q4.mono (by omega)).kept hg (by omega))⟩
    simp only [if_neg e]
    have h9 := HK.out.2.1 j (by omega)
    exact ⟨h9.1, (h9.2.below hb1).kept hg (by omega)⟩
   have ht := R1.there hlt (m := 15) (Nat.le_refl _)
   clear R1 hb1 HK hr q1 q2 q3 q4
   go_wp2_with (first | (refine wpList_store_mid rfl 190 _ _ rfl w.heap.size (k * 15) (dx (f k) b1 ((f k).q.ws.length) d1 b2 ((f k).q.bs.length) d2 b3 ((f k).a.ws.length) d3 b4 ((f k).a.bs.length) d4).toArray rfl rfl ht (by kernel_rfl) (by simp [Value.oneCell']) ?_; rw [bh, <- hW2]; clear hW2 ht) | fail)
   go_roundw
   case rel =>
    obtain ⟨F', x1, x2, x3⟩ := H2.out
    exact ⟨k + 1, F', by omega, by go_num, x1, x2, x3⟩
   case measure => simp [intOf]; omega
  have hi : ¬ (k : Int) < (n' : Int) := by omega
  have e9 : k = n' := by omega
  subst e9
  have HR : Hid (aG wr w.heap.size 190 15 k F /\ (∀ j, j < k -> (F j).length = 15 /\ ay wr (w.heap.size + 1) (aa (bJ (f j))) (F j)) /\ Below w.heap.size w wr) := ⟨hrow, hin, hb⟩
  clear hrow hin hb
  go_wp2
  go_ret
  exact ⟨_, _, rfl, Rd.made HR.out.1 (Nat.le_refl _) HS.out.2 (fun j hj => ⟨(HR.out.2.1 j hj).1, (HR.out.2.1 j hj).2.mono (by omega)⟩), HR.out.2.2⟩
theorem iJ (X : VW) (a1 : Option Addr) (l1 c1 : Nat) (a2 : Option Addr) (l2 c2 : Nat) (a3 : Option Addr) (l3 c3 : Nat) (a4 : Option Addr) (l4 c4 : Nat) (a5 : Option Addr) (l5 c5 : Nat) (a6 : Option Addr) (l6 c6 : Nat) (a7 : Option Addr) (l7 c7 : Nat) (w : World) (r1 : Rd w 0 (.list 7 X.fb.set.n (fun i => aa (bi (X.fb.set.f i)))) (.slice a1 l1 c1)) (r2 : Rd w 0 (.list 13 X.fb.op.m (fun i => aa (dT (X.fb.op.f i)))) (.slice a2 l2 c2)) (r3 : Rd w 0 (.list 17 X.fb.nl (fun i => aa (aU (X.fb.lf i)))) (.slice a3 l3 c3)) (r4 : Rd w 0 (.list 6 X.ns (fun i => aa (bn (X.sf i)))) (.slice a4 l4 c4)) (r5 : Rd w 0 (.list 16 X.nk (fun i => aa (br (X.kf i)))) (.slice a5 l5 c5)) (r6 : Rd w 0 (.list 16 X.nr (fun i => aa (bI (X.rf i)))) (.slice a6 l6 c6)) (r7 : Rd w 0 (.list 15 X.ne (fun i => aa (bJ (X.ef i)))) (.slice a7 l7 c7)) (hz : ao 15 (aa (eX X)) <= 1048576) :
 Calls prog 25 #[.agg (bt X a1 l1 c1 a2 l2 c2 a3 l3 c3 a4 l4 c4 a5 l5 c5 a6 l6 c6 a7 l7 c7).toArray] w fun e w' => ∃ b1 d1 b2 d2 b3 d3 b4 d4 b5 d5 b6 d6 b7 d7, e = .returned (.agg (bt X b1 l1 d1 b2 l2 d2 b3 l3 d3 b4 l4 d4 b5 l5 d5 b6 l6 d6 b7 l7 d7).toArray) /\ Rd w' w.heap.size (.list 7 X.fb.set.n (fun i => aa (bi (X.fb.set.f i)))) (.slice b1 l1 d1) /\ Rd w' w.heap.size (.list 13 X.fb.op.m (fun i => aa (dT (X.fb.op.f i)))) (.slice b2 l2 d2) /\ Rd w' w.heap.size (.list 17 X.fb.nl (fun i => aa (aU (X.fb.lf i)))) (.slice b3 l3 d3) /\ Rd w' w.heap.size (.list 6 X.ns (fun i => aa (bn (X.sf i)))) (.slice b4 l4 d4) /\ Rd w' w.heap.size (.list 16 X.nk (fun i => aa (br (X.kf i)))) (.slice b5 l5 d5) /\ Rd w' w.heap.size (.list 16 X.nr (fun i => aa (bI (X.rf i)))) (.slice b6 l6 d6) /\ Rd w' w.heap.size (.list 15 X.ne (fun i => aa (bJ (X.ef i)))) (.slice b7 l7 d7) /\ Below w.heap.size w w' := by
 obtain ⟨W, hW⟩ : ∃ W, W = ((w.alloc (.cells (bt X a1 l1 c1 a2 l2 c2 a3 l3 c3 a4 l4 c4 a5 l5 c5 a6 l6 c6 a7 l7 c7).toArray 59)).alloc (.cells uN 67)).alloc (.cells uN 67) := ⟨_, rfl⟩
 have G0 := TS.new hW
 have HZ : Hid (ao 11 (aa (dS X.fb)) <= 1048576 /\ (Tr.list 6 X.ns (fun i => aa (bn (X.sf i)))).sz <= 1048576 /\ (Tr.list 16 X.nk (fun i => aa (br (X.kf i)))).sz <= 1048576 /\ (Tr.list 16 X.nr (fun i => aa (bI (X.rf i)))).sz <= 1048576 /\ (Tr.list 15 X.ne (fun i => aa (bJ (X.ef i)))).sz <= 1048576) := by
  rw [j8] at hz
  show ao 11 (aa (dS X.fb)) <= 1048576 /\ (Tr.list 6 X.ns (fun i => aa (bn (X.sf i)))).sz <= 1048576 /\ (Tr.list 16 X.nk (fun i => aa (br (X.kf i)))).sz <= 1048576 /\ (Tr.list 16 X.nr (fun i => aa (bI (X.rf i)))).sz <= 1048576 /\ (Tr.list 15 X.ne (fun i => aa (bJ (X.ef i)))).sz <= 1048576
  simp only [fn]
  omega
 have HR := bg (And.intro r1 <| And.intro r2 <| And.intro r3 <| And.intro r4 <| And.intro r5 <| And.intro r6 <| r7)
 clear hz r1 r2 r3 r4 r5 r6 r7
 go_enter func25, ntmps25
 go_upto_region 2 with fail
 rw [<- hW]
 clear hW
 obtain ⟨⟨y0, y1, y2, y3, y4, y5, y6, y7, y8, y9, y10, y11, y12, y13, y14⟩, -⟩ := G0.out.a.tc15
 go_wp2_with fail
 refine (oI X.fb a1 l1 c1 a2 l2 c2 a3 l3 c3 _ (HR.out.1.below G0.out.b) (HR.out.2.1.below G0.out.b) (HR.out.2.2.1.below G0.out.b) HZ.out.1).mono ?_
 rintro e w1 ⟨b1, d1, b2, d2, b3, d3, rfl, q1, q2, q3, hb⟩
 clear y0 y1 y2 y3 y4 y5 y6 y7 y8 y9 y10 y11 y12 y13 y14
 obtain ⟨⟨z0, z1, z2, z3, z4, z5, z6, z7, z8, z9, aR, aV, z12, z13, z14⟩, zf⟩ := (G0.out.o.below hb).tc15
 have g0 := zf 0
 have g1 := zf 1
 have g2 := zf 2
 have g3 := zf 3
 have g4 := zf 4
 have g5 := zf 5
 have g6 := zf 6
 have g7 := zf 7
 have g8 := zf 8
 have g9 := zf 9
 have g10 := zf 10
 obtain ⟨W1, hX⟩ : ∃ z, z = aM w1 (w.heap.size + 1 + 1) 0 [.int .i64 X.fb.nw, .int .i64 X.fb.set.wt, .int .i64 X.fb.set.tr, .slice b1 l1 d1, .int .i64 X.fb.op.nx, .slice b2 l2 d2, .slice b3 l3 d3, .int .i64 X.fb.sk, .int .i64 X.fb.re, .int .i64 X.fb.fa, .int .i64 X.fb.se] := ⟨_, rfl⟩
 have G1 := TS.st G0 hb hX #[.int .i64 X.fb.nw, .int .i64 X.fb.set.wt, .int .i64 X.fb.set.tr, .slice b1 l1 d1, .int .i64 X.fb.op.nx, .slice b2 l2 d2, .slice b3 l3 d3, .int .i64 X.fb.sk, .int .i64 X.fb.re, .int .i64 X.fb.fa, .int .i64 X.fb.se, .slice none 0 0, .slice none 0 0, .slice none 0 0, .slice none 0 0] [(.list 7 X.fb.set.n (fun i => aa (bi (X.fb.set.f i))), .slice b1 l1 d1), (.list 13 X.fb.op.m (fun i => aa (dT (X.fb.op.f i))), .slice b2 l2 d2), (.list 17 X.fb.nl (fun i => aa (aU (X.fb.lf i))), .slice b3 l3 d3)] ⟨q1, q2, q3, trivial⟩
 simp only [aM, Nat.reduceAdd, Nat.zero_add] at hX
 clear hb q1 q2 q3
 go_upto_region 3 with fail
 rw [<- hX]
 clear hX zf z0 z1 z2 z3 z4 z5 z6 z7 z8 z9 aR aV z12 z13 z14 g0 g1 g2 g3 g4 g5 g6 g7 g8 g9 g10
 obtain ⟨⟨y0, y1, y2, y3, y4, y5, y6, y7, y8, y9, y10, y11, y12, y13, y14⟩, -⟩ := G1.out.a.tc15
 go_wp2_with fail
 refine (p9 X.ns X.sf a4 l4 c4 _ (HR.out.2.2.2.1.below G1.out.b) HZ.out.2.1).mono ?_
 rintro e w2 ⟨b4, d4, rfl, q4, hb⟩
 clear y0 y1 y2 y3 y4 y5 y6 y7 y8 y9 y10 y11 y12 y13 y14
 obtain ⟨⟨z0, z1, z2, z3, z4, z5, z6, z7, z8, z9, aR, aV, z12, z13, z14⟩, zf⟩ := (G1.out.o.below hb).tc15
 have g11 := zf 11
 obtain ⟨W2, hX⟩ : ∃ z, z = aM w2 (w.heap.size + 1 + 1) 11 [.slice b4 l4 d4] := ⟨_, rfl⟩
 have G2 := TS.st G1 hb hX #[.int .i64 X.fb.nw, .int .i64 X.fb.set.wt, .int .i64 X.fb.set.tr, .slice b1 l1 d1, .int .i64 X.fb.op.nx, .slice b2 l2 d2, .slice b3 l3 d3, .int .i64 X.fb.sk, .int .i64 X.fb.re, .int .i64 X.fb.fa, .int .i64 X.fb.se, .slice b4 l4 d4, .slice none 0 0, .slice none 0 0, .slice none 0 0] [(.list 6 X.ns (fun i => aa (bn (X.sf i))), .slice b4 l4 d4)] ⟨q4, trivial⟩
 simp only [aM, Nat.reduceAdd, Nat.zero_add] at hX
 clear hb q4
 go_upto_region 4 with fail
 rw [<- hX]
 clear hX zf z0 z1 z2 z3 z4 z5 z6 z7 z8 z9 aR aV z12 z13 z14 g11
 obtain ⟨⟨y0, y1, y2, y3, y4, y5, y6, y7, y8, y9, y10, y11, y12, y13, y14⟩, -⟩ := G2.out.a.tc15
 go_wp2_with fail
 refine (nv X.nk X.kf a5 l5 c5 _ (HR.out.2.2.2.2.1.below G2.out.b) HZ.out.2.2.1).mono ?_
 rintro e w3 ⟨b5, d5, rfl, q5, hb⟩
 clear y0 y1 y2 y3 y4 y5 y6 y7 y8 y9 y10 y11 y12 y13 y14
 obtain ⟨⟨z0, z1, z2, z3, z4, z5, z6, z7, z8, z9, aR, aV, z12, z13, z14⟩, zf⟩ := (G2.out.o.below hb).tc15
 have g12 := zf 12
 obtain ⟨W3, hX⟩ : ∃ z, z = aM w3 (w.heap.size + 1 + 1) 12 [.slice b5 l5 d5] := ⟨_, rfl⟩
 have G3 := TS.st G2 hb hX #[.int .i64 X.fb.nw, .int .i64 X.fb.set.wt, .int .i64 X.fb.set.tr, .slice b1 l1 d1, .int .i64 X.fb.op.nx, .slice b2 l2 d2, .slice b3 l3 d3, .int .i64 X.fb.sk, .int .i64 X.fb.re, .int .i64 X.fb.fa, .int .i64 X.fb.se, .slice b4 l4 d4, .slice b5 l5 d5, .slice none 0 0, .slice none 0 0] [(.list 16 X.nk (fun i => aa (br (X.kf i))), .slice b5 l5 d5)] ⟨q5, trivial⟩
 simp only [aM, Nat.reduceAdd, Nat.zero_add] at hX
 clear hb q5
 go_upto_region 5 with fail
 rw [<- hX]
 clear hX zf z0 z1 z2 z3 z4 z5 z6 z7 z8 z9 aR aV z12 z13 z14 g12
 obtain ⟨⟨y0, y1, y2, y3, y4, y5, y6, y7, y8, y9, y10, y11, y12, y13, y14⟩, -⟩ := G3.out.a.tc15
 go_wp2_with fail
 refine (oL X.nr X.rf a6 l6 c6 _ (HR.out.2.2.2.2.2.1.below G3.out.b) HZ.out.2.2.2.1).mono ?_
 rintro e w4 ⟨b6, d6, rfl, q6, hb⟩
 clear y0 y1 y2 y3 y4 y5 y6 y7 y8 y9 y10 y11 y12 y13 y14
 obtain ⟨⟨z0, z1, z2, z3, z4, z5, z6, z7, z8, z9, aR, aV, z12, z13, z14⟩, zf⟩ := (G3.out.o.below hb).tc15
 have g13 := zf 13
 obtain ⟨W4, hX⟩ : ∃ z, z = aM w4 (w.heap.size + 1 + 1) 13 [.slice b6 l6 d6] := ⟨_, rfl⟩
 have G4 := TS.st G3 hb hX #[.int .i64 X.fb.nw, .int .i64 X.fb.set.wt, .int .i64 X.fb.set.tr, .slice b1 l1 d1, .int .i64 X.fb.op.nx, .slice b2 l2 d2, .slice b3 l3 d3, .int .i64 X.fb.sk, .int .i64 X.fb.re, .int .i64 X.fb.fa, .int .i64 X.fb.se, .slice b4 l4 d4, .slice b5 l5 d5, .slice b6 l6 d6, .slice none 0 0] [(.list 16 X.nr (fun i => aa (bI (X.rf i))), .slice b6 l6 d6)] ⟨q6, trivial⟩
 simp only [aM, Nat.reduceAdd, Nat.zero_add] at hX
 clear hb q6
 go_upto_region 6 with fail
 rw [<- hX]
 clear hX zf z0 z1 z2 z3 z4 z5 z6 z7 z8 z9 aR aV z12 z13 z14 g13
 obtain ⟨⟨y0, y1, y2, y3, y4, y5, y6, y7, y8, y9, y10, y11, y12, y13, y14⟩, -⟩ := G4.out.a.tc15
 go_wp2_with fail
 refine (ny X.ne X.ef a7 l7 c7 _ (HR.out.2.2.2.2.2.2.below G4.out.b) HZ.out.2.2.2.2).mono ?_
 rintro e w5 ⟨b7, d7, rfl, q7, hb⟩
 clear y0 y1 y2 y3 y4 y5 y6 y7 y8 y9 y10 y11 y12 y13 y14
 obtain ⟨⟨z0, z1, z2, z3, z4, z5, z6, z7, z8, z9, aR, aV, z12, z13, z14⟩, zf⟩ := (G4.out.o.below hb).tc15
 have g14 := zf 14
 obtain ⟨W5, hX⟩ : ∃ z, z = aM w5 (w.heap.size + 1 + 1) 14 [.slice b7 l7 d7] := ⟨_, rfl⟩
 have G5 := TS.st G4 hb hX #[.int .i64 X.fb.nw, .int .i64 X.fb.set.wt, .int .i64 X.fb.set.tr, .slice b1 l1 d1, .int .i64 X.fb.op.nx, .slice b2 l2 d2, .slice b3 l3 d3, .int .i64 X.fb.sk, .int .i64 X.fb.re, .int .i64 X.fb.fa, .int .i64 X.fb.se, .slice b4 l4 d4, .slice b5 l5 d5, .slice b6 l6 d6, .slice b7 l7 d7] [(.list 15 X.ne (fun i => aa (bJ (X.ef i))), .slice b7 l7 d7)] ⟨q7, trivial⟩
 simp only [aM, Nat.reduceAdd, Nat.zero_add] at hX
 clear hb q7
 go_upto_region 7 with fail
 rw [<- hX]
 clear hX zf z0 z1 z2 z3 z4 z5 z6 z7 z8 z9 aR aV z12 z13 z14 g14
 obtain ⟨V, hV⟩ : ∃ V, V = aM W5 (w.heap.size + 1) 0 (bt X b1 l1 d1 b2 l2 d2 b3 l3 d3 b4 l4 d4 b5 l5 d5 b6 l6 d6 b7 l7 d7) := ⟨_, rfl⟩
 have H9 := TS.fin G5 hV
 have hr : W5.rangeAt (w.heap.size + 1 + 1) 0 (bt X b1 l1 d1 b2 l2 d2 b3 l3 d3 b4 l4 d4 b5 l5 d5 b6 l6 d6 b7 l7 d7) := G5.out.o.all
 have ht := G5.out.z.there 0 15 (by simp)
 clear G5
 refine wp_region_lit ?_
 refine wpList_load_mid rfl 67 (.tmp 3) rfl (w.heap.size + 1 + 1) 0 rfl (bt X b1 l1 d1 b2 l2 d2 b3 l3 d3 b4 l4 d4 b5 l5 d5 b6 l6 d6 b7 l7 d7) _ hr underlying67 rfl (by kernel_rfl) ?_
 refine wpList_store_mid rfl 67 (.tmp 2) (.tmp 24) rfl (w.heap.size + 1) 0 (bt X b1 l1 d1 b2 l2 d2 b3 l3 d3 b4 l4 d4 b5 l5 d5 b6 l6 d6 b7 l7 d7).toArray rfl rfl ht (by kernel_rfl) (by simp [Value.oneCell']) ?_
 rw [bh, <- hV]
 clear hV hr ht
 refine wpList_nil ?_
 go_wp2
 obtain ⟨⟨y0, y1, y2, y3, y4, y5, y6, y7, y8, y9, y10, y11, y12, y13, y14⟩, -⟩ := H9.out.2.1.tc15
 obtain ⟨B, -, s1, s2, s3, s4, s5, s6, s7, -⟩ := H9.out
 refine bodyPost_ret (v := .agg (bt X b1 l1 d1 b2 l2 d2 b3 l3 d3 b4 l4 d4 b5 l5 d5 b6 l6 d6 b7 l7 d7).toArray) (by simp [results, results25, go_sem, y0, y1, y2, y3, y4, y5, y6, y7, y8, y9, y10, y11, y12, y13, y14]) rfl ⟨b1, d1, b2, d2, b3, d3, b4, d4, b5, d5, b6, d6, b7, d7, rfl, s1, s2, s3, s4, s5, s6, s7, B⟩
end Go.Proofs.YtplaoagcedgdfaaGreat
