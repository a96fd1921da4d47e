/- Texts that the proof needs, joined: Cz8 Cz4 Cz9 Mp1 Mt1 CmpA Mt2. -/
import Derived.Test.YtlhjiiifmfgnoaaGreatV6
import Derived.Test.YtlhjiiifmfgnoaaGreatV3
import Derived.Maps.RangeRun
import Derived.Carry
import Derived.ArgAppend
set_option linter.unusedVariables false
set_option linter.unusedSimpArgs false
set_option maxHeartbeats 8000000
set_option maxRecDepth 20000
namespace Go.Proofs.YtlhjiiifmfgnoaaGreat
open Go.RowKit Go.Joins
theorem Blk.wr {u : World} {g o : Nat} {t : TypeId} {cs cs' : Array Value} {vs : List Value} (h : Blk u g t cs) (he : wrA cs o vs = cs') : Blk (setL u g o vs) g t cs' := by
 rw [<- he]; exact Blk.stL _ _ h
theorem l13CopyPend_m (X : VD) (a1 : Option Addr) (l1 c1 : Nat) (a2 : Option Addr) (l2 c2 : Nat) (a3 : Option Addr) (l3 c3 : Nat) (a4 : Option Addr) (l4 c4 : Nat) (a5 : Option Addr) (l5 c5 : Nat) (w : World) (r1 : Rd w 0 (intsT X.q.ws) (.slice a1 l1 c1)) (r2 : Rd w 0 (boolsT X.q.bs) (.slice a2 l2 c2)) (r3 : Rd w 0 (ptsT X) (.slice a3 l3 c3)) (r4 : Rd w 0 (boolsT X.hs) (.slice a4 l4 c4)) (r5 : Rd w 0 (tlsT X) (.slice a5 l5 c5)) (hz : szT 13 (trs (dT X)) <= 1048576) :
 Calls Tryz.prog 46 #[.agg (dL X a1 l1 c1 a2 l2 c2 a3 l3 c3 a4 l4 c4 a5 l5 c5).toArray] w fun e w' => ∃ b1 d1 b2 d2 b3 d3 b4 d4 b5 d5, e = .returned (.agg (dL X b1 l1 d1 b2 l2 d2 b3 l3 d3 b4 l4 d4 b5 l5 d5).toArray) /\ Fl w' w.heap.size (dT X) (dL X b1 l1 d1 b2 l2 d2 b3 l3 d3 b4 l4 d4 b5 l5 d5) /\ Below w.heap.size w w' := by
 obtain ⟨B, hB⟩ : ∃ B, B = w.heap.size := ⟨_, rfl⟩
 obtain ⟨W, hW⟩ : ∃ W, W = (w.alloc (.cells (dL X a1 l1 c1 a2 l2 c2 a3 l3 c3 a4 l4 c4 a5 l5 c5).toArray 61)).alloc (.cells pd0 61) := ⟨_, rfl⟩
 have bW : Below w.heap.size w W := by rw [hW]; exact bel_nx (bel_alloc w _) (bel_alloc _ _)
 have HZ : Hid (szT 6 (trs (qT X.q)) <= 1048576 /\ (ptsT X).sz <= 1048576 /\ X.hs.length <= 1048576 /\ (tlsT X).sz <= 1048576) := by
  rw [szT_d] at hz
  show szT 6 (trs (qT X.q)) <= 1048576 /\ (Tr.list 8 X.np (fun i => trs (pT (X.pt i)))).sz <= 1048576 /\ X.hs.length <= 1048576 /\ (Tr.list 6 X.nt (fun i => trs (aT (X.tl i)))).sz <= 1048576
  try simp only [szT_q, szT_a, szT_p, szT_d, szT_t, true_and]
  omega
 have HR : Hid (Rd w 0 (intsT X.q.ws) (.slice a1 l1 c1) /\ Rd w 0 (boolsT X.q.bs) (.slice a2 l2 c2) /\ Rd w 0 (ptsT X) (.slice a3 l3 c3) /\ Rd w 0 (boolsT X.hs) (.slice a4 l4 c4) /\ Rd w 0 (tlsT X) (.slice a5 l5 c5)) := ⟨r1, r2, r3, r4, r5⟩
 have HB : Hid (w.heap.size = B /\ l3 = X.np /\ l5 = X.nt) := ⟨hB.symm, by obtain ⟨_, _, h9, _⟩ := r3; simp only [Value.slice.injEq] at h9; exact h9.2.1, by obtain ⟨_, _, h9, _⟩ := r5; simp only [Value.slice.injEq] at h9; exact h9.2.1⟩
 have G0 : Hid (Below w.heap.size w W /\ Blk W B 61 (dL X a1 l1 c1 a2 l2 c2 a3 l3 c3 a4 l4 c4 a5 l5 c5).toArray /\ Blk W (B + 1) 61 pd0 /\ B + 2 <= W.heap.size) := ⟨bW, by rw [hW, hB]; exact (Blk.new w _ _).below (bel_alloc _ _), by rw [hW, hB]; have := Blk.new (w.alloc (.cells (dL X a1 l1 c1 a2 l2 c2 a3 l3 c3 a4 l4 c4 a5 l5 c5).toArray 61)) pd0 61; simpa using this, by rw [hW, hB]; simp⟩
 clear bW r1 r2 r3 r4 r5 hz
 go_enter Tryz.func46, Tryz.ntmps46
 go_upto_region 1 with fail
 rw [<- hW]
 have hB1 : w.heap.size + 1 = B + 1 := by omega
 rw [hB1, <- hB]
 clear hW hB hB1
 obtain ⟨⟨y0, y1, y2, y3, y4, y5, y6, y7, y8, y9, y10, y11, y12⟩, yf⟩ := G0.out.2.1.tc13
 clear yf
 go_wp2_with fail
 refine (l10CopyReq_m X.q a1 l1 c1 a2 l2 c2 _ (HR.out.1.below G0.out.1) (HR.out.2.1.below G0.out.1) HZ.out.1).mono ?_
 rintro e w1 ⟨b1, d1, b2, d2, rfl, o9, bb⟩
 obtain ⟨⟨x0, x1, x2, x3, x4, x5, x6, x7, x8, x9, x10, x11, x12⟩, xf⟩ := (G0.out.2.1.below bb).tc13
 have xf4 := xf 4
 have xf5 := xf 5
 have xf6 := xf 6
 have xf7 := xf 7
 have xf8 := xf 8
 have xf9 := xf 9
 clear xf y0 y1 y2 y3 y4 y5 y6 y7 y8 y9 y10 y11 y12
 obtain ⟨V1, hV1⟩ : ∃ W9, W9 = setL w1 B 4 [.int .i64 X.q.kd, .int .i64 X.q.pl, .int .i64 X.q.n, .slice b1 l1 d1, .slice b2 l2 d2, .int .i64 X.q.wa] := ⟨_, rfl⟩
 have hg : w1.grownBy V1 (some B) := by rw [hV1]; exact setL_gw _ _ _
 have G1 : Hid (Below w.heap.size w V1 /\ Blk V1 B 61 (dL X b1 l1 d1 b2 l2 d2 a3 l3 c3 a4 l4 c4 a5 l5 c5).toArray /\ Blk V1 (B + 1) 61 pd0 /\ B + 2 <= V1.heap.size /\ Fl V1 (B + 2) (qT X.q) (qL X.q b1 l1 d1 b2 l2 d2)) := ⟨by rw [hV1]; exact setL_below (by have := HB.out.1; omega) _ _ _ (bel_nx G0.out.1 bb), by rw [hV1]; exact Blk.wr (G0.out.2.1.below bb) (by simp [wrA]), by rw [hV1]; exact Blk.stNe (by omega) _ _ (G0.out.2.2.1.below bb), by have := G0.out.2.2.2; have := bb.size; have := hg.size; omega, (o9.fl.mono (lo' := B + 2) G0.out.2.2.2).kept hg (by omega)⟩
 have hV : V1 = ((((((w1.setCell ⟨B, 4, none⟩ (.int .i64 X.q.kd)).setCell ⟨B, 5, none⟩ (.int .i64 X.q.pl)).setCell ⟨B, 6, none⟩ (.int .i64 X.q.n)).setCell ⟨B, 7, none⟩ (.slice b1 l1 d1)).setCell ⟨B, 8, none⟩ (.slice b2 l2 d2)).setCell ⟨B, 9, none⟩ (.int .i64 X.q.wa)) := hV1
 clear hV1 hg bb G0 o9
 go_upto_region 2 with fail
 rw [<- hV]
 clear hV x0 x1 x2 x3 x4 x5 x6 x7 x8 x9 x10 x11 x12 xf4 xf5 xf6 xf7 xf8 xf9
 obtain ⟨⟨y0, y1, y2, y3, y4, y5, y6, y7, y8, y9, y10, y11, y12⟩, yf⟩ := G1.out.2.1.tc13
 clear yf
 go_wp2_with fail
 refine (l13CopyParts_m X.np X.pt a3 l3 c3 _ (HR.out.2.2.1.below G1.out.1) HZ.out.2.1).mono ?_
 rintro e w2 ⟨v9, rfl, o9, bb⟩
 obtain ⟨b3, d3, rfl⟩ := o9.shape
 rw [show Value.slice b3 X.np d3 = Value.slice b3 l3 d3 by rw [HB.out.2.1]] at o9 ⊢
 obtain ⟨⟨x0, x1, x2, x3, x4, x5, x6, x7, x8, x9, x10, x11, x12⟩, xf⟩ := (G1.out.2.1.below bb).tc13
 have xf10 := xf 10
 clear xf y0 y1 y2 y3 y4 y5 y6 y7 y8 y9 y10 y11 y12
 obtain ⟨V2, hV2⟩ : ∃ W9, W9 = setL w2 B 10 [.slice b3 l3 d3] := ⟨_, rfl⟩
 have hg : w2.grownBy V2 (some B) := by rw [hV2]; exact setL_gw _ _ _
 have G2 : Hid (Below w.heap.size w V2 /\ Blk V2 B 61 (dL X b1 l1 d1 b2 l2 d2 b3 l3 d3 a4 l4 c4 a5 l5 c5).toArray /\ Blk V2 (B + 1) 61 pd0 /\ B + 2 <= V2.heap.size /\ Fl V2 (B + 2) (qT X.q) (qL X.q b1 l1 d1 b2 l2 d2) /\ Fl V2 (B + 2) [ptsT X] [.slice b3 l3 d3]) := ⟨by rw [hV2]; exact setL_below (by have := HB.out.1; omega) _ _ _ (bel_nx G1.out.1 bb), by rw [hV2]; exact Blk.wr (G1.out.2.1.below bb) (by simp [wrA]), by rw [hV2]; exact Blk.stNe (by omega) _ _ (G1.out.2.2.1.below bb), by have := G1.out.2.2.2.1; have := bb.size; have := hg.size; omega, (G1.out.2.2.2.2.below bb).kept hg (by omega), (o9.fl.mono (lo' := B + 2) G1.out.2.2.2.1).kept hg (by omega)⟩
 have hV : V2 = (w2.setCell ⟨B, 10, none⟩ (.slice b3 l3 d3)) := hV2
 clear hV2 hg bb G1 o9
 go_upto_region 3 with fail
 rw [<- hV]
 clear hV x0 x1 x2 x3 x4 x5 x6 x7 x8 x9 x10 x11 x12 xf10
 obtain ⟨⟨y0, y1, y2, y3, y4, y5, y6, y7, y8, y9, y10, y11, y12⟩, yf⟩ := (G2.out.2.1.below (bel_alloc V2 (.cells #[] 4))).tc13
 clear yf
 obtain ⟨a9, c9, h9, -, hm4, hs4⟩ := HR.out.2.2.2.1.bools
 simp only [Value.slice.injEq] at h9
 obtain ⟨ha4, hl4, hc4⟩ := h9
 have H4 : Hid (l4 = X.hs.length /\ SlB w a4 X.hs) := ⟨hl4, by rw [ha4]; exact hs4⟩
 clear hl4 hs4 hm4 ha4 hc4
 go_upto_region 4 with (at_builtin; refine wpList_appBO rfl (.tmp 11) (.tmp 13) rfl V2.heap.size (.slice (some ⟨V2.heap.size, 0, none⟩) 0 0) [] rfl (newB V2 _ (Nat.le_refl _)) a4 l4 c4 X.hs rfl H4.out.1 (H4.out.2.below (bel_nx G2.out.1 (bel_alloc _ _))) (by have := HZ.out.2.2.1; simp; omega) (by simp) ?_; intro v9 w3 o9 g9; have bb : Below V2.heap.size V2 w3 := (bel_alloc V2 _).grown g9 (by simp) (fun k hk => by simp [Value.ownBlock] at hk; omega); obtain ⟨b4, d4, l9, rfl, hl9⟩ := ownB_shape o9; rw [show Value.slice b4 l9 d4 = Value.slice b4 l4 d4 by rw [hl9, H4.out.1]; rfl] at o9 ⊢; obtain ⟨⟨x0, x1, x2, x3, x4, x5, x6, x7, x8, x9, x10, x11, x12⟩, xf⟩ := (G2.out.2.1.below bb).tc13; have xf11 := xf 11; clear xf y0 y1 y2 y3 y4 y5 y6 y7 y8 y9 y10 y11 y12 g9 hl9)
 obtain ⟨V3, hV3⟩ : ∃ W9, W9 = setL w3 B 11 [.slice b4 l4 d4] := ⟨_, rfl⟩
 have hg : w3.grownBy V3 (some B) := by rw [hV3]; exact setL_gw _ _ _
 obtain ⟨K9, f9, -, k9⟩ := OwnB.fit (show OwnB w3 V2.heap.size (.slice b4 l4 d4) X.hs from o9)
 have F9 : Fl w3 (B + 2) [boolsT X.hs] [.slice b4 l4 d4] := Fl.one f9 (fun b hb => Nat.le_trans G2.out.2.2.2.1 (k9 b hb).1)
 have G3 : Hid (Below w.heap.size w V3 /\ Blk V3 B 61 (dL X b1 l1 d1 b2 l2 d2 b3 l3 d3 b4 l4 d4 a5 l5 c5).toArray /\ Blk V3 (B + 1) 61 pd0 /\ B + 2 <= V3.heap.size /\ Fl V3 (B + 2) (qT X.q) (qL X.q b1 l1 d1 b2 l2 d2) /\ Fl V3 (B + 2) [ptsT X] [.slice b3 l3 d3] /\ Fl V3 (B + 2) [boolsT X.hs] [.slice b4 l4 d4]) := ⟨by rw [hV3]; exact setL_below (by have := HB.out.1; omega) _ _ _ (bel_nx G2.out.1 bb), by rw [hV3]; exact Blk.wr (G2.out.2.1.below bb) (by simp [wrA]), by rw [hV3]; exact Blk.stNe (by omega) _ _ (G2.out.2.2.1.below bb), by have := G2.out.2.2.2.1; have := bb.size; have := hg.size; omega, (G2.out.2.2.2.2.1.below bb).kept hg (by omega), (G2.out.2.2.2.2.2.below bb).kept hg (by omega), F9.kept hg (by omega)⟩
 have hV : V3 = (w3.setCell ⟨B, 11, none⟩ (.slice b4 l4 d4)) := hV3
 clear hV3 hg bb G2 o9 f9 k9 F9
 rw [<- hV]
 clear hV x0 x1 x2 x3 x4 x5 x6 x7 x8 x9 x10 x11 x12 xf11
 obtain ⟨⟨y0, y1, y2, y3, y4, y5, y6, y7, y8, y9, y10, y11, y12⟩, yf⟩ := G3.out.2.1.tc13
 clear yf
 go_wp2_with fail
 refine (l13CopyTold_m X.nt X.tl a5 l5 c5 _ (HR.out.2.2.2.2.below G3.out.1) HZ.out.2.2.2).mono ?_
 rintro e w4 ⟨v9, rfl, o9, bb⟩
 obtain ⟨b5, d5, rfl⟩ := o9.shape
 rw [show Value.slice b5 X.nt d5 = Value.slice b5 l5 d5 by rw [HB.out.2.2]] at o9 ⊢
 obtain ⟨⟨x0, x1, x2, x3, x4, x5, x6, x7, x8, x9, x10, x11, x12⟩, xf⟩ := (G3.out.2.1.below bb).tc13
 have xf12 := xf 12
 clear xf y0 y1 y2 y3 y4 y5 y6 y7 y8 y9 y10 y11 y12
 obtain ⟨V4, hV4⟩ : ∃ W9, W9 = setL w4 B 12 [.slice b5 l5 d5] := ⟨_, rfl⟩
 have hg : w4.grownBy V4 (some B) := by rw [hV4]; exact setL_gw _ _ _
 have G4 : Hid (Below w.heap.size w V4 /\ Blk V4 B 61 (dL X b1 l1 d1 b2 l2 d2 b3 l3 d3 b4 l4 d4 b5 l5 d5).toArray /\ Blk V4 (B + 1) 61 pd0 /\ B + 2 <= V4.heap.size /\ Fl V4 (B + 2) (qT X.q) (qL X.q b1 l1 d1 b2 l2 d2) /\ Fl V4 (B + 2) [ptsT X] [.slice b3 l3 d3] /\ Fl V4 (B + 2) [boolsT X.hs] [.slice b4 l4 d4] /\ Fl V4 (B + 2) [tlsT X] [.slice b5 l5 d5]) := ⟨by rw [hV4]; exact setL_below (by have := HB.out.1; omega) _ _ _ (bel_nx G3.out.1 bb), by rw [hV4]; exact Blk.wr (G3.out.2.1.below bb) (by simp [wrA]), by rw [hV4]; exact Blk.stNe (by omega) _ _ (G3.out.2.2.1.below bb), by have := G3.out.2.2.2.1; have := bb.size; have := hg.size; omega, (G3.out.2.2.2.2.1.below bb).kept hg (by omega), (G3.out.2.2.2.2.2.1.below bb).kept hg (by omega), (G3.out.2.2.2.2.2.2.below bb).kept hg (by omega), (o9.fl.mono (lo' := B + 2) G3.out.2.2.2.1).kept hg (by omega)⟩
 have hV : V4 = (w4.setCell ⟨B, 12, none⟩ (.slice b5 l5 d5)) := hV4
 clear hV4 hg bb G3 o9
 go_upto_region 5 with fail
 rw [<- hV]
 clear hV x0 x1 x2 x3 x4 x5 x6 x7 x8 x9 x10 x11 x12 xf12
 refine wp_region_lit ?_
 refine wpList_load_mid rfl 61 (.tmp 1) rfl B 0 rfl (dL X b1 l1 d1 b2 l2 d2 b3 l3 d3 b4 l4 d4 b5 l5 d5) _ G4.out.2.1.all Tryz.underlying61 rfl (by kernel_rfl) ?_
 refine wpList_store_mid rfl 61 (.tmp 2) (.tmp 20) rfl (B + 1) 0 (dL X b1 l1 d1 b2 l2 d2 b3 l3 d3 b4 l4 d4 b5 l5 d5).toArray rfl rfl (G4.out.2.2.1.there 0 13 (by simp)) (by kernel_rfl) (by simp [Value.oneCell']) ?_
 rw [setCells_L]
 refine wpList_nil ?_
 obtain ⟨W9, hW9⟩ : ∃ W9, W9 = setL V4 (B + 1) 0 (dL X b1 l1 d1 b2 l2 d2 b3 l3 d3 b4 l4 d4 b5 l5 d5) := ⟨_, rfl⟩
 have hg : V4.grownBy W9 (some (B + 1)) := by rw [hW9]; exact setL_gw _ _ _
 have HB9 : Blk W9 (B + 1) 61 (dL X b1 l1 d1 b2 l2 d2 b3 l3 d3 b4 l4 d4 b5 l5 d5).toArray := by rw [hW9]; exact Blk.wr G4.out.2.2.1 (by simp [wrA])
 have H9 : Hid (Fl W9 w.heap.size (dT X) (dL X b1 l1 d1 b2 l2 d2 b3 l3 d3 b4 l4 d4 b5 l5 d5) /\ Below w.heap.size w W9) := by
  refine ⟨?_, by rw [hW9]; exact setL_below (by have := HB.out.1; omega) _ _ _ G4.out.1⟩
  have j := (((G4.out.2.2.2.2.1.app (G4.out.2.2.2.2.2.1.app (G4.out.2.2.2.2.2.2.1.app G4.out.2.2.2.2.2.2.2))).leaf (.int .i64 X.un)).leaf (.int .i64 X.ta)).leaf (.int .i64 X.so) |>.leaf (.int .i64 X.id)
  exact (j.kept hg (by omega)).mono (by have := HB.out.1; omega)
 rw [<- hW9]
 clear hW9 hg
 go_wp2
 refine bodyPost_ret (v := .agg (dL X b1 l1 d1 b2 l2 d2 b3 l3 d3 b4 l4 d4 b5 l5 d5).toArray) (results_cell Tryz.results46 rfl (run_loadVar_mid _ _ _ 61 (dL X b1 l1 d1 b2 l2 d2 b3 l3 d3 b4 l4 d4 b5 l5 d5) _ HB9.all Tryz.underlying61 rfl (by kernel_rfl))) rfl ⟨b1, d1, b2, d2, b3, d3, b4, d4, b5, d5, rfl, H9.out.1, H9.out.2⟩
end Go.Proofs.YtlhjiiifmfgnoaaGreat
namespace Go.Proofs.YtlhjiiifmfgnoaaGreat
open Go.RowKit Go.Joins
theorem copiesPend_m (n : Nat) (f : Nat -> VD) (a : Option Addr) (n' cap : Nat) (w : World) (hs : Rd w 0 (.list 13 n (fun k => trs (dT (f k)))) (.slice a n' cap)) (hz : (Tr.list 13 n (fun k => trs (dT (f k)))).sz <= 1048576) :
 Calls Tryz.prog 55 #[.slice a n' cap, .func (.func 35) #[] #[]] w fun e w' => ∃ b d, e = .returned (.slice b n' d) /\ OwnS w' w.heap.size (.list 13 n (fun k => trs (dT (f k)))) (.slice b n' d) /\ Below w.heap.size w w' := by
 obtain ⟨a9, c9, h9, -, hn⟩ := hs.shape
 simp only [Value.slice.injEq] at h9
 obtain ⟨-, rfl, -⟩ := h9
 clear a9 c9
 have hn1 : n' <= 1048576 := by rw [Tr.sz_list] at hz; omega
 have HZ : Hid (∀ k, k < n' -> szT 13 (trs (dT (f k))) <= 1048576) := by
  show ∀ k, k < n' -> szT 13 (trs (dT (f k))) <= 1048576
  intro k hk
  rw [Tr.sz_list] at hz
  have := sumN_at (fun k => szT 13 (trs (dT (f k)))) hk
  omega
 have hmk := run_make_st (P := Tryz.prog) 33 61 (.agg #[.int .i64 0, .int .i64 0, .int .i64 0, .int .i64 0, .int .i64 0, .int .i64 0, .int .i64 0, .slice none 0 0, .slice none 0 0, .int .i64 0, .slice none 0 0, .slice none 0 0, .slice none 0 0]) 13 184 Tryz.underlying33 (by kernel_rfl) .i64 .i64 n' (by omega) (by omega)
 have HS : Hid (Rd w 0 (.list 13 n' (fun k => trs (dT (f k)))) (.slice a n' cap) /\ n' <= maxLen) := ⟨hs, hn⟩
 clear hs hz hn
 go_enter Tryz.func55, Tryz.ntmps55
 go_wp2
 clear hmk
 go_loopw [13] (fun i wr => ∃ (k : Nat), k <= n' /\ i = .int .i64 k /\ LsI wr w.heap.size 61 13 n' (fun i => dT (f i)) k /\ Below w.heap.size w wr) (fun i _ => n' - (intOf i).toNat)
 case atStart => exact ⟨0, Nat.zero_le _, rfl, LsI.start (RowS.made w (#[.int .i64 0, .int .i64 0, .int .i64 0, .int .i64 0, .int .i64 0, .int .i64 0, .int .i64 0, .slice none 0 0, .slice none 0 0, .int .i64 0, .slice none 0 0, .slice none 0 0, .slice none 0 0]).toList n' _ (by simp)), (Below.refl _ _).alloc (Nat.le_refl _) _⟩
 case round =>
  obtain ⟨k, hk, rfl, hrow, hb⟩ := hrel
  by_cases hlt : k < n'
  ·have hi : (k : Int) < (n' : Int) := by omega
   obtain ⟨b, off, vs, rfl, _, hb0, hlen, hr, hrd⟩ := (HS.out.1.below hb).at hlt
   obtain ⟨a1, c1, a2, c2, a3, c3, a4, c4, a5, c5, rfl, r1, r2, r3, r4, r5⟩ := VD.cells hrd hlen
   clear hlen hrd
   have d09 : wr.cell? ⟨b, off + k * 13, none⟩ = _ := hr 0 _ rfl
   have d19 : wr.cell? ⟨b, off + k * 13 + 1, none⟩ = _ := hr 1 _ rfl
   have d29 : wr.cell? ⟨b, off + k * 13 + 2, none⟩ = _ := hr 2 _ rfl
   have d39 : wr.cell? ⟨b, off + k * 13 + 3, none⟩ = _ := hr 3 _ rfl
   have d49 : wr.cell? ⟨b, off + k * 13 + 4, none⟩ = _ := hr 4 _ rfl
   have d59 : wr.cell? ⟨b, off + k * 13 + 5, none⟩ = _ := hr 5 _ rfl
   have d69 : wr.cell? ⟨b, off + k * 13 + 6, none⟩ = _ := hr 6 _ rfl
   have d79 : wr.cell? ⟨b, off + k * 13 + 7, none⟩ = _ := hr 7 _ rfl
   have d89 : wr.cell? ⟨b, off + k * 13 + 8, none⟩ = _ := hr 8 _ rfl
   have d99 : wr.cell? ⟨b, off + k * 13 + 9, none⟩ = _ := hr 9 _ rfl
   have d109 : wr.cell? ⟨b, off + k * 13 + 10, none⟩ = _ := hr 10 _ rfl
   have d119 : wr.cell? ⟨b, off + k * 13 + 11, none⟩ = _ := hr 11 _ rfl
   have d129 : wr.cell? ⟨b, off + k * 13 + 12, none⟩ = _ := hr 12 _ rfl
   have HK : Hid (LsI wr w.heap.size 61 13 n' (fun i => dT (f i)) k /\ True /\ Below w.heap.size w wr /\ Rd wr 0 (intsT (f k).q.ws) (.slice a1 ((f k).q.ws.length) c1) /\ Rd wr 0 (boolsT (f k).q.bs) (.slice a2 ((f k).q.bs.length) c2) /\ Rd wr 0 (.list 8 (f k).np (fun i => trs (pT ((f k).pt i)))) (.slice a3 ((f k).np) c3) /\ Rd wr 0 (boolsT (f k).hs) (.slice a4 ((f k).hs.length) c4) /\ Rd wr 0 (.list 6 (f k).nt (fun i => trs (aT ((f k).tl i)))) (.slice a5 ((f k).nt) c5)) := ⟨hrow, trivial, hb, r1, r2, r3, r4, r5⟩
   clear hrow hb hr hb0 r1 r2 r3 r4 r5
   go_wp2_with fail
   refine (copyPend_m (f k) a1 ((f k).q.ws.length) c1 a2 ((f k).q.bs.length) c2 a3 ((f k).np) c3 a4 ((f k).hs.length) c4 a5 ((f k).nt) c5 _ (HK.out.2.2.2.1.below (bel_alloc _ _)) (HK.out.2.2.2.2.1.below (bel_alloc _ _)) (HK.out.2.2.2.2.2.1.below (bel_alloc _ _)) (HK.out.2.2.2.2.2.2.1.below (bel_alloc _ _)) (HK.out.2.2.2.2.2.2.2.below (bel_alloc _ _)) (HZ.out k hlt)).mono ?_
   rintro e w1 ⟨b1, d1, b2, d2, b3, d3, b4, d4, b5, d5, rfl, q1, hb1⟩
   have hb1 := bel_nx (bel_alloc wr _) hb1
   have q1 := q1.mono (lo' := wr.heap.size) (by simp) (Nat.le_refl _)
   obtain ⟨F1, R1⟩ := (HK.out.1.cg (Cg.ofBelow (S := fun _ => False) hb1) (fun b h => h.elim)).row
   obtain ⟨rx0, ry0⟩ : ∃ v, w1.cell? ⟨w.heap.size, k * 13, none⟩ = some v := R1.ex hlt (j := 0) (by decide)
   obtain ⟨rx1, ry1⟩ : ∃ v, w1.cell? ⟨w.heap.size, k * 13 + 1, none⟩ = some v := R1.ex hlt (j := 1) (by decide)
   obtain ⟨rx2, ry2⟩ : ∃ v, w1.cell? ⟨w.heap.size, k * 13 + 2, none⟩ = some v := R1.ex hlt (j := 2) (by decide)
   obtain ⟨rx3, ry3⟩ : ∃ v, w1.cell? ⟨w.heap.size, k * 13 + 3, none⟩ = some v := R1.ex hlt (j := 3) (by decide)
   obtain ⟨rx4, ry4⟩ : ∃ v, w1.cell? ⟨w.heap.size, k * 13 + 4, none⟩ = some v := R1.ex hlt (j := 4) (by decide)
   obtain ⟨rx5, ry5⟩ : ∃ v, w1.cell? ⟨w.heap.size, k * 13 + 5, none⟩ = some v := R1.ex hlt (j := 5) (by decide)
   obtain ⟨rx6, ry6⟩ : ∃ v, w1.cell? ⟨w.heap.size, k * 13 + 6, none⟩ = some v := R1.ex hlt (j := 6) (by decide)
   obtain ⟨rx7, ry7⟩ : ∃ v, w1.cell? ⟨w.heap.size, k * 13 + 7, none⟩ = some v := R1.ex hlt (j := 7) (by decide)
   obtain ⟨rx8, ry8⟩ : ∃ v, w1.cell? ⟨w.heap.size, k * 13 + 8, none⟩ = some v := R1.ex hlt (j := 8) (by decide)
   obtain ⟨rx9, ry9⟩ : ∃ v, w1.cell? ⟨w.heap.size, k * 13 + 9, none⟩ = some v := R1.ex hlt (j := 9) (by decide)
   obtain ⟨rx10, ry10⟩ : ∃ v, w1.cell? ⟨w.heap.size, k * 13 + 10, none⟩ = some v := R1.ex hlt (j := 10) (by decide)
   obtain ⟨rx11, ry11⟩ : ∃ v, w1.cell? ⟨w.heap.size, k * 13 + 11, none⟩ = some v := R1.ex hlt (j := 11) (by decide)
   obtain ⟨rx12, ry12⟩ : ∃ v, w1.cell? ⟨w.heap.size, k * 13 + 12, none⟩ = some v := R1.ex hlt (j := 12) (by decide)
   obtain ⟨W2, hW2⟩ : ∃ W2, W2 = setL w1 w.heap.size (k * 13) (dL (f k) b1 ((f k).q.ws.length) d1 b2 ((f k).q.bs.length) d2 b3 ((f k).np) d3 b4 ((f k).hs.length) d4 b5 ((f k).nt) d5) := ⟨_, rfl⟩
   have H2 : Hid (LsI W2 w.heap.size 61 13 n' (fun i => dT (f i)) (k + 1) /\ Below w.heap.size w W2) := ⟨by rw [hW2]; exact HK.out.1.step (S := fun _ => False) hlt (Cg.ofBelow hb1) (fun b h => h.elim) q1 rfl, by rw [hW2]; exact setL_below (Nat.le_refl _) _ _ _ (bel_nx HK.out.2.2.1 hb1)⟩
   have hW2' : W2 = (((((((((((((w1.setCell ⟨w.heap.size, k * 13, none⟩ (.int .i64 (f k).id)).setCell ⟨w.heap.size, k * 13 + 1, none⟩ (.int .i64 (f k).so)).setCell ⟨w.heap.size, k * 13 + 2, none⟩ (.int .i64 (f k).ta)).setCell ⟨w.heap.size, k * 13 + 3, none⟩ (.int .i64 (f k).un)).setCell ⟨w.heap.size, k * 13 + 4, none⟩ (.int .i64 (f k).q.kd)).setCell ⟨w.heap.size, k * 13 + 5, none⟩ (.int .i64 (f k).q.pl)).setCell ⟨w.heap.size, k * 13 + 6, none⟩ (.int .i64 (f k).q.n)).setCell ⟨w.heap.size, k * 13 + 7, none⟩ (.slice b1 ((f k).q.ws.length) d1)).setCell ⟨w.heap.size, k * 13 + 8, none⟩ (.slice b2 ((f k).q.bs.length) d2)).setCell ⟨w.heap.size, k * 13 + 9, none⟩ (.int .i64 (f k).q.wa)).setCell ⟨w.heap.size, k * 13 + 10, none⟩ (.slice b3 ((f k).np) d3)).setCell ⟨w.heap.size, k * 13 + 11, none⟩ (.slice b4 ((f k).hs.length) d4)).setCell ⟨w.heap.size, k * 13 + 12, none⟩ (.slice b5 ((f k).nt) d5)) := by rw [hW2]; simp only [setL, Nat.reduceAdd, Nat.zero_add, Nat.add_zero, Nat.add_assoc]
   have HE : Hid (∀ j, w1.frozen? ⟨w.heap.size, j, none⟩ = false) := R1.fro
   have qf0 := HE.out (k * 13)
   have qf1 := HE.out (k * 13 + 1)
   have qf2 := HE.out (k * 13 + 2)
   have qf3 := HE.out (k * 13 + 3)
   have qf4 := HE.out (k * 13 + 4)
   have qf5 := HE.out (k * 13 + 5)
   have qf6 := HE.out (k * 13 + 6)
   have qf7 := HE.out (k * 13 + 7)
   have qf8 := HE.out (k * 13 + 8)
   have qf9 := HE.out (k * 13 + 9)
   have qf10 := HE.out (k * 13 + 10)
   have qf11 := HE.out (k * 13 + 11)
   have qf12 := HE.out (k * 13 + 12)
   clear R1 hb1 HK d09 d19 d29 d39 d49 d59 d69 d79 d89 d99 d109 d119 d129 hW2 HE q1
   go_wp2
   rw [<- hW2']
   clear hW2'
   go_roundw
   case rel =>
    exact ⟨k + 1, by omega, by go_num, H2.out.1, H2.out.2⟩
   case measure => simp [intOf]; omega
  have hi : ¬ (k : Int) < (n' : Int) := by omega
  have e9 : k = n' := by omega
  subst e9
  have HR : Hid (LsI wr w.heap.size 61 13 k (fun i => dT (f i)) k /\ Below w.heap.size w wr) := ⟨hrow, hb⟩
  clear hrow hb
  go_wp2
  go_ret
  exact ⟨_, _, rfl, HR.out.1.done (Nat.le_refl _) HS.out.2 (fun _ _ => rfl), HR.out.2⟩
def CtP (w : World) (B : Nat) (X : VT) (l1 : Nat) (u : World) : Prop :=
 ∃ b1 d1, Blk u (B + 1) 35 (tL X b1 l1 d1).toArray /\ Below w.heap.size w u /\ Own1 u w.heap.size u.heap.size (tT X) (tL X b1 l1 d1)
theorem ctA {w u : World} {B : Nat} {X : VT} {l1 : Nat} {b1 : Option Addr} {d1 : Nat} (hR : Blk u (B + 1) 35 #[.int .i64 0, .slice none 0 0]) (hb : Below w.heap.size w u) (hBw : w.heap.size <= B) (hs : B + 2 <= u.heap.size) (o1 : Own1 u (B + 2) u.heap.size [.list 13 X.m (fun i => trs (dT (X.f i)))] [.slice b1 l1 d1]) :
 CtP w B X l1 (setL u (B + 1) 0 (tL X b1 l1 d1)) := by
 have g1 : u.grownBy (setL u (B + 1) 0 (tL X b1 l1 d1)) (some (B + 1)) := setL_gw _ _ _
 have s1 := g1.size
 refine ⟨b1, d1, ?_, setL_below (by omega) _ _ _ hb, Own1.leaf (.int .i64 X.nx) ((o1.kept g1 (by omega) (Nat.le_refl _)).mono (by omega) s1) (by omega)⟩
 have h9 := Blk.stL (tL X b1 l1 d1) 0 hR
 rw [show wrA #[.int .i64 0, .slice none 0 0] 0 (tL X b1 l1 d1) = (tL X b1 l1 d1).toArray from (by simp [wrA])] at h9
 exact h9
theorem copyTable_m (X : VT) (a1 : Option Addr) (l1 c1 : Nat) (w : World) (r1 : Rd w 0 (.list 13 X.m (fun i => trs (dT (X.f i)))) (.slice a1 l1 c1)) (hz : szT 2 (trs (tT X)) <= 1048576) :
 Calls Tryz.prog 33 #[.agg (tL X a1 l1 c1).toArray] w fun e w' => ∃ b1 d1, e = .returned (.agg (tL X b1 l1 d1).toArray) /\ Own1 w' w.heap.size w'.heap.size (tT X) (tL X b1 l1 d1) /\ Below w.heap.size w w' := by
 obtain ⟨B, hB⟩ : ∃ B, B = w.heap.size := ⟨_, rfl⟩
 obtain ⟨W, hW⟩ : ∃ W, W = (w.alloc (.cells (tL X a1 l1 c1).toArray 35)).alloc (.cells #[.int .i64 0, .slice none 0 0] 35) := ⟨_, rfl⟩
 have bW : Below w.heap.size w W := by rw [hW]; exact bel_nx (bel_alloc w _) (bel_alloc _ _)
 have HZ : Hid ((Tr.list 13 X.m (fun i => trs (dT (X.f i)))).sz <= 1048576) := by
  rw [szT_t] at hz
  exact hz
 have HW : Hid (Below w.heap.size w W /\ Blk W B 35 (tL X a1 l1 c1).toArray /\ Blk W (B + 1) 35 #[.int .i64 0, .slice none 0 0] /\ w.heap.size <= B /\ B + 2 <= W.heap.size /\ Rd W 0 (.list 13 X.m (fun i => trs (dT (X.f i)))) (.slice a1 l1 c1)) := ⟨bW, by rw [hW, hB]; exact (Blk.new w _ _).below (bel_alloc _ _), by rw [hW, hB]; have := Blk.new (w.alloc (.cells (tL X a1 l1 c1).toArray 35)) #[.int .i64 0, .slice none 0 0] 35; simpa using this, by omega, by rw [hW, hB]; simp, r1.below bW⟩
 clear bW r1 hz
 go_enter Tryz.func33, Tryz.ntmps33
 go_upto_region 1 with fail
 rw [<- hW]
 have hB1 : w.heap.size + 1 = B + 1 := by omega
 rw [hB1, <- hB]
 clear hW hB hB1
 obtain ⟨⟨y0, y1⟩, yf⟩ := HW.out.2.1.tc2
 clear yf
 go_cut [] (fun wx => CtP w B X l1 wx)
 case first =>
  go_region_with (go_at_call 55; refine (copiesPend_m X.m X.f a1 l1 c1 _ (HW.out.2.2.2.2.2.below (by first | exact Below.refl _ _ | exact (Below.refl _ _).drew | exact (Below.refl _ _).drew.drew)) HZ.out).mono ?_; rintro e w1 ⟨b1, d1, rfl, O1', b1'⟩; have H1 : Hid (Below W.heap.size W w1 /\ Own1 w1 (B + 2) w1.heap.size [.list 13 X.m (fun i => trs (dT (X.f i)))] [.slice b1 l1 d1]) := (by have b9 : Below W.heap.size W w1 := bel_nx (by first | exact Below.refl _ _ | exact (Below.refl _ _).drew | exact (Below.refl _ _).drew.drew) b1'; exact ⟨b9, (Own1.one O1').mono HW.out.2.2.2.2.1 (Nat.le_refl _)⟩); clear O1' b1'; obtain ⟨⟨z0, z1⟩, zf⟩ := (HW.out.2.1.below H1.out.1).tc2; clear zf; obtain ⟨⟨x0, x1⟩, xf⟩ := (HW.out.2.2.1.below H1.out.1).tc2; have xf0 := xf 0; have xf1 := xf 1; clear xf)
  all_goals (go_wp2_with fail; go_meet; exact ctA (HW.out.2.2.1.below H1.out.1) (bel_nx HW.out.1 H1.out.1) HW.out.2.2.2.1 (Nat.le_trans HW.out.2.2.2.2.1 H1.out.1.size) H1.out.2)
 case rest =>
 obtain ⟨b1, d1, R1, q1, o1⟩ := hcut
 have H9 : Hid _ := And.intro o1 q1
 clear o1 q1
 obtain ⟨⟨x0, x1⟩, xf⟩ := R1.tc2
 clear xf R1 y0 y1
 go_wp2
 refine bodyPost_ret (v := .agg (tL X b1 l1 d1).toArray) (by simp [results, Tryz.results33, go_sem, x0, x1]) rfl ⟨b1, d1, rfl, H9.out.1, H9.out.2⟩
end Go.Proofs.YtlhjiiifmfgnoaaGreat
namespace Go.Proofs.YtlhjiiifmfgnoaaGreat
open Go.RowKit Go.Joins
abbrev tz : Array Value := #[.int .i64 0, .slice none 0 0]
theorem LsG.keptLo {w w' : World} {base : Nat} {e : TypeId} {s n g : Nat} {v : Value} {f : Nat -> List Tr} (h : LsG w base e s v n f) (hg : w.grownBy w' (some g)) (hl : g < base) : LsG w' base e s v n f := by
 obtain ⟨F, h1, h2⟩ := h
 refine ⟨F, World.ownsRow.kept h1 hg ?_, fun k hk => ⟨(h2 k hk).1, ?_⟩⟩
 ·cases e9 : v.ownBlock with
  | none => exact .inl rfl
  | some k => exact .inr (fun q => by have := (World.ownsRow.lt h1 k e9).1; have := Option.some.inj q; omega)
 obtain ⟨K, hK⟩ := (h2 k hk).2
 exact ⟨K, fun i u hu => ⟨(hK i u hu).1.same hg.size (fun b hb => hg.block b ((hK i u hu).1.lt hb) (fun q => by have := ((hK i u hu).2 b hb).1; have := Option.some.inj q; omega)), (hK i u hu).2⟩⟩
theorem LsG.mono {w : World} {base base' : Nat} {e : TypeId} {s n : Nat} {v : Value} {f : Nat -> List Tr} (h : LsG w base e s v n f) (hl : base' <= base) : LsG w base' e s v n f := by
 obtain ⟨F, h1, h2⟩ := h
 refine ⟨F, ⟨h1.1, ?_⟩, fun k hk => ⟨(h2 k hk).1, ?_⟩⟩
 ·rcases h1.2 with q | ⟨g, cap, cur, q1, q2, q3⟩
  ·exact .inl q
  exact .inr ⟨g, cap, cur, q1, Nat.le_trans hl q2, q3⟩
 obtain ⟨K, hK⟩ := (h2 k hk).2
 exact ⟨K, fun i u hu => ⟨(hK i u hu).1, fun b hb => ⟨Nat.le_trans hl ((hK i u hu).2 b hb).1, ((hK i u hu).2 b hb).2⟩⟩⟩
theorem LsG.blk {w w' : World} {base b : Nat} {e t : TypeId} {s n : Nat} {v : Value} {f : Nat -> List Tr} {cs : Array Value} (h : LsG w base e s v n f) (hk : Blk w b t cs) (hg : w.grownBy w' v.ownBlock) (ht : t ≠ e) : Blk w' b t cs := by
 obtain ⟨F, h1, h2⟩ := h
 have hlt := hk.lt
 unfold Blk at hk ⊢
 rw [hg.block b hlt (fun q => ?_)]
 ·exact hk
 obtain ⟨c9, h9⟩ := row_ex h1 q.symm
 unfold Blk at h9
 rw [hk] at h9
 simp at h9
 exact ht h9.2
theorem run_bs1D (X : VD) (b1 : Option Addr) (l1 d1 : Nat) (b2 : Option Addr) (l2 d2 : Nat) (b3 : Option Addr) (l3 d3 : Nat) (b4 : Option Addr) (l4 d4 : Nat) (b5 : Option Addr) (l5 d5 : Nat) (w : World) : (Instr.buildSlice 33 1 #[(0, .agg (dL X b1 l1 d1 b2 l2 d2 b3 l3 d3 b4 l4 d4 b5 l5 d5).toArray)]).run Tryz.prog w = .ok (.slice (some ⟨w.heap.size, 0, none⟩) 1 1) (w.alloc (.cells (dL X b1 l1 d1 b2 l2 d2 b3 l3 d3 b4 l4 d4 b5 l5 d5).toArray 61)) := by kernel_rfl
theorem l13Copy_m (nx : Int) (n : Nat) (f : Nat -> VD) (a : Option Addr) (n' cap : Nat) (w : World) (hs : Rd w 0 (.list 13 n (fun k => trs (dT (f k)))) (.slice a n' cap)) (hz : (Tr.list 13 n (fun k => trs (dT (f k)))).sz <= 1048576) :
 Calls Tryz.prog 23 #[.agg #[.int .i64 nx, .slice a n' cap]] w fun e w' => ∃ p q, e = .returned (.agg #[.int .i64 nx, .slice p n' q]) /\ LsG w' w.heap.size 61 13 (.slice p n' q) n (fun k => dT (f k)) /\ Below w.heap.size w w' := by
 obtain ⟨a9, c9, h9, -, hn⟩ := hs.shape
 simp only [Value.slice.injEq] at h9
 obtain ⟨-, rfl, -⟩ := h9
 clear a9 c9
 have hn1 : n' <= 1048576 := by rw [Tr.sz_list] at hz; omega
 have HZ : Hid (∀ k, k < n' -> szT 13 (trs (dT (f k))) <= 1048576) := by
  show ∀ k, k < n' -> szT 13 (trs (dT (f k))) <= 1048576
  intro k hk
  rw [Tr.sz_list] at hz
  have := sumN_at (fun k => szT 13 (trs (dT (f k)))) hk
  omega
 obtain ⟨B, hB⟩ : ∃ B, B = w.heap.size := ⟨_, rfl⟩
 have HB : Hid (w.heap.size = B) := hB.symm
 obtain ⟨W, hW⟩ : ∃ W, W = ((w.alloc (.cells #[.int .i64 nx, .slice a n' cap] 35)).alloc (.cells tz 35)).alloc (.cells #[.int .i64 nx, .slice none 0 0] 35) := ⟨_, rfl⟩
 have HS : Hid (Rd w 0 (.list 13 n' (fun k => trs (dT (f k)))) (.slice a n' cap) /\ n' <= maxLen) := ⟨hs, hn⟩
 have G0 : Hid (LsG W (B + 3) 61 13 (.slice none 0 0) 0 (fun i => dT (f i)) /\ Blk W (B + 2) 35 #[.int .i64 nx, .slice none 0 0] /\ Blk W B 35 #[.int .i64 nx, .slice a n' cap] /\ Blk W (B + 1) 35 tz /\ Below w.heap.size w W /\ B + 3 <= W.heap.size) := by
  refine ⟨LsG.nil _ _ _ _ _, ?_, ?_, ?_, ?_, ?_⟩
  ·rw [hW, hB]; have := Blk.new ((w.alloc (.cells #[.int .i64 nx, .slice a n' cap] 35)).alloc (.cells tz 35)) #[.int .i64 nx, .slice none 0 0] 35; simpa using this
  ·rw [hW, hB]; exact ((Blk.new w _ _).below (bel_alloc _ _)).below (bel_alloc _ _)
  ·rw [hW, hB]; have := (Blk.new (w.alloc (.cells #[.int .i64 nx, .slice a n' cap] 35)) tz 35).below (bel_alloc _ (.cells #[.int .i64 nx, .slice none 0 0] 35)); simpa using this
  ·rw [hW]; exact bel_nx (bel_nx (bel_alloc w _) (bel_alloc _ _)) (bel_alloc _ _)
  rw [hW, hB]; simp
 clear hs hz hn
 go_enter Tryz.func23, Tryz.ntmps23
 go_upto_region 2 with fail
 have hB1 : w.heap.size + 1 = B + 1 := by omega
 have hB2 : w.heap.size + 1 + 1 = B + 2 := by omega
 rw [<- hW, hB2, hB1, <- hB]
 clear hW hB hB1 hB2
 go_wp2
 go_loopw [4] (fun i wr => ∃ (k : Nat), k <= n' /\ i = .int .i64 k /\ ∃ p3 q3, LsG wr (B + 3) 61 13 (.slice p3 k q3) k (fun i => dT (f i)) /\ Blk wr (B + 2) 35 #[.int .i64 nx, .slice p3 k q3] /\ Blk wr B 35 #[.int .i64 nx, .slice a n' cap] /\ Blk wr (B + 1) 35 tz /\ Below w.heap.size w wr /\ B + 3 <= wr.heap.size) (fun i _ => n' - (intOf i).toNat)
 case atStart => exact ⟨0, Nat.zero_le _, rfl, none, 0, G0.out⟩
 case round =>
  obtain ⟨k, hk, rfl, p3, q3, HH⟩ := hrel
  by_cases hlt : k < n'
  ·have hi : (k : Int) < (n' : Int) := by omega
   obtain ⟨b, off, vs, rfl, _, hb0, hlen, hr, hrd⟩ := (HS.out.1.below HH.2.2.2.2.1).at hlt
   obtain ⟨a1, c1, a2, c2, a3, c3, a4, c4, a5, c5, rfl, r1, r2, r3, r4, r5⟩ := VD.cells hrd hlen
   have HR : Hid (wr.rangeAt b (off + k * 13) (dL (f k) a1 ((f k).q.ws.length) c1 a2 ((f k).q.bs.length) c2 a3 ((f k).np) c3 a4 ((f k).hs.length) c4 a5 ((f k).nt) c5) /\ b < wr.heap.size) := ⟨hr, hb0⟩
   have HE : Hid (Rd wr 0 (intsT (f k).q.ws) (.slice a1 ((f k).q.ws.length) c1) /\ Rd wr 0 (boolsT (f k).q.bs) (.slice a2 ((f k).q.bs.length) c2) /\ Rd wr 0 (ptsT (f k)) (.slice a3 ((f k).np) c3) /\ Rd wr 0 (boolsT (f k).hs) (.slice a4 ((f k).hs.length) c4) /\ Rd wr 0 (tlsT (f k)) (.slice a5 ((f k).nt) c5) /\ szT 13 (trs (dT (f k))) <= 1048576) := ⟨r1, r2, r3, r4, r5, HZ.out k hlt⟩
   have HK : Hid (_) := HH
   obtain ⟨⟨y0, y1⟩, yf⟩ := HH.2.2.1.tc2
   clear HH hr hb0 r1 r2 r3 r4 r5 hlen hrd yf G0
   go_upto_region 5 with fail
   clear y0 y1
   try go_simp
   refine wp_region_any (by kernel_rfl) ?_
   refine wpAny_tl 9 (fun u => Below wr.heap.size wr u) (fun j σ u => match j with
    | 9 => ∃ p4 q4 u0, σ 24 = .slice p4 (k + 1) q4 /\ LsG u (B + 3) 61 13 (.slice p4 (k + 1) q4) (k + 1) (fun i => dT (f i)) /\ Below wr.heap.size wr u0 /\ u0.grownBy u (Value.slice p3 k q3).ownBlock
    | 10 => (∃ p4 q4 u0, σ 24 = .slice p4 (k + 1) q4 /\ LsG u (B + 3) 61 13 (.slice p4 (k + 1) q4) (k + 1) (fun i => dT (f i)) /\ Below wr.heap.size wr u0 /\ u0.grownBy u (Value.slice p3 k q3).ownBlock) /\ σ 25 = .pointer (some ⟨B + 2, 1, none⟩)
    | _ => ∃ p4 q4 u0 u1, LsG u1 (B + 3) 61 13 (.slice p4 (k + 1) q4) (k + 1) (fun i => dT (f i)) /\ Below wr.heap.size wr u0 /\ u0.grownBy u1 (Value.slice p3 k q3).ownBlock /\ u = setL u1 (B + 2) 1 [.slice p4 (k + 1) q4]) (fun i v u => match i with
    | 0 => v = .pointer (some ⟨(B + 2), 1, none⟩)
    | 1 => v = .slice p3 k q3
    | 2 => v = .pointer (some ⟨B, 1, none⟩)
    | 3 => v = .slice (some ⟨b, off, none⟩) n' cap
    | 4 => v = .int .i64 (k : Int)
    | 5 => v = .pointer (some ⟨b, off + k * 13, none⟩)
    | 6 => v = .agg ((dL (f k) a1 ((f k).q.ws.length) c1 a2 ((f k).q.bs.length) c2 a3 ((f k).np) c3 a4 ((f k).hs.length) c4 a5 ((f k).nt) c5)).toArray
    | 7 => ∃ b1 d1 b2 d2 b3 d3 b4 d4 b5 d5, v = .agg (dL (f k) b1 ((f k).q.ws.length) d1 b2 ((f k).q.bs.length) d2 b3 ((f k).np) d3 b4 ((f k).hs.length) d4 b5 ((f k).nt) d5).toArray /\ Fl u wr.heap.size (dT (f k)) (dL (f k) b1 ((f k).q.ws.length) d1 b2 ((f k).q.bs.length) d2 b3 ((f k).np) d3 b4 ((f k).hs.length) d4 b5 ((f k).nt) d5)
    | 8 => ∃ c b1 d1 b2 d2 b3 d3 b4 d4 b5 d5, v = .slice (some ⟨c, 0, none⟩) 1 1 /\ Blk u c 61 (dL (f k) b1 ((f k).q.ws.length) d1 b2 ((f k).q.bs.length) d2 b3 ((f k).np) d3 b4 ((f k).hs.length) d4 b5 ((f k).nt) d5).toArray /\ Fl u wr.heap.size (dT (f k)) (dL (f k) b1 ((f k).q.ws.length) d1 b2 ((f k).q.bs.length) d2 b3 ((f k).np) d3 b4 ((f k).hs.length) d4 b5 ((f k).nt) d5)
    | _ => True) (by kernel_rfl) (by kernel_rfl) (by decide) (by kernel_rfl) (fun u u' h hb => bel_nx h hb) ?_ (by first | exact Below.refl _ _ | exact (Below.refl _ _).drew) ?_ ?_ ?_ ?_ _ _ rfl (by decide) (fun i => by simp [Array.getD]; try (split <;> rfl))
   ·intro i v u u' h hb
    match i, h with
    | 0, h => exact h
    | 1, h => exact h
    | 2, h => exact h
    | 3, h => exact h
    | 4, h => exact h
    | 5, h => exact h
    | 6, h => exact h
    | 7, ⟨b1, d1, b2, d2, b3, d3, b4, d4, b5, d5, e, h2⟩ => exact ⟨b1, d1, b2, d2, b3, d3, b4, d4, b5, d5, e, h2.below hb⟩
    | 8, ⟨c, b1, d1, b2, d2, b3, d3, b4, d4, b5, d5, e, kb, h2⟩ => exact ⟨c, b1, d1, b2, d2, b3, d3, b4, d4, b5, d5, e, kb.below hb, h2.below hb⟩
    | _ + 9, _ => trivial
   rotate_left
   ·intro u i o ρ hi hR ho hρ hc hf hd
    obtain rfl | rfl | rfl | rfl | rfl | rfl | rfl | rfl | rfl : i = 0 \/ i = 1 \/ i = 2 \/ i = 3 \/ i = 4 \/ i = 5 \/ i = 6 \/ i = 7 \/ i = 8 := by omega
    all_goals (simp only [List.getElem?_toArray, List.getElem?_cons_zero, List.getElem?_cons_succ, Option.some.injEq] at ho; subst ho)
    ·have s3 : ρ (.tmp 3) = .pointer (some ⟨(B + 2), 0, none⟩) := (hρ 3 (by kernel_rfl)).trans rfl
     exact .inl ⟨rfl, .inl ⟨.pointer (some ⟨(B + 2), 1, none⟩), u, run_field_op rfl s3 (by go_simp), rfl, Below.refl _ _⟩⟩
    ·have h0 : ρ (.tmp 15) = .pointer (some ⟨(B + 2), 1, none⟩) := hd ⟨0, .data⟩ (by simp) rfl 15 rfl
     have y9 : u.cell? ⟨(B + 2), 1, none⟩ = some (.slice p3 k q3) := (HK.out.2.1.below hR).rng 1 _ rfl
     have hr : (Instr.loadAt 33 (.pointer (some ⟨(B + 2), 1, none⟩))).run Tryz.prog u = .ok (.slice p3 k q3) u := by go_simp
     exact .inl ⟨rfl, .inl ⟨.slice p3 k q3, u, run_load_op rfl h0 hr, rfl, Below.refl _ _⟩⟩
    ·have s1 : ρ (.tmp 1) = .pointer (some ⟨B, 0, none⟩) := (hρ 1 (by kernel_rfl)).trans rfl
     exact .inl ⟨rfl, .inl ⟨.pointer (some ⟨B, 1, none⟩), u, run_field_op rfl s1 (by go_simp), rfl, Below.refl _ _⟩⟩
    ·have h2 : ρ (.tmp 17) = .pointer (some ⟨B, 1, none⟩) := hd ⟨2, .data⟩ (by simp) rfl 17 rfl
     have y9 : u.cell? ⟨B, 1, none⟩ = some (.slice (some ⟨b, off, none⟩) n' cap) := (HK.out.2.2.1.below hR).rng 1 _ rfl
     have hr : (Instr.loadAt 33 (.pointer (some ⟨B, 1, none⟩))).run Tryz.prog u = .ok (.slice (some ⟨b, off, none⟩) n' cap) u := by go_simp
     exact .inl ⟨rfl, .inl ⟨.slice (some ⟨b, off, none⟩) n' cap, u, run_load_op rfl h2 hr, rfl, Below.refl _ _⟩⟩
    ·have s4 : ρ (.tmp 4) = .int .i64 (k : Int) := (hρ 4 (by kernel_rfl)).trans rfl
     exact .inl ⟨rfl, .inl ⟨_, u, rfl, s4, Below.refl _ _⟩⟩
    ·have h3 : ρ (.tmp 18) = .slice (some ⟨b, off, none⟩) n' cap := hd ⟨3, .data⟩ (by simp) rfl 18 rfl
     have h4 : ρ (.tmp 19) = .int .i64 (k : Int) := hd ⟨4, .data⟩ (by simp) rfl 19 rfl
     exact .inl ⟨rfl, .inl ⟨.pointer (some ⟨b, off + k * 13, none⟩), u, run_index_op rfl h3 h4 (by go_simp), rfl, Below.refl _ _⟩⟩
    ·have h5 : ρ (.tmp 20) = .pointer (some ⟨b, off + k * 13, none⟩) := hd ⟨5, .data⟩ (by simp) rfl 20 rfl
     have hr : (Instr.loadAt 61 (.pointer (some ⟨b, off + k * 13, none⟩))).run Tryz.prog u = .ok (.agg ((dL (f k) a1 ((f k).q.ws.length) c1 a2 ((f k).q.bs.length) c2 a3 ((f k).np) c3 a4 ((f k).hs.length) c4 a5 ((f k).nt) c5)).toArray) u := run_loadAt_mid u b (off + k * 13) 61 ((dL (f k) a1 ((f k).q.ws.length) c1 a2 ((f k).q.bs.length) c2 a3 ((f k).np) c3 a4 ((f k).hs.length) c4 a5 ((f k).nt) c5)) _ (rangeAt_below HR.out.1 HR.out.2 hR) Tryz.underlying61 rfl (by kernel_rfl)
     exact .inl ⟨rfl, .inl ⟨.agg ((dL (f k) a1 ((f k).q.ws.length) c1 a2 ((f k).q.bs.length) c2 a3 ((f k).np) c3 a4 ((f k).hs.length) c4 a5 ((f k).nt) c5)).toArray, u, run_load_op rfl h5 hr, rfl, Below.refl _ _⟩⟩
    ·have h6 : ρ (.tmp 21) = .agg (dL (f k) a1 ((f k).q.ws.length) c1 a2 ((f k).q.bs.length) c2 a3 ((f k).np) c3 a4 ((f k).hs.length) c4 a5 ((f k).nt) c5).toArray := hd ⟨6, .data⟩ (by simp) rfl 21 rfl
     refine .inl ⟨rfl, .inr ⟨_, _, run_call_op rfl (hf _) (args := #[.agg (dL (f k) a1 ((f k).q.ws.length) c1 a2 ((f k).q.bs.length) c2 a3 ((f k).np) c3 a4 ((f k).hs.length) c4 a5 ((f k).nt) c5).toArray]) (by simp [h6]) (by kernel_rfl), ?_⟩⟩
     refine (l13CopyPend_m (f k) a1 _ c1 a2 _ c2 a3 _ c3 a4 _ c4 a5 _ c5 _ (HE.out.1.below hR) (HE.out.2.1.below hR) (HE.out.2.2.1.below hR) (HE.out.2.2.2.1.below hR) (HE.out.2.2.2.2.1.below hR) HE.out.2.2.2.2.2).mono ?_
     rintro e u' ⟨b1, d1, b2, d2, b3, d3, b4, d4, b5, d5, he, o1, b'⟩
     exact ⟨_, he, ⟨b1, d1, b2, d2, b3, d3, b4, d4, b5, d5, rfl, o1.mono hR.size⟩, b'⟩
    obtain ⟨b1, d1, b2, d2, b3, d3, b4, d4, b5, d5, h7, ho2⟩ : ∃ b1 d1 b2 d2 b3 d3 b4 d4 b5 d5, ρ (.tmp 22) = .agg (dL (f k) b1 ((f k).q.ws.length) d1 b2 ((f k).q.bs.length) d2 b3 ((f k).np) d3 b4 ((f k).hs.length) d4 b5 ((f k).nt) d5).toArray /\ Fl u wr.heap.size (dT (f k)) (dL (f k) b1 ((f k).q.ws.length) d1 b2 ((f k).q.bs.length) d2 b3 ((f k).np) d3 b4 ((f k).hs.length) d4 b5 ((f k).nt) d5) := hd ⟨7, .data⟩ (by simp) rfl 22 rfl
    exact .inl ⟨rfl, .inl ⟨_, _, run_build_op rfl (qs := #[(0, .agg (dL (f k) b1 ((f k).q.ws.length) d1 b2 ((f k).q.bs.length) d2 b3 ((f k).np) d3 b4 ((f k).hs.length) d4 b5 ((f k).nt) d5).toArray)]) (by simp [h7]) (run_bs1D (f k) b1 _ d1 b2 _ d2 b3 _ d3 b4 _ d4 b5 _ d5 u), ⟨_, b1, d1, b2, d2, b3, d3, b4, d4, b5, d5, rfl, Blk.new _ _ _, ho2.below (bel_alloc _ _)⟩, (Below.refl _ _).alloc (Nat.le_refl _) _⟩⟩
   ·intro u o ρ hR ho hρ hc hf hv
    simp only [List.getElem?_toArray, List.getElem?_cons_zero, List.getElem?_cons_succ, Option.some.injEq] at ho
    subst ho
    have h1 : ρ (.tmp 16) = .slice p3 k q3 := hv 1 16 (by decide) rfl
    obtain ⟨c, b1, d1, b2, d2, b3, d3, b4, d4, b5, d5, h8, kb, ho2⟩ : ∃ c b1 d1 b2 d2 b3 d3 b4 d4 b5 d5, ρ (.tmp 23) = .slice (some ⟨c, 0, none⟩) 1 1 /\ Blk u c 61 (dL (f k) b1 ((f k).q.ws.length) d1 b2 ((f k).q.bs.length) d2 b3 ((f k).np) d3 b4 ((f k).hs.length) d4 b5 ((f k).nt) d5).toArray /\ Fl u wr.heap.size (dT (f k)) (dL (f k) b1 ((f k).q.ws.length) d1 b2 ((f k).q.bs.length) d2 b3 ((f k).np) d3 b4 ((f k).hs.length) d4 b5 ((f k).nt) d5) := hv 8 23 (by decide) rfl
    have hL := HK.out.1.below hR
    have hsz := hR.size
    obtain ⟨v', w', hrun, L', g', k'⟩ := run_appG 33 33 61 13 184 (.agg #[.int .i64 0, .int .i64 0, .int .i64 0, .int .i64 0, .int .i64 0, .int .i64 0, .int .i64 0, .slice none 0 0, .slice none 0 0, .int .i64 0, .slice none 0 0, .slice none 0 0, .slice none 0 0]) Tryz.underlying33 (by kernel_rfl) rfl (by decide) (by decide) (B + 3) (.slice p3 k q3) k (fun i => dT (f i)) hL c 1 (dL (f k) b1 ((f k).q.ws.length) d1 b2 ((f k).q.bs.length) d2 b3 ((f k).np) d3 b4 ((f k).hs.length) d4 b5 ((f k).nt) d5) rfl (fun j x hx => kb.cell j (by simpa using hx)) (fun x hx => by simp at hx; rcases hx with rfl | rfl | rfl | rfl | rfl | rfl | rfl | rfl | rfl | rfl | rfl | rfl | rfl <;> rfl) (ho2.elG HK.out.2.2.2.2.2 (fun j hj => (HK.out.1.lt j hj).2)) (by omega) (Nat.le_trans HK.out.2.2.2.2.2 hsz)
    obtain ⟨p4, q4, rfl⟩ := L'.shape
    exact ⟨rfl, .inl ⟨_, w', run_app_x rfl h1 h8 hrun, p4, q4, u, updS_eqX, L', hR, g'⟩⟩
   ·intro u i o ρ hi ho hE hρ hc hf
    have hi2 : i + 1 < 12 := by
     have := (Array.getElem?_eq_some_iff.1 ho).1
     simpa using this
    obtain rfl | rfl : i = 9 \/ i = 10 := by omega
    all_goals (simp only [List.getElem?_toArray, List.getElem?_cons_zero, List.getElem?_cons_succ, Option.some.injEq] at ho; subst ho)
    ·have s3 : ρ (.tmp 3) = .pointer (some ⟨B + 2, 0, none⟩) := (hρ 3 (by kernel_rfl)).trans rfl
     obtain ⟨p4, q4, u0, e1, t1, t2, t3⟩ := hE
     exact ⟨rfl, .inl ⟨.pointer (some ⟨B + 2, 1, none⟩), u, run_field_op rfl s3 (by go_simp), ⟨p4, q4, u0, (updS_neX (by decide)).trans e1, t1, t2, t3⟩, updS_eqX⟩⟩
    obtain ⟨⟨p4, q4, u0, e1, t1, t2, t3⟩, e2⟩ := hE
    have e1' : ρ (.tmp 24) = .slice p4 (k + 1) q4 := e1
    have e2' : ρ (.tmp 25) = .pointer (some ⟨B + 2, 1, none⟩) := e2
    have kF := LsG.blk (HK.out.1.below t2) (HK.out.2.1.below t2) t3 (by decide)
    have c1 := kF.cell 1 rfl
    have f1 := kF.fro 1
    have hr : (Instr.storeAt 33 (.pointer (some ⟨B + 2, 1, none⟩)) (.slice p4 (k + 1) q4)).run Tryz.prog u = .ok () (setL u (B + 2) 1 [.slice p4 (k + 1) q4]) := by go_simp; rfl
    exact ⟨rfl, .inr (.inr ⟨rfl, _, run_store_op rfl e2' e1' hr, p4, q4, u0, u, t1, t2, t3, rfl⟩)⟩
   intro vs σ u hE hvs
   obtain ⟨p4, q4, u0, u1, t1, t2, t3, rfl⟩ : ∃ p4 q4 u0 u1, LsG u1 (B + 3) 61 13 (.slice p4 (k + 1) q4) (k + 1) (fun i => dT (f i)) /\ Below wr.heap.size wr u0 /\ u0.grownBy u1 (Value.slice p3 k q3).ownBlock /\ u = setL u1 (B + 2) 1 [.slice p4 (k + 1) q4] := hE
   have L0 := HK.out.1.below t2
   have kF := LsG.blk L0 (HK.out.2.1.below t2) t3 (by decide)
   have kA := LsG.blk L0 (HK.out.2.2.1.below t2) t3 (by decide)
   have kR := LsG.blk L0 (HK.out.2.2.2.1.below t2) t3 (by decide)
   have bl : Below w.heap.size w u1 := (bel_nx HK.out.2.2.2.2.1 t2).grown t3 (by have := HK.out.2.2.2.2.2; have := t2.size; have := HB.out; omega) (fun j hj => by have := (HK.out.1.lt j hj).1; have := HB.out; omega)
   have gs : u1.grownBy (setL u1 (B + 2) 1 [.slice p4 (k + 1) q4]) (some (B + 2)) := setL_gw _ _ _
   obtain ⟨W3, hW3⟩ : ∃ W3, W3 = setL u1 (B + 2) 1 [.slice p4 (k + 1) q4] := ⟨_, rfl⟩
   have H3 : Hid (LsG W3 (B + 3) 61 13 (.slice p4 (k + 1) q4) (k + 1) (fun i => dT (f i)) /\ Blk W3 (B + 2) 35 #[.int .i64 nx, .slice p4 (k + 1) q4] /\ Blk W3 B 35 #[.int .i64 nx, .slice (some ⟨b, off, none⟩) n' cap] /\ Blk W3 (B + 1) 35 tz /\ Below w.heap.size w W3 /\ B + 3 <= W3.heap.size) := by
    rw [hW3]
    exact ⟨t1.keptLo gs (by omega), Blk.wr kF (by simp [wrA]), Blk.stNe (by omega) _ _ kA, Blk.stNe (by omega) _ _ kR, setL_below (by have := HB.out; omega) _ _ _ bl, by have := HK.out.2.2.2.2.2; have := t2.size; have := t3.size; have := gs.size; omega⟩
   rw [<- hW3]
   simp only [putsL]
   clear hW3 kF kA kR bl gs t1 t2 t3 L0 hvs HK HR HE
   try go_simp
   go_wp2
   go_roundw
   case rel => exact ⟨k + 1, by omega, by go_num, p4, q4, H3.out⟩
   case measure => simp [intOf]; omega
  have hi : ¬ (k : Int) < (n' : Int) := by omega
  have e9 : k = n' := by omega
  subst e9
  have HK : Hid (_) := HH
  obtain ⟨⟨y0, y1⟩, yf⟩ := HH.2.2.1.tc2
  obtain ⟨⟨z0, z1⟩, zf⟩ := HH.2.1.tc2
  have zR := HH.2.2.2.1
  obtain ⟨⟨x0, x1⟩, xf⟩ := HH.2.2.2.1.tc2
  have xf0 := xf 0
  have xf1 := xf 1
  obtain ⟨W9, hW9⟩ : ∃ W9, W9 = setL wr (B + 1) 0 [.int .i64 nx, .slice p3 k q3] := ⟨_, rfl⟩
  have gs : wr.grownBy W9 (some (B + 1)) := by rw [hW9]; exact setL_gw _ _ _
  have H9 : Hid (LsG W9 w.heap.size 61 13 (.slice p3 k q3) k (fun i => dT (f i)) /\ Below w.heap.size w W9) := ⟨(HH.1.keptLo gs (by omega)).mono (by have := HB.out; omega), by rw [hW9]; exact setL_below (by have := HB.out; omega) _ _ _ HH.2.2.2.2.1⟩
  have K9 : Blk W9 (B + 1) 35 #[.int .i64 nx, .slice p3 k q3] := by rw [hW9]; exact Blk.wr zR (by simp [wrA])
  have hV : W9 = ((wr.setCell ⟨B + 1, 0, none⟩ (.int .i64 nx)).setCell ⟨B + 1, 1, none⟩ (.slice p3 k q3)) := hW9
  clear HH yf zf xf hW9 gs zR G0
  go_wp2
  rw [<- hV]
  obtain ⟨⟨u0, u1⟩, uf⟩ := K9.tc2
  refine bodyPost_ret (v := .agg #[.int .i64 nx, .slice p3 k q3]) (by simp [results, Tryz.results23, go_sem, u0, u1]) rfl ⟨p3, q3, rfl, H9.out.1, H9.out.2⟩
end Go.Proofs.YtlhjiiifmfgnoaaGreat
namespace Go.Proofs.YtlhjiiifmfgnoaaGreat
open Go.RowKit Go.Joins Go.ChangeMaps
def entL (ks : Nat -> Int) (vs : Nat -> Value) (n : Nat) : List MapEntry := (List.range n).map (fun j => ⟨.int .i64 (ks j), vs j, j⟩)
def MapI (w : World) (b n : Nat) (ks : Nat -> Int) (vs : Nat -> Value) : Prop := w.heap[b]? = some (.map (entL ks vs n).toArray n)
theorem MapI.lt {w : World} {b n : Nat} {ks : Nat -> Int} {vs : Nat -> Value} (h : MapI w b n ks vs) : b < w.heap.size := (Array.getElem?_eq_some_iff.1 h).1
theorem MapI.below {w w' : World} {b n : Nat} {ks : Nat -> Int} {vs : Nat -> Value} (h : MapI w b n ks vs) (hb : Below w.heap.size w w') : MapI w' b n ks vs := (hb.block b h.lt).trans h
theorem MapI.kept {w w' : World} {b n : Nat} {row : Option Nat} {ks : Nat -> Int} {vs : Nat -> Value} (h : MapI w b n ks vs) (hg : w.grownBy w' row) (hne : some b ≠ row) : MapI w' b n ks vs := (hg.block b h.lt hne).trans h
theorem MapI.new (w : World) (ks : Nat -> Int) (vs : Nat -> Value) : MapI (w.alloc (.map #[] 0)) w.heap.size 0 ks vs := by
 exact heap_alloc_new w (.map #[] 0)
theorem MapI.congr {w : World} {b n : Nat} {ks ks' : Nat -> Int} {vs vs' : Nat -> Value} (h : MapI w b n ks vs) (hk : ∀ j, j < n -> ks j = ks' j) (hv : ∀ j, j < n -> vs j = vs' j) : MapI w b n ks' vs' := by
 unfold MapI entL at h ⊢
 rw [h]
 congr 3
 exact List.map_congr_left (fun j hj => by rw [hk j (List.mem_range.1 hj), hv j (List.mem_range.1 hj)])
theorem find_no (x : Int) : ∀ (l : List MapEntry) (i : Nat), (∀ e ∈ l, ∃ y, e.key = .int .i64 y /\ y ≠ x) -> Instr.findNow (.int .i64) (.int .i64 x) l i = some none
 | [], _, _ => rfl
 | e :: l, i, h => by
  obtain ⟨y, he, hy⟩ := h e (by simp)
  unfold Instr.findNow
  have : Instr.sameNow (.int .i64) (.int .i64 x) e.key = some false := by
   rw [he]
   simp [Instr.sameNow]
   exact fun q => hy q.symm
  rw [this]
  exact find_no x l (i + 1) (fun e he => h e (by simp [he]))
theorem ent_key {ks : Nat -> Int} {vs : Nat -> Value} {n : Nat} {e : MapEntry} (h : e ∈ entL ks vs n) : ∃ j, j < n /\ e = ⟨.int .i64 (ks j), vs j, j⟩ := by
 obtain ⟨j, hj, rfl⟩ := List.mem_map.1 h
 exact ⟨j, List.mem_range.1 hj, rfl⟩
theorem ent_push (ks : Nat -> Int) (vs : Nat -> Value) (n : Nat) : (entL ks vs n).toArray.push ⟨.int .i64 (ks n), vs n, n⟩ = (entL ks vs (n + 1)).toArray := by
 unfold entL
 rw [List.range_succ, List.map_append]
 simp
theorem MapI.put {P : Program} {w : World} {b n : Nat} {ks : Nat -> Int} {vs : Nat -> Value} {T K E : TypeId} (h : MapI w b n ks vs) (hT : P.underlying T = some (.map K E)) (hK : P.underlying K = some (.int .i64)) (hx : ∀ j, j < n -> ks j ≠ ks n) :
 (Instr.mapUpdate T (.map (some b)) (.int .i64 (ks n)) (vs n)).run P w = .ok () (setBlock w b (.map (entL ks vs (n + 1)).toArray (n + 1))) := by
 have hf : Instr.findNow (.int .i64) (.int .i64 (ks n)) (entL ks vs n) 0 = some none := find_no _ _ _ (fun e he => by
  obtain ⟨j, hj, rfl⟩ := ent_key he
  exact ⟨ks j, rfl, hx j hj⟩)
 unfold MapI at h
 have hlt : b < w.heap.size := (Array.getElem?_eq_some_iff.1 h).1
 have hc : (Instr.checkKey false 10000 K (.int .i64 (ks n))).run P w = .ok () w := by
  unfold Instr.checkKey
  simp [run_underlying (P := P) hK]
 unfold Instr.mapUpdate
 simp only [run_underlying (P := P) hT, Sem.run_bind, Result.andThen_ok, getObj, Sem.run, h, hc, MapKept.run_findKey hK hf]
 simp only [setObj, Sem.run, h, setBlock]
 rw [ent_push]
theorem MapI.set {w : World} {b n : Nat} {ks : Nat -> Int} {vs : Nat -> Value} (hlt : b < w.heap.size) : MapI (setBlock w b (.map (entL ks vs n).toArray n)) b n ks vs := by
 unfold MapI setBlock
 simp [hlt]
theorem setBlock_grown (w : World) (b : Nat) (o : Obj) : w.grownBy (setBlock w b o) (some b) :=
 ⟨rfl, rfl, rfl, by simp [setBlock], fun k hk hne => by
  unfold setBlock
  simp only
  rw [Array.getElem?_setIfInBounds]
  split
  ·rename_i e; subst e; exact absurd rfl hne
  rfl⟩
theorem ent_len (ks : Nat -> Int) (vs : Nat -> Value) (n : Nat) : (entL ks vs n).length = n := by simp [entL]
theorem MapI.len {P : Program} {w : World} {b n : Nat} {ks : Nat -> Int} {vs : Nat -> Value} {T K E ty : TypeId} (h : MapI w b n ks vs) (hT : P.underlying T = some (.map K E)) : (Builtin.len_ #[T] ty #[.map (some b)]).run P w = .ok (.int .i64 (n : Int)) w := by
 unfold MapI at h
 simp [Builtin.len_, run_underlying (P := P) hT, getObj, Sem.run, h, ent_len, goInt]
end Go.Proofs.YtlhjiiifmfgnoaaGreat
namespace Go.Proofs.YtlhjiiifmfgnoaaGreat
open Go.RowKit Go.Joins Go.ChangeMaps
theorem run_mu_x {P : Program} {ρ : Operand -> Value} {o : Oper} {u u' : World} {t : TypeId} {m k v : Operand} {vm vk vv : Value} (ho : o.op = .mapUpdate t m k v) (hm : ρ m = vm) (hk : ρ k = vk) (hv : ρ v = vv) (hr : (Instr.mapUpdate t vm vk vv).run P u = .ok () u') : (execOp ρ o).run P u = .ok .skip u' := by
 unfold execOp
 simp only [ho, hm, hk, hv]
 rw [Sem.run_bind, hr]
 rfl
def MapD (w : World) (lo b n : Nat) (f : Nat -> VD) (V : Nat -> List Value) : Prop :=
 MapI w b n (fun j => (f j).id) (fun j => .agg (V j).toArray) /\ lo <= b /\ ∃ β : Nat -> Nat, b < β 0 /\ (∀ j, β j <= β (j + 1)) /\ β n <= w.heap.size /\ ∀ j, j < n -> (V j).length = 13 /\ Own1 w (β j) (β (j + 1)) (dT (f j)) (V j)
theorem MapD.below {w w' : World} {lo b n : Nat} {f : Nat -> VD} {V : Nat -> List Value} (h : MapD w lo b n f V) (hb : Below w.heap.size w w') : MapD w' lo b n f V := by
 obtain ⟨h1, h2, β, h3, h4, h5, h6⟩ := h
 refine ⟨h1.below hb, h2, β, h3, h4, Nat.le_trans h5 hb.size, fun j hj => ⟨(h6 j hj).1, (h6 j hj).2.below hb ?_⟩⟩
 have := bt_le h4 (show j + 1 <= n by omega)
 omega
theorem MapD.new (w : World) (lo : Nat) (f : Nat -> VD) (h : lo <= w.heap.size) : MapD (w.alloc (.map #[] 0)) lo w.heap.size 0 f (fun _ => []) :=
 ⟨MapI.new w _ _, h, fun _ => w.heap.size + 1, by show w.heap.size < w.heap.size + 1; omega, fun _ => Nat.le_refl _, by simp, fun j hj => absurd hj (Nat.not_lt_zero _)⟩
theorem MapD.put {w0 w : World} {lo b n hi : Nat} {f : Nat -> VD} {V : Nat -> List Value} {T K E : TypeId} {vs : List Value} (h : MapD w0 lo b n f V) (hb : Below w0.heap.size w0 w) (hT : Tryz.prog.underlying T = some (.map K E)) (hK : Tryz.prog.underlying K = some (.int .i64)) (hl : vs.length = 13) (hx : ∀ j, j < n -> (f j).id ≠ (f n).id) (ho : Own1 w w0.heap.size hi (dT (f n)) vs) (hh : hi <= w.heap.size) (hl2 : w0.heap.size <= hi) :
 ∃ w', (Instr.mapUpdate T (.map (some b)) (.int .i64 (f n).id) (.agg vs.toArray)).run Tryz.prog w = .ok () w' /\ MapD w' lo b (n + 1) f (fun j => if j = n then vs else V j) /\ w.grownBy w' (some b) := by
 have hm := h.below hb
 have h1 : MapI w b n (fun j => (f j).id) (fun j => .agg (if j = n then vs else V j).toArray) := hm.1.congr (fun _ _ => rfl) (fun j hj => by rw [if_neg (by omega)])
 have h2 := h1.put (P := Tryz.prog) hT hK hx
 simp only [if_true] at h2
 have hg := setBlock_grown w b (.map (entL (fun j => (f j).id) (fun j => .agg (if j = n then vs else V j).toArray) (n + 1)).toArray (n + 1))
 have hgs := hg.size
 obtain ⟨_, q2, β, q3, q4, q5, q6⟩ := h
 refine ⟨_, h2, ⟨MapI.set h1.lt, q2, fun j => if j <= n then β j else hi, by simpa using q3, fun j => ?_, ?_, fun j hj => ?_⟩, hg⟩
 ·show (if j <= n then β j else hi) <= (if j + 1 <= n then β (j + 1) else hi)
  by_cases e : j + 1 <= n
  ·rw [if_pos (by omega), if_pos e]; exact q4 j
  rw [if_neg e]
  by_cases e' : j <= n
  ·rw [if_pos e']
   have := bt_le q4 e'
   omega
  rw [if_neg e']; exact Nat.le_refl _
 ·show (if n + 1 <= n then β (n + 1) else hi) <= _
  rw [if_neg (by omega)]; omega
 have b0 := bt_le q4 (Nat.zero_le j)
 by_cases e : j = n
 ·subst e
  show (if j = j then vs else V j).length = 13 /\ Own1 _ (if j <= j then β j else hi) (if j + 1 <= j then β (j + 1) else hi) _ (if j = j then vs else V j)
  rw [if_pos rfl, if_pos (Nat.le_refl _), if_neg (by omega)]
  exact ⟨hl, (ho.mono q5 (Nat.le_refl _)).kept hg (by omega) hh⟩
 show (if j = n then vs else V j).length = 13 /\ Own1 _ (if j <= n then β j else hi) (if j + 1 <= n then β (j + 1) else hi) _ (if j = n then vs else V j)
 rw [if_neg e, if_pos (show j <= n by omega), if_pos (show j + 1 <= n by omega)]
 have b1 := bt_le q4 (show j + 1 <= n by omega)
 have h9 := q6 j (by omega)
 exact ⟨h9.1, (h9.2.below hb (by omega)).kept hg (by omega) (by have := hb.size; omega)⟩
theorem mattersOf_m (nx : Int) (n : Nat) (f : Nat -> VD) (a : Option Addr) (n' cap : Nat) (w : World) (hs : Rd w 0 (.list 13 n (fun k => trs (dT (f k)))) (.slice a n' cap)) (hz : (Tr.list 13 n (fun k => trs (dT (f k)))).sz <= 1048576) (hx : ∀ i j, i < j -> j < n -> (f i).id ≠ (f j).id) :
 Calls Tryz.prog 34 #[.agg #[.int .i64 nx, .slice a n' cap]] w fun e w' => ∃ M V, e = .returned (.map (some M)) /\ MapD w' w.heap.size M n f V /\ Below w.heap.size w w' := by
 obtain ⟨a9, c9, h9, -, hn⟩ := hs.shape
 simp only [Value.slice.injEq] at h9
 obtain ⟨-, rfl, -⟩ := h9
 clear a9 c9
 have hn1 : n' <= 1048576 := by rw [Tr.sz_list] at hz; omega
 have HZ : Hid (∀ k, k < n' -> szT 13 (trs (dT (f k))) <= 1048576) := by
  show ∀ k, k < n' -> szT 13 (trs (dT (f k))) <= 1048576
  intro k hk
  rw [Tr.sz_list] at hz
  have := sumN_at (fun k => szT 13 (trs (dT (f k)))) hk
  omega
 have HX : Hid (∀ i j, i < j -> j < n' -> (f i).id ≠ (f j).id) := hx
 have HS : Hid (Rd w 0 (.list 13 n' (fun k => trs (dT (f k)))) (.slice a n' cap) /\ n' <= maxLen) := ⟨hs, hn⟩
 have hmm := @run_makeMap Tryz.prog
 obtain ⟨W, hW⟩ : ∃ W, W = (w.alloc (.cells #[.int .i64 nx, .slice a n' cap] 35)).alloc (.map #[] 0) := ⟨_, rfl⟩
 obtain ⟨M, hM⟩ : ∃ M, M = w.heap.size + 1 := ⟨_, rfl⟩
 obtain ⟨B, hB⟩ : ∃ B, B = w.heap.size := ⟨_, rfl⟩
 have G0 : Hid (MapD W w.heap.size M 0 f (fun _ => []) /\ Below w.heap.size w W) := by
  rw [hW, hM]
  have := MapD.new (w.alloc (.cells #[.int .i64 nx, .slice a n' cap] 35)) w.heap.size f (by simp)
  exact ⟨by simpa using this, bel_nx (bel_alloc _ _) (bel_alloc _ _)⟩
 obtain ⟨⟨y0, y1⟩, yf⟩ := ((by rw [hW, hB]; exact (Blk.new _ _ _).below (bel_alloc _ _) : Blk W B 35 #[.int .i64 nx, .slice a n' cap])).tc2
 clear hs hz hn hx yf
 go_enter Tryz.func34, Tryz.ntmps34
 go_upto_region 2 with fail
 rw [<- hW, <- hM, <- hB]
 clear hW hM hmm hB
 go_wp2
 clear y0 y1
 go_loopw [10] (fun i wr => ∃ (k : Nat), k <= n' /\ i = .int .i64 k /\ ∃ V, MapD wr w.heap.size M k f V /\ Below w.heap.size w wr) (fun i _ => n' - (intOf i).toNat)
 case atStart => exact ⟨0, Nat.zero_le _, rfl, _, G0.out⟩
 case round =>
  obtain ⟨k, hk, rfl, V, HH⟩ := hrel
  by_cases hlt : k < n'
  ·have hi : (k : Int) < (n' : Int) := by omega
   obtain ⟨b, off, vs, rfl, _, hb0, hlen, hr, hrd⟩ := (HS.out.1.below HH.2).at hlt
   obtain ⟨a1, c1, a2, c2, a3, c3, a4, c4, a5, c5, rfl, r1, r2, r3, r4, r5⟩ := VD.cells hrd hlen
   have d09 : wr.cell? ⟨b, off + k * 13, none⟩ = _ := hr 0 _ rfl
   have d19 : wr.cell? ⟨b, off + k * 13 + 1, none⟩ = _ := hr 1 _ rfl
   have d29 : wr.cell? ⟨b, off + k * 13 + 2, none⟩ = _ := hr 2 _ rfl
   have d39 : wr.cell? ⟨b, off + k * 13 + 3, none⟩ = _ := hr 3 _ rfl
   have d49 : wr.cell? ⟨b, off + k * 13 + 4, none⟩ = _ := hr 4 _ rfl
   have d59 : wr.cell? ⟨b, off + k * 13 + 5, none⟩ = _ := hr 5 _ rfl
   have d69 : wr.cell? ⟨b, off + k * 13 + 6, none⟩ = _ := hr 6 _ rfl
   have d79 : wr.cell? ⟨b, off + k * 13 + 7, none⟩ = _ := hr 7 _ rfl
   have d89 : wr.cell? ⟨b, off + k * 13 + 8, none⟩ = _ := hr 8 _ rfl
   have d99 : wr.cell? ⟨b, off + k * 13 + 9, none⟩ = _ := hr 9 _ rfl
   have d109 : wr.cell? ⟨b, off + k * 13 + 10, none⟩ = _ := hr 10 _ rfl
   have d119 : wr.cell? ⟨b, off + k * 13 + 11, none⟩ = _ := hr 11 _ rfl
   have d129 : wr.cell? ⟨b, off + k * 13 + 12, none⟩ = _ := hr 12 _ rfl
   have HE : Hid (Rd wr 0 (intsT (f k).q.ws) (.slice a1 ((f k).q.ws.length) c1) /\ Rd wr 0 (boolsT (f k).q.bs) (.slice a2 ((f k).q.bs.length) c2) /\ Rd wr 0 (ptsT (f k)) (.slice a3 ((f k).np) c3) /\ Rd wr 0 (boolsT (f k).hs) (.slice a4 ((f k).hs.length) c4) /\ Rd wr 0 (tlsT (f k)) (.slice a5 ((f k).nt) c5) /\ szT 13 (trs (dT (f k))) <= 1048576) := ⟨r1, r2, r3, r4, r5, HZ.out k hlt⟩
   have HE2 : Hid (∀ j, j < k -> (f j).id ≠ (f k).id) := fun j hj => HX.out j k hj hlt
   have HK : Hid (_) := HH
   obtain ⟨W5, hW5⟩ : ∃ W5, W5 = wr.alloc (.cells (dL (f k) a1 ((f k).q.ws.length) c1 a2 ((f k).q.bs.length) c2 a3 ((f k).np) c3 a4 ((f k).hs.length) c4 a5 ((f k).nt) c5).toArray 61) := ⟨_, rfl⟩
   obtain ⟨G, hG⟩ : ∃ G, G = wr.heap.size := ⟨_, rfl⟩
   have HP : Hid (Blk W5 G 61 (dL (f k) a1 ((f k).q.ws.length) c1 a2 ((f k).q.bs.length) c2 a3 ((f k).np) c3 a4 ((f k).hs.length) c4 a5 ((f k).nt) c5).toArray /\ Below wr.heap.size wr W5) := ⟨by rw [hW5, hG]; exact Blk.new _ _ _, by rw [hW5]; exact bel_alloc _ _⟩
   clear HH hr hb0 r1 r2 r3 r4 r5 hlen hrd G0
   go_upto_region 5 with fail
   rw [<- hW5, <- hG]
   clear hW5 hG d09 d19 d29 d39 d49 d59 d69 d79 d89 d99 d109 d119 d129
   try go_simp
   refine wp_region_any (by kernel_rfl) ?_
   refine wpAny_tl 5 (fun u => Below W5.heap.size W5 u) (fun j σ u => ∃ V', MapD u w.heap.size M (k + 1) f V' /\ Below w.heap.size w u) (fun i v u => match i with
    | 0 => v = .map (some M)
    | 1 => v = .pointer (some ⟨G, 0, none⟩)
    | 2 => v = .int .i64 (f k).id
    | 3 => v = .agg ((dL (f k) a1 ((f k).q.ws.length) c1 a2 ((f k).q.bs.length) c2 a3 ((f k).np) c3 a4 ((f k).hs.length) c4 a5 ((f k).nt) c5)).toArray
    | 4 => ∃ b1 d1 b2 d2 b3 d3 b4 d4 b5 d5, v = .agg (dL (f k) b1 ((f k).q.ws.length) d1 b2 ((f k).q.bs.length) d2 b3 ((f k).np) d3 b4 ((f k).hs.length) d4 b5 ((f k).nt) d5).toArray /\ ∃ hi, hi <= u.heap.size /\ W5.heap.size <= hi /\ Own1 u W5.heap.size hi (dT (f k)) (dL (f k) b1 ((f k).q.ws.length) d1 b2 ((f k).q.bs.length) d2 b3 ((f k).np) d3 b4 ((f k).hs.length) d4 b5 ((f k).nt) d5)
    | _ => True) (by kernel_rfl) (by kernel_rfl) (by decide) (by kernel_rfl) (fun u u' h hb => bel_nx h hb) ?_ (by first | exact Below.refl _ _ | exact (Below.refl _ _).drew) ?_ ?_ ?_ ?_ _ _ rfl (by decide) (fun i => by simp [Array.getD]; try (split <;> rfl))
   ·intro i v u u' h hb
    match i, h with
    | 0, h => exact h
    | 1, h => exact h
    | 2, h => exact h
    | 3, h => exact h
    | 4, ⟨b1, d1, b2, d2, b3, d3, b4, d4, b5, d5, e, hi, h1, h2, h3⟩ => exact ⟨b1, d1, b2, d2, b3, d3, b4, d4, b5, d5, e, hi, Nat.le_trans h1 hb.size, h2, h3.below hb h1⟩
    | _ + 5, _ => trivial
   rotate_left
   ·intro u i o ρ hi hR ho hρ hc hf hd
    obtain rfl | rfl | rfl | rfl | rfl : i = 0 \/ i = 1 \/ i = 2 \/ i = 3 \/ i = 4 := by omega
    all_goals (simp only [List.getElem?_toArray, List.getElem?_cons_zero, List.getElem?_cons_succ, Option.some.injEq] at ho; subst ho)
    ·have s3 : ρ (.tmp 3) = .map (some M) := (hρ 3 (by kernel_rfl)).trans rfl
     exact .inl ⟨rfl, .inl ⟨_, u, rfl, s3, Below.refl _ _⟩⟩
    ·have s5 : ρ (.tmp 5) = .pointer (some ⟨G, 0, none⟩) := (hρ 5 (by kernel_rfl)).trans rfl
     exact .inl ⟨rfl, .inl ⟨.pointer (some ⟨G, 0, none⟩), u, run_field_op rfl s5 (by go_simp), rfl, Below.refl _ _⟩⟩
    ·have h1 : ρ (.tmp 15) = .pointer (some ⟨G, 0, none⟩) := hd ⟨1, .data⟩ (by simp) rfl 15 rfl
     have y9 : u.cell? ⟨G, 0, none⟩ = some (.int .i64 (f k).id) := (HP.out.1.below hR).rng 0 _ rfl
     have hr : (Instr.loadAt 3 (.pointer (some ⟨G, 0, none⟩))).run Tryz.prog u = .ok (.int .i64 (f k).id) u := by go_simp
     exact .inl ⟨rfl, .inl ⟨.int .i64 (f k).id, u, run_load_op rfl h1 hr, rfl, Below.refl _ _⟩⟩
    ·have s5 : ρ (.tmp 5) = .pointer (some ⟨G, 0, none⟩) := (hρ 5 (by kernel_rfl)).trans rfl
     have hr : (Instr.loadAt 61 (.pointer (some ⟨G, 0, none⟩))).run Tryz.prog u = .ok (.agg ((dL (f k) a1 ((f k).q.ws.length) c1 a2 ((f k).q.bs.length) c2 a3 ((f k).np) c3 a4 ((f k).hs.length) c4 a5 ((f k).nt) c5)).toArray) u := run_loadAt_mid u G (0) 61 ((dL (f k) a1 ((f k).q.ws.length) c1 a2 ((f k).q.bs.length) c2 a3 ((f k).np) c3 a4 ((f k).hs.length) c4 a5 ((f k).nt) c5)) _ (HP.out.1.below hR).rng Tryz.underlying61 rfl (by kernel_rfl)
     exact .inl ⟨rfl, .inl ⟨.agg ((dL (f k) a1 ((f k).q.ws.length) c1 a2 ((f k).q.bs.length) c2 a3 ((f k).np) c3 a4 ((f k).hs.length) c4 a5 ((f k).nt) c5)).toArray, u, run_load_op rfl s5 hr, rfl, Below.refl _ _⟩⟩
    have h3 : ρ (.tmp 17) = .agg (dL (f k) a1 ((f k).q.ws.length) c1 a2 ((f k).q.bs.length) c2 a3 ((f k).np) c3 a4 ((f k).hs.length) c4 a5 ((f k).nt) c5).toArray := hd ⟨3, .data⟩ (by simp) rfl 17 rfl
    refine .inl ⟨rfl, .inr ⟨_, _, run_call_op rfl (hf _) (args := #[.agg (dL (f k) a1 ((f k).q.ws.length) c1 a2 ((f k).q.bs.length) c2 a3 ((f k).np) c3 a4 ((f k).hs.length) c4 a5 ((f k).nt) c5).toArray]) (by simp [h3]) (by kernel_rfl), ?_⟩⟩
    refine (copyPend_m (f k) a1 _ c1 a2 _ c2 a3 _ c3 a4 _ c4 a5 _ c5 _ (HE.out.1.below (bel_nx HP.out.2 hR)) (HE.out.2.1.below (bel_nx HP.out.2 hR)) (HE.out.2.2.1.below (bel_nx HP.out.2 hR)) (HE.out.2.2.2.1.below (bel_nx HP.out.2 hR)) (HE.out.2.2.2.2.1.below (bel_nx HP.out.2 hR)) HE.out.2.2.2.2.2).mono ?_
    rintro e u' ⟨b1, d1, b2, d2, b3, d3, b4, d4, b5, d5, he, o1, b'⟩
    exact ⟨_, he, ⟨b1, d1, b2, d2, b3, d3, b4, d4, b5, d5, rfl, u'.heap.size, Nat.le_refl _, Nat.le_trans hR.size b'.size, o1.mono hR.size (Nat.le_refl _)⟩, b'⟩
   ·intro u o ρ hR ho hρ hc hf hv
    simp only [List.getElem?_toArray, List.getElem?_cons_zero, List.getElem?_cons_succ, Option.some.injEq] at ho
    subst ho
    have h0 : ρ (.tmp 14) = .map (some M) := hv 0 14 (by decide) rfl
    have h2 : ρ (.tmp 16) = .int .i64 (f k).id := hv 2 16 (by decide) rfl
    obtain ⟨b1, d1, b2, d2, b3, d3, b4, d4, b5, d5, h4, hi, o1, o2, o3⟩ : ∃ b1 d1 b2 d2 b3 d3 b4 d4 b5 d5, ρ (.tmp 18) = .agg (dL (f k) b1 ((f k).q.ws.length) d1 b2 ((f k).q.bs.length) d2 b3 ((f k).np) d3 b4 ((f k).hs.length) d4 b5 ((f k).nt) d5).toArray /\ ∃ hi, hi <= u.heap.size /\ W5.heap.size <= hi /\ Own1 u W5.heap.size hi (dT (f k)) (dL (f k) b1 ((f k).q.ws.length) d1 b2 ((f k).q.bs.length) d2 b3 ((f k).np) d3 b4 ((f k).hs.length) d4 b5 ((f k).nt) d5) := hv 4 18 (by decide) rfl
    have bb := bel_nx HP.out.2 hR
    obtain ⟨w', hrun, hM, hg⟩ := HK.out.1.put (vs := (dL (f k) b1 ((f k).q.ws.length) d1 b2 ((f k).q.bs.length) d2 b3 ((f k).np) d3 b4 ((f k).hs.length) d4 b5 ((f k).nt) d5)) bb Tryz.underlying71 Tryz.underlying3 rfl HE2.out (o3.mono (lo' := wr.heap.size) HP.out.2.size (Nat.le_refl _)) o1 (Nat.le_trans HP.out.2.size o2)
    exact ⟨rfl, .inr (.inr ⟨rfl, w', run_mu_x rfl h0 h2 h4 hrun, _, hM, (bel_nx HK.out.2 bb).grown hg (Nat.le_trans HK.out.2.size bb.size) (fun j hj => by obtain rfl := Option.some.inj hj; exact HK.out.1.2.1)⟩)⟩
   ·intro u i o ρ hi ho hE hρ hc hf
    have hi2 : i + 1 < 6 := by
     have := (Array.getElem?_eq_some_iff.1 ho).1
     simpa using this
    omega
   intro vs σ u hE hvs
   obtain ⟨V', m9, b9⟩ := hE
   have H2 : Hid (MapD u w.heap.size M (k + 1) f V' /\ Below w.heap.size w u) := ⟨m9, b9⟩
   simp only [putsL]
   clear hvs m9 b9 HK HE HE2 HP
   try go_simp
   go_wp2
   go_roundw
   case rel => exact ⟨k + 1, by omega, by go_num, V', H2.out⟩
   case measure => simp [intOf]; omega
  have hi : ¬ (k : Int) < (n' : Int) := by omega
  have e9 : k = n' := by omega
  subst e9
  have HK : Hid (_) := HH
  clear HH G0
  go_wp2
  go_ret
  exact ⟨M, rfl, ⟨V, HK.out.1⟩, HK.out.2⟩
end Go.Proofs.YtlhjiiifmfgnoaaGreat
namespace Go.Proofs.YtlhjiiifmfgnoaaGreat
open Go.RowKit
def cmpI (x y : Int) : Int := if x < y then -1 else if y < x then 1 else 0
theorem isNaN_any (x : Int) (w : World) : Calls Tryz.prog 109 #[.int .i64 x] w fun e w' => e = .returned (.bool false) /\ w' = w := by
 go_enter Tryz.func109, Tryz.ntmps109
 go_wp2
 go_ret
 exact ⟨rfl, rfl⟩
theorem compare_any (x y : Int) (w : World) : Calls Tryz.prog 85 #[.int .i64 x, .int .i64 y] w fun e w' => e = .returned (.int .i64 (cmpI x y)) /\ w' = w := by
 unfold cmpI
 by_cases h : x < y
 ·rw [if_pos h]
  go_enter Tryz.func85, Tryz.ntmps85
  go_wp2_with fail
  refine (isNaN_any x _).mono ?_
  rintro e w1 ⟨rfl, rfl⟩
  go_wp2_with fail
  refine (isNaN_any y _).mono ?_
  rintro e w2 ⟨rfl, rfl⟩
  go_wp2
  go_ret
  exact ⟨rfl, rfl⟩
 rw [if_neg h]
 by_cases h' : y < x
 ·rw [if_pos h']
  go_enter Tryz.func85, Tryz.ntmps85
  go_wp2_with fail
  refine (isNaN_any x _).mono ?_
  rintro e w1 ⟨rfl, rfl⟩
  go_wp2_with fail
  refine (isNaN_any y _).mono ?_
  rintro e w2 ⟨rfl, rfl⟩
  go_wp2
  go_ret
  exact ⟨rfl, rfl⟩
 rw [if_neg h']
 go_enter Tryz.func85, Tryz.ntmps85
 go_wp2_with fail
 refine (isNaN_any x _).mono ?_
 rintro e w1 ⟨rfl, rfl⟩
 go_wp2_with fail
 refine (isNaN_any y _).mono ?_
 rintro e w2 ⟨rfl, rfl⟩
 go_wp2
 go_ret
 exact ⟨rfl, rfl⟩
end Go.Proofs.YtlhjiiifmfgnoaaGreat
namespace Go.Proofs.YtlhjiiifmfgnoaaGreat
open Go.RowKit Go.Joins Go.ChangeMaps
theorem nd_len : ∀ (n : Nat) (ps : List Nat), ps.Nodup -> (∀ x ∈ ps, x < n) -> ps.length <= n /\ ((∀ j, j < n -> j ∈ ps) -> ps.length = n)
 | 0, ps, _, h => by
  cases ps with
  | nil => exact ⟨Nat.le_refl _, fun _ => rfl⟩
  | cons x r => exact absurd (h x (by simp)) (Nat.not_lt_zero _)
 | n + 1, ps, hd, h => by
  by_cases e : n ∈ ps
  ·have hl := List.length_erase_of_mem e
   have hp : 0 < ps.length := List.length_pos_of_mem e
   obtain ⟨i1, i2⟩ := nd_len n (ps.erase n) (hd.erase n) (fun x hx => by
    have h1 := (List.Nodup.mem_erase_iff hd).1 hx
    have := h x h1.2
    have := h1.1
    omega)
   refine ⟨by omega, fun hc => ?_⟩
   have := i2 (fun j hj => (List.Nodup.mem_erase_iff hd).2 ⟨by omega, hc j (by omega)⟩)
   omega
  obtain ⟨i1, i2⟩ := nd_len n ps hd (fun x hx => by
   have := h x hx
   have : x ≠ n := fun q => e (q ▸ hx)
   omega)
  exact ⟨by omega, fun hc => absurd (hc n (by omega)) e⟩
theorem inc_id (n : Nat) (g : Nat -> Nat) (h1 : ∀ i, i < n -> g i < n) (h2 : ∀ i j, i < j -> j < n -> g i < g j) : ∀ i, i < n -> g i = i := by
 have lo : ∀ i, i < n -> i <= g i := by
  intro i
  induction i with
  | zero => intro _; exact Nat.zero_le _
  | succ i ih => intro hi; have := ih (by omega); have := h2 i (i + 1) (by omega) hi; omega
 have up : ∀ d i, i < n -> n - 1 - i = d -> g i <= i := by
  intro d
  induction d with
  | zero => intro i hi hd; have := h1 i hi; omega
  | succ d ih => intro i hi hd; have := ih (i + 1) (by omega) (by omega); have := h2 i (i + 1) (by omega) (by omega); omega
 intro i hi
 have := lo i hi
 have := up _ i hi rfl
 omega
theorem run_next_x {P : Program} {ρ : Operand -> Value} {o : Oper} {u u' : World} {x : Operand} {b : Bool} {vx v : Value} (ho : o.op = .next x b) (hx : ρ x = vx) (hr : (Instr.next vx b 0).run P u = .ok v u') : (execOp ρ o).run P u = .ok (.value v) u' := by
 have h9 : (Instr.next vx b o.type).run P u = .ok v u' := hr
 unfold execOp
 simp only [ho, hx]
 rw [Sem.run_bind, h9]
 rfl
theorem run_entry_x {P : Program} {ρ : Operand -> Value} {o : Oper} {u u' : World} {x : Operand} {vx v : Value} (ho : o.op = .entry x) (hx : ρ x = vx) (hr : (Instr.entry vx).run P u = .ok v u') : (execOp ρ o).run P u = .ok (.value v) u' := by
 unfold execOp
 simp only [ho, hx]
 rw [Sem.run_bind, hr]
 rfl
theorem run_range_x {P : Program} {ρ : Operand -> Value} {o : Oper} {u u' : World} {t : TypeId} {x : Operand} {vx v : Value} (ho : o.op = .range t x) (hx : ρ x = vx) (hr : (Instr.range t vx).run P u = .ok v u') : (execOp ρ o).run P u = .ok (.value v) u' := by
 unfold execOp
 simp only [ho, hx]
 rw [Sem.run_bind, hr]
 rfl
theorem wpList_run_x {P : Program} {ops : Array Oper} {rest : List Oper} {op : Oper} {a : Act} {w w' : World} {Q : Exit -> Act -> World -> Prop} (hgd : op.guard = none) (v : Value) (hr : (execOp a.eval op).run P w = .ok (.value v) w') (h : wpList P ops Q rest (a.put op.dst v) w') : wpList P ops Q (op :: rest) a w :=
 wpList_plain hgd fun K hK => by
  unfold Oper.wp
  rw [hr]
  exact hK _ _ h
theorem own_dL {w : World} {lo hi : Nat} {X : VD} {vs : List Value} (h : Own1 w lo hi (dT X) vs) : ∃ a1 c1 a2 c2 a3 c3 a4 c4 a5 c5, vs = dL X a1 X.q.ws.length c1 a2 X.q.bs.length c2 a3 X.np c3 a4 X.hs.length c4 a5 X.nt c5 := by
 obtain ⟨K, h1, h2, h3, h4⟩ := h
 have hl : vs.length = 13 := by rw [h1]; rfl
 obtain ⟨a1, c1, a2, c2, a3, c3, a4, c4, a5, c5, e, _⟩ := VD.cells (w := w) (lo := 0) (X := X) (fun i v hv => (h2 i v hv).rd (fun b _ => Nat.zero_le b)) hl
 exact ⟨a1, c1, a2, c2, a3, c3, a4, c4, a5, c5, e⟩
def SortD : Prop := ∀ (R n m : Nat) (V : Nat -> List Value) (ids : Nat -> Int) (ps : List Nat) (w : World), ps.length = n -> ps.Nodup -> (∀ x ∈ ps, x < n) ->
 (∀ j, j < n -> (V j).length = 13 /\ (V j)[0]? = some (.int .i64 (ids j)) /\ ∀ v ∈ V j, v.oneCell' = true) -> (∀ i j, i < j -> j < n -> ids i < ids j) -> RowS w R 61 13 n (fun i => V (ps.getD i 0)) -> n <= 2000000 ->
 Calls Tryz.prog 62 #[.slice (some ⟨R, 0, none⟩) n m, .func (.func 63) #[] #[]] w fun e w' => e = .returned (.tuple #[]) /\ RowS w' R 61 13 n V /\ w.grownBy w' (some R)
theorem ent_nd (ks : Nat -> Int) (vs : Nat -> Value) (n : Nat) : ((entL ks vs n).toArray.toList.map (·.born)).Nodup := by
 unfold entL
 rw [List.map_map]
 have : ((fun x : MapEntry => x.born) ∘ fun j => (⟨.int .i64 (ks j), vs j, j⟩ : MapEntry)) = fun j => j := rfl
 rw [this, List.map_id']
 exact List.nodup_range
theorem left_mem {ks : Nat -> Int} {vs : Nat -> Value} {n : Nat} {ps : List Nat} {e : MapEntry} (h : e ∈ (leftOf (entL ks vs n).toArray ps.toArray).toList) : ∃ j, j < n /\ j ∉ ps /\ e = ⟨.int .i64 (ks j), vs j, j⟩ := by
 unfold leftOf at h
 rw [Array.toList_filter, List.mem_filter] at h
 obtain ⟨h1, h2⟩ := h
 obtain ⟨j, hj, rfl⟩ := ent_key (by simpa using h1)
 exact ⟨j, hj, by simpa using h2, rfl⟩
theorem left_none {ks : Nat -> Int} {vs : Nat -> Value} {n : Nat} {ps : List Nat} (h : (leftOf (entL ks vs n).toArray ps.toArray).size = 0) : ∀ j, j < n -> j ∈ ps := by
 intro j hj
 have h0 : leftOf (entL ks vs n).toArray ps.toArray = #[] := Array.size_eq_zero_iff.1 h
 unfold leftOf at h0
 rw [Array.filter_eq_empty_iff] at h0
 have := h0 ⟨.int .i64 (ks j), vs j, j⟩ (by
  simp [entL]
  exact ⟨j, hj, rfl, rfl, rfl⟩)
 simpa using this
end Go.Proofs.YtlhjiiifmfgnoaaGreat
