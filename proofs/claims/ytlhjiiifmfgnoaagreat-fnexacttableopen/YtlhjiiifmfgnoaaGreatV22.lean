/- Texts that the proof needs, joined: TableOpenL. -/
import Derived.Test.YtlhjiiifmfgnoaaGreatV21
import Derived.Test.YtlhjiiifmfgnoaaGreatV4
import Derived.Test.YtlhjiiifmfgnoaaGreatV2
set_option linter.unusedVariables false
set_option linter.unusedSimpArgs false
set_option maxHeartbeats 16000000
set_option maxRecDepth 20000
namespace Go.Proofs.YtlhjiiifmfgnoaaGreat
open Go.RowKit Go.Joins
theorem own1_fl2 {w : World} {lo hi : Nat} {Y : VT} {p : Option Addr} {m d : Nat} (h : Own1 w lo hi (tT Y) (tL Y p m d)) : Fl w lo [(Tr.list 13 Y.m (fun i => trs (dT (Y.f i))))] [.slice p m d] := by
 obtain ⟨K, h1, h2, h3, h4⟩ := h
 exact Fl.one (h2 1 _ rfl) (fun b hb => ((h3 1 (show 1 < 2 from by decide)).2 b hb).1)
theorem Tryz.infoD35 : (Tryz.prog.info? 35).map (fun i => (i.zero, i.size, i.bytes)) = some (some (.agg tz), 2, 32) := by kernel_rfl
theorem Blk.cgX {w w' : World} {S : Nat -> Prop} {b : Nat} {t : TypeId} {cs : Array Value} (h : Blk w b t cs) (hc : Cg w w' S) (hn : ¬ S b) : Blk w' b t cs := (hc.block b h.lt hn).trans h
theorem OpQ.s {w w' : World} {e : Ending} {ok : Bool} {X : VT} {D : VD} (h : OpQ w w' e ok X D) : OpS w w' e ok X D := by
 obtain ⟨p, d, he, o, b⟩ := h
 exact ⟨p, d, he, own1_fl2 o, b⟩
theorem bk_tz {w : World} {b : Nat} (h : Blk w b 35 tz) (vs : List Value) (hv : vs.length = 2) : Blk (setL w b 0 vs) b 35 vs.toArray := by
 match vs, hv with
 | [v0, v1], _ => exact Blk.wr h (by simp [wrA])
theorem tableOpen_law (X : VT) (a : Option Addr) (c : Nat) (so ta un : Int) (Q : VQ) (q1 : Option Addr) (k1 : Nat) (q2 : Option Addr) (k2 : Nat) (np : Nat) (g : Nat -> VP) (p3 : Option Addr) (k3 : Nat) (w : World)
 (hT : Rd w 0 (Tr.list 13 X.m (fun i => trs (dT (X.f i)))) (.slice a X.m c)) (r1 : Rd w 0 (intsT Q.ws) (.slice q1 Q.ws.length k1)) (r2 : Rd w 0 (boolsT Q.bs) (.slice q2 Q.bs.length k2)) (r3 : Rd w 0 (Tr.list 8 np (fun i => trs (pT (g i)))) (.slice p3 np k3)) (hz : szT 2 (trs (tT X)) + szT 6 (trs (qT Q)) + (Tr.list 8 np (fun i => trs (pT (g i)))).sz <= 1048576) :
 Calls Tryz.prog 3 #[.agg (tL X a X.m c).toArray, .int .i64 so, .int .i64 ta, .int .i64 un, .agg (qL Q q1 Q.ws.length k1 q2 Q.bs.length k2).toArray, .slice p3 np k3] w fun e w' => e = .returned (.bool true) /\ Below w.heap.size w w' := by
 obtain ⟨BT, hBT⟩ : ∃ B, B = w.heap.size := ⟨_, rfl⟩
 obtain ⟨BQ, hBQ⟩ : ∃ B, B = w.heap.size + 1 := ⟨_, rfl⟩
 obtain ⟨W, hW⟩ : ∃ W, W = (w.alloc (.cells (tL X a X.m c).toArray 24)).alloc (.cells (qL Q q1 Q.ws.length k1 q2 Q.bs.length k2).toArray 28) := ⟨_, rfl⟩
 have HR : Hid (Rd w 0 (Tr.list 13 X.m (fun i => trs (dT (X.f i)))) (.slice a X.m c) /\ Rd w 0 (intsT Q.ws) (.slice q1 Q.ws.length k1) /\ Rd w 0 (boolsT Q.bs) (.slice q2 Q.bs.length k2) /\ Rd w 0 (Tr.list 8 np (fun i => trs (pT (g i)))) (.slice p3 np k3)) := ⟨hT, r1, r2, r3⟩
 have H0 : Hid (Below w.heap.size w W /\ Blk W BT 24 (tL X a X.m c).toArray /\ Blk W BQ 28 (qL Q q1 Q.ws.length k1 q2 Q.bs.length k2).toArray) := by
  refine ⟨?_, ?_, ?_⟩
  ·rw [hW]; exact bel_nx (bel_alloc w _) (bel_alloc _ _)
  ·rw [hW, hBT]; exact (Blk.new w _ _).below (bel_alloc _ _)
  rw [hW, hBQ]; have := Blk.new (w.alloc (.cells (tL X a X.m c).toArray 24)) (qL Q q1 Q.ws.length k1 q2 Q.bs.length k2).toArray 28; simpa using this
 have HN : Hid (BT = w.heap.size /\ BQ = w.heap.size + 1 /\ W.heap.size = w.heap.size + 2) := ⟨hBT, hBQ, by rw [hW]; simp⟩
 obtain ⟨ok, hok⟩ : ∃ ok, ok = okO X (nwD X so ta un Q np g) := ⟨_, rfl⟩
 obtain ⟨Y, hY⟩ : ∃ Y, Y = opT (okO X (nwD X so ta un Q np g)) X (nwD X so ta un Q np g) := ⟨_, rfl⟩
 obtain ⟨I, hI⟩ : ∃ I, I = opI (okO X (nwD X so ta un Q np g)) X := ⟨_, rfl⟩
 have HY : Hid (Y = opT (okO X (nwD X so ta un Q np g)) X (nwD X so ta un Q np g) /\ ok = okO X (nwD X so ta un Q np g) /\ I = opI (okO X (nwD X so ta un Q np g)) X /\ szT 2 (trs (tT Y)) <= 2000000 /\ csVT Y <= 16000000) := ⟨hY, hok, hI, by rw [hY]; exact (opT_sz X so ta un Q np g hz).1, by rw [hY]; exact (opT_sz X so ta un Q np g hz).2⟩
 obtain ⟨f1, hf1⟩ : ∃ f : Nat, f = 1048576 - szT 2 (trs (tT X)) := ⟨_, rfl⟩
 obtain ⟨f2, hf2⟩ : ∃ f : Nat, f = f1 - szT 6 (trs (qT Q)) := ⟨_, rfl⟩
 obtain ⟨f3, hf3⟩ : ∃ f : Nat, f = f2 - (Tr.list 8 np (fun i => trs (pT (g i)))).sz := ⟨_, rfl⟩
 have HF : Hid (lfT 1048576 (szT 2 (trs (tT X))) = (f1 : Int) /\ lfT f1 (szT 6 (trs (qT Q))) = (f2 : Int) /\ lfT f2 (Tr.list 8 np (fun i => trs (pT (g i)))).sz = (f3 : Int) /\ f1 <= 1048576 /\ f2 <= 1048576) := ⟨by unfold lfT; rw [if_pos (by omega)]; omega, by unfold lfT; rw [if_pos (by omega)]; omega, by unfold lfT; rw [if_pos (by omega)]; omega, by omega, by omega⟩
 have HZ : Hid (szT 2 (trs (tT X)) <= 1048576 /\ szT 6 (trs (qT Q)) <= 1048576 /\ (Tr.list 8 np (fun i => trs (pT (g i)))).sz <= 1048576 /\ szT 2 (trs (tT X)) + szT 6 (trs (qT Q)) + (Tr.list 8 np (fun i => trs (pT (g i)))).sz <= 1048576) := ⟨by omega, by omega, by omega, hz⟩
 have n1 : ¬ ((f1 : Int) < 0) := by omega
 have n2 : ¬ ((f2 : Int) < 0) := by omega
 have n3 : ¬ ((f3 : Int) < 0) := by omega
 clear hT r1 r2 r3 hz hok hY hI hf1 hf2 hf3
 go_enter Tryz.func3, Tryz.ntmps3
 go_upto_region 1 with fail
 rw [<- hW, <- hBQ, <- hBT]
 clear hW hBQ hBT
 obtain ⟨⟨y0, y1⟩, yf⟩ := H0.out.2.1.tc2
 clear yf
 go_wp2_with fail
 refine (szTable_t X a _ c 1048576 _ (HR.out.1.below H0.out.1) (Nat.le_refl _)).mono ?_
 rintro e w1 ⟨rfl, b'⟩
 rw [HF.out.1]
 have H1 : Hid (Below w.heap.size w w1 /\ Blk w1 BT 24 (tL X a X.m c).toArray /\ Blk w1 BQ 28 (qL Q q1 Q.ws.length k1 q2 Q.bs.length k2).toArray) := ⟨bel_nx H0.out.1 b', H0.out.2.1.below b', H0.out.2.2.below b'⟩
 clear b' H0 y0 y1
 obtain ⟨⟨y0, y1, y2, y3, y4, y5⟩, yf⟩ := H1.out.2.2.tc6
 clear yf
 go_wp2_with fail
 refine (szReq_t Q q1 _ k1 q2 _ k2 f1 _ (HR.out.2.1.below H1.out.1) (HR.out.2.2.1.below H1.out.1) HF.out.2.2.2.1).mono ?_
 rintro e w2 ⟨rfl, b'⟩
 rw [HF.out.2.1]
 have H2 : Hid (Below w.heap.size w w2 /\ Blk w2 BT 24 (tL X a X.m c).toArray /\ Blk w2 BQ 28 (qL Q q1 Q.ws.length k1 q2 Q.bs.length k2).toArray) := ⟨bel_nx H1.out.1 b', H1.out.2.1.below b', H1.out.2.2.below b'⟩
 clear b' H1 y0 y1 y2 y3 y4 y5
 go_wp2_with fail
 refine (szPartS_t np g p3 _ k3 f2 _ (HR.out.2.2.2.below H2.out.1) HF.out.2.2.2.2).mono ?_
 rintro e w3 ⟨rfl, b'⟩
 rw [HF.out.2.2.1]
 have H3 : Hid (Below w.heap.size w w3 /\ Blk w3 BT 24 (tL X a X.m c).toArray /\ Blk w3 BQ 28 (qL Q q1 Q.ws.length k1 q2 Q.bs.length k2).toArray) := ⟨bel_nx H2.out.1 b', H2.out.2.1.below b', H2.out.2.2.below b'⟩
 clear b' H2
 go_upto_region 11 with fail
 try go_simp
 refine wp_region_any (by kernel_rfl) ?_
 refine wpAny_te 15 14 14 (fun i => i == 12 || (i == 13 || (i == 16 || i == 17))) (fun u => Below w3.heap.size w3 u) (fun b u => Blk u b 35 tz /\ w3.heap.size <= b) (fun v u => ∃ b9 p d, v = .pointer (some ⟨b9, 0, none⟩) /\ w3.heap.size <= b9 /\ Blk u b9 35 (tL Y p Y.m d).toArray /\ Fl u w3.heap.size [(Tr.list 13 Y.m (fun i => trs (dT (Y.f i))))] [.slice p Y.m d] /\ Below w3.heap.size w3 u) (fun i v ob u => match i with
  | 0 => v = .agg (tL X a X.m c).toArray
  | 1 => ∃ b1 d1, v = .agg (tL X b1 X.m d1).toArray /\ Rd u 0 (Tr.list 13 X.m (fun i => trs (dT (X.f i)))) (.slice b1 X.m d1)
  | 2 => v = .int .i64 so
  | 3 => v = .int .i64 ta
  | 4 => v = .int .i64 un
  | 5 => v = .agg (qL Q q1 Q.ws.length k1 q2 Q.bs.length k2).toArray
  | 6 => ∃ b1 d1 b2 d2, v = .agg (qL Q b1 Q.ws.length d1 b2 Q.bs.length d2).toArray /\ Rd u 0 (intsT Q.ws) (.slice b1 Q.ws.length d1) /\ Rd u 0 (boolsT Q.bs) (.slice b2 Q.bs.length d2)
  | 7 => v = .slice p3 np k3
  | 8 => ∃ b1 d1, v = .slice b1 np d1 /\ Rd u 0 (Tr.list 8 np (fun i => trs (pT (g i)))) (.slice b1 np d1)
  | 9 => ∃ p d, v = .tuple #[.agg (tL Y p Y.m d).toArray, .int .i64 I, .bool ok] /\ FlA u w3.heap.size ob [(Tr.list 13 Y.m (fun i => trs (dT (Y.f i))))] [.slice p Y.m d]
  | 10 => ∃ p d, v = .tuple #[.agg (tL Y p Y.m d).toArray, .int .i64 I, .bool ok] /\ FlA u w3.heap.size ob [(Tr.list 13 Y.m (fun i => trs (dT (Y.f i))))] [.slice p Y.m d]
  | 11 => ∃ p d, v = .agg (tL Y p Y.m d).toArray /\ FlA u w3.heap.size ob [(Tr.list 13 Y.m (fun i => trs (dT (Y.f i))))] [.slice p Y.m d]
  | 12 => v = .int .i64 I
  | 13 => v = .bool ok
  | 16 => v = .int .i64 I
  | 17 => v = .bool ok
  | _ => True) (fun i v => match i with
  | 10 => ∃ p d, v = .tuple #[.agg (tL Y p Y.m d).toArray, .int .i64 I, .bool ok]
  | 12 => v = .int .i64 I
  | 13 => v = .bool ok
  | 16 => v = .int .i64 I
  | 17 => v = .bool ok
  | _ => True) (by kernel_rfl) (by kernel_rfl) (by decide) (by kernel_rfl) (by decide) rfl rfl rfl (fun u u' h hb => bel_nx h hb) (fun b u u' h hb => ⟨h.1.below hb, h.2⟩) ?_ ?_ ?_ (by first | exact Below.refl _ _ | exact (Below.refl _ _).drew) ?_ ?_ ?_ ?_ ?_ _ _ rfl (by decide) (fun i => by simp [Array.getD]; try (split <;> rfl))
 ·intro i v ob u u' h hb
  match i, h with
  | 0, h => exact h
  | 1, ⟨b1, d1, e, r⟩ => exact ⟨b1, d1, e, r.below hb⟩
  | 2, h => exact h
  | 3, h => exact h
  | 4, h => exact h
  | 5, h => exact h
  | 6, ⟨b1, d1, b2, d2, e, r, r9⟩ => exact ⟨b1, d1, b2, d2, e, r.below hb, r9.below hb⟩
  | 7, h => exact h
  | 8, ⟨b1, d1, e, r⟩ => exact ⟨b1, d1, e, r.below hb⟩
  | 9, ⟨p, d, e, r⟩ => exact ⟨p, d, e, r.below hb⟩
  | 10, ⟨p, d, e, r⟩ => exact ⟨p, d, e, r.below hb⟩
  | 11, ⟨p, d, e, r⟩ => exact ⟨p, d, e, r.below hb⟩
  | 12, h => exact h
  | 13, h => exact h
  | 14, _ => trivial
  | 15, _ => trivial
  | 16, h => exact h
  | 17, h => exact h
  | _ + 18, _ => trivial
 ·intro i v u u' b9 h hb9 hb
  match i, h with
  | 0, h => exact h
  | 1, ⟨b1, d1, e, r⟩ => exact ⟨b1, d1, e, r.below hb⟩
  | 2, h => exact h
  | 3, h => exact h
  | 4, h => exact h
  | 5, h => exact h
  | 6, ⟨b1, d1, b2, d2, e, r, r9⟩ => exact ⟨b1, d1, b2, d2, e, r.below hb, r9.below hb⟩
  | 7, h => exact h
  | 8, ⟨b1, d1, e, r⟩ => exact ⟨b1, d1, e, r.below hb⟩
  | 9, ⟨p, d, e, r⟩ => exact ⟨p, d, e, (r.new hb9).below hb⟩
  | 10, ⟨p, d, e, r⟩ => exact ⟨p, d, e, (r.new hb9).below hb⟩
  | 11, ⟨p, d, e, r⟩ => exact ⟨p, d, e, (r.new hb9).below hb⟩
  | 12, h => exact h
  | 13, h => exact h
  | 14, _ => trivial
  | 15, _ => trivial
  | 16, h => exact h
  | 17, h => exact h
  | _ + 18, _ => trivial
 ·intro i v ob u h
  match i, h with
  | 0, _ => trivial
  | 1, _ => trivial
  | 2, _ => trivial
  | 3, _ => trivial
  | 4, _ => trivial
  | 5, _ => trivial
  | 6, _ => trivial
  | 7, _ => trivial
  | 8, _ => trivial
  | 9, _ => trivial
  | 10, ⟨p, d, e, r⟩ => exact ⟨p, d, e⟩
  | 11, _ => trivial
  | 12, h => exact h
  | 13, h => exact h
  | 14, _ => trivial
  | 15, _ => trivial
  | 16, h => exact h
  | 17, h => exact h
  | _ + 18, _ => trivial
 rotate_left
 ·intro u o ρ hR ho
  simp only [List.getElem?_toArray, List.getElem?_cons_zero, List.getElem?_cons_succ, Option.some.injEq] at ho
  subst ho
  exact ⟨rfl, _, run_alloc_y 35 rfl tz 2 32 Tryz.infoD35, ⟨Blk.new _ _ _, hR.size⟩, by simp, (Below.refl _ _).alloc (Nat.le_refl _) _⟩
 ·intro u i o ρ ob hfl hiA hiS hR hbo ho hρ hc hf hd
  have hi : i < 18 := by
   have := (Array.getElem?_eq_some_iff.1 ho).1
   simpa using this
  have hi2 : i < 12 := by
   have : ¬ (i = 12 \/ i = 13 \/ i = 16 \/ i = 17) := fun q => by rcases q with rfl | rfl | rfl | rfl <;> cases hfl
   omega
  obtain rfl | rfl | rfl | rfl | rfl | rfl | rfl | rfl | rfl | rfl | rfl | rfl : i = 0 \/ i = 1 \/ i = 2 \/ i = 3 \/ i = 4 \/ i = 5 \/ i = 6 \/ i = 7 \/ i = 8 \/ i = 9 \/ i = 10 \/ i = 11 := by omega
  all_goals (simp only [List.getElem?_toArray, List.getElem?_cons_zero, List.getElem?_cons_succ, Option.some.injEq] at ho; subst ho)
  ·have s0 : ρ (.tmp 6) = .pointer (some ⟨BT, 0, none⟩) := (hρ 6 (by kernel_rfl)).trans rfl
   exact .inl ⟨rfl, .inl ⟨_, u, run_load_op rfl s0 (run_loadAt_mid u BT 0 24 (tL X a X.m c) _ (H3.out.2.1.below hR).all Tryz.underlying24 rfl (by kernel_rfl)), rfl, Below.refl _ _⟩⟩
  ·have h0 : ρ (.tmp 45) = .agg (tL X a X.m c).toArray := hd ⟨0, .data⟩ (by simp) rfl (by decide) rfl 45 rfl
   refine .inl ⟨rfl, .inr ⟨_, _, run_call_op rfl (hf _) (args := #[.agg (tL X a X.m c).toArray]) (by simp [h0]) (by kernel_rfl), ?_⟩⟩
   refine (toTable_m X a _ c _ (HR.out.1.below (bel_nx H3.out.1 hR)) HZ.out.1).mono ?_
   rintro e u' ⟨b1, d1, he, o1, b'⟩
   exact ⟨_, he, ⟨b1, d1, rfl, o1.rd0 1 _ rfl⟩, b'⟩
  ·have s0 : ρ (.tmp 1) = .int .i64 so := (hρ 1 (by kernel_rfl)).trans rfl
   exact .inl ⟨rfl, .inl ⟨_, u, rfl, s0, Below.refl _ _⟩⟩
  ·have s0 : ρ (.tmp 2) = .int .i64 ta := (hρ 2 (by kernel_rfl)).trans rfl
   exact .inl ⟨rfl, .inl ⟨_, u, rfl, s0, Below.refl _ _⟩⟩
  ·have s0 : ρ (.tmp 3) = .int .i64 un := (hρ 3 (by kernel_rfl)).trans rfl
   exact .inl ⟨rfl, .inl ⟨_, u, rfl, s0, Below.refl _ _⟩⟩
  ·have s0 : ρ (.tmp 10) = .pointer (some ⟨BQ, 0, none⟩) := (hρ 10 (by kernel_rfl)).trans rfl
   exact .inl ⟨rfl, .inl ⟨_, u, run_load_op rfl s0 (run_loadAt_mid u BQ 0 28 (qL Q q1 Q.ws.length k1 q2 Q.bs.length k2) _ (H3.out.2.2.below hR).all Tryz.underlying28 rfl (by kernel_rfl)), rfl, Below.refl _ _⟩⟩
  ·have h0 : ρ (.tmp 50) = .agg (qL Q q1 Q.ws.length k1 q2 Q.bs.length k2).toArray := hd ⟨5, .data⟩ (by simp) rfl (by decide) rfl 50 rfl
   refine .inl ⟨rfl, .inr ⟨_, _, run_call_op rfl (hf _) (args := #[.agg (qL Q q1 Q.ws.length k1 q2 Q.bs.length k2).toArray]) (by simp [h0]) (by kernel_rfl), ?_⟩⟩
   refine (toReq_m Q q1 _ k1 q2 _ k2 _ (HR.out.2.1.below (bel_nx H3.out.1 hR)) (HR.out.2.2.1.below (bel_nx H3.out.1 hR)) HZ.out.2.1).mono ?_
   rintro e u' ⟨b1, d1, b2, d2, he, o1, b'⟩
   exact ⟨_, he, ⟨b1, d1, b2, d2, rfl, o1.rd0 3 _ rfl, o1.rd0 4 _ rfl⟩, b'⟩
  ·have s0 : ρ (.tmp 5) = .slice p3 np k3 := (hρ 5 (by kernel_rfl)).trans rfl
   exact .inl ⟨rfl, .inl ⟨_, u, rfl, s0, Below.refl _ _⟩⟩
  ·have h0 : ρ (.tmp 52) = .slice p3 np k3 := hd ⟨7, .data⟩ (by simp) rfl (by decide) rfl 52 rfl
   refine .inl ⟨rfl, .inr ⟨_, _, run_call_op rfl (hf _) (args := #[.slice p3 np k3]) (by simp [h0]) (by kernel_rfl), ?_⟩⟩
   refine (toPartS_m np g p3 _ k3 _ (HR.out.2.2.2.below (bel_nx H3.out.1 hR)) HZ.out.2.2.1).mono ?_
   rintro e u' ⟨b1, d1, he, o1, b'⟩
   exact ⟨_, he, ⟨b1, d1, rfl, o1.rd.mono (Nat.zero_le _)⟩, b'⟩
  ·obtain ⟨t1, t2, h1, r1⟩ : ∃ b1 d1, ρ (.tmp 46) = .agg (tL X b1 X.m d1).toArray /\ Rd u 0 (Tr.list 13 X.m (fun i => trs (dT (X.f i)))) (.slice b1 X.m d1) := hd ⟨1, .data⟩ (by simp) rfl (by decide) rfl 46 rfl
   have h2 : ρ (.tmp 47) = .int .i64 so := hd ⟨2, .data⟩ (by simp) rfl (by decide) rfl 47 rfl
   have h3 : ρ (.tmp 48) = .int .i64 ta := hd ⟨3, .data⟩ (by simp) rfl (by decide) rfl 48 rfl
   have h4 : ρ (.tmp 49) = .int .i64 un := hd ⟨4, .data⟩ (by simp) rfl (by decide) rfl 49 rfl
   obtain ⟨b1, d1, b2, d2, h6, r6, r6'⟩ : ∃ b1 d1 b2 d2, ρ (.tmp 51) = .agg (qL Q b1 Q.ws.length d1 b2 Q.bs.length d2).toArray /\ Rd u 0 (intsT Q.ws) (.slice b1 Q.ws.length d1) /\ Rd u 0 (boolsT Q.bs) (.slice b2 Q.bs.length d2) := hd ⟨6, .data⟩ (by simp) rfl (by decide) rfl 51 rfl
   obtain ⟨b8, d8, h8, r8⟩ : ∃ b1 d1, ρ (.tmp 53) = .slice b1 np d1 /\ Rd u 0 (Tr.list 8 np (fun i => trs (pT (g i)))) (.slice b1 np d1) := hd ⟨8, .data⟩ (by simp) rfl (by decide) rfl 53 rfl
   refine .inl ⟨rfl, .inr ⟨_, _, run_call_op rfl (hf _) (args := #[.agg (tL X t1 X.m t2).toArray, .int .i64 so, .int .i64 ta, .int .i64 un, .agg (qL Q b1 Q.ws.length d1 b2 Q.bs.length d2).toArray, .slice b8 np d8]) (by simp [h1, h2, h3, h4, h6, h8]) (by kernel_rfl), ?_⟩⟩
   refine (specTableOpen_any X t1 t2 so ta un Q b1 d1 b2 d2 np g b8 d8 _ r1 HZ.out.1 r6 r6' r8 ⟨HZ.out.2.1, HZ.out.2.2.1⟩).mono ?_
   intro e u' h9
   obtain ⟨p, d, he, r9, b'⟩ := h9
   rw [<- HY.out.1] at he r9
   rw [<- HY.out.2.2.1, <- HY.out.2.1] at he
   exact ⟨_, he, ⟨p, d, rfl, (r9.flA hbo).lo hR.size⟩, b'⟩
  ·obtain ⟨p, d, h9, r9⟩ : ∃ p d, ρ (.tmp 54) = .tuple #[.agg (tL Y p Y.m d).toArray, .int .i64 I, .bool ok] /\ FlA u w3.heap.size ob [(Tr.list 13 Y.m (fun i => trs (dT (Y.f i))))] [.slice p Y.m d] := hd ⟨9, .data⟩ (by simp) rfl (by decide) rfl 54 rfl
   exact .inl ⟨rfl, .inl ⟨_, u, rfl, ⟨p, d, h9, r9⟩, Below.refl _ _⟩⟩
  obtain ⟨p, d, h9, r9⟩ : ∃ p d, ρ (.tmp 44) = .tuple #[.agg (tL Y p Y.m d).toArray, .int .i64 I, .bool ok] /\ FlA u w3.heap.size ob [(Tr.list 13 Y.m (fun i => trs (dT (Y.f i))))] [.slice p Y.m d] := hd ⟨10, .data⟩ (by simp) rfl (by decide) rfl 44 rfl
  exact .inl ⟨rfl, .inl ⟨_, u, run_ext_x rfl h9 rfl, ⟨p, d, rfl, r9⟩, Below.refl _ _⟩⟩
 ·intro u i o ρ hfl ho hρ hc hd
  obtain rfl | rfl | rfl | rfl : i = 12 \/ i = 13 \/ i = 16 \/ i = 17 := by simpa using hfl
  all_goals (simp only [List.getElem?_toArray, List.getElem?_cons_zero, List.getElem?_cons_succ, Option.some.injEq] at ho; subst ho)
  ·obtain ⟨p, d, h9⟩ : ∃ p d, ρ (.tmp 44) = .tuple #[.agg (tL Y p Y.m d).toArray, .int .i64 I, .bool ok] := hd ⟨10, .data⟩ (by simp) rfl (by decide) 44 rfl
   exact ⟨rfl, _, run_ext_x rfl h9 rfl, rfl⟩
  ·obtain ⟨p, d, h9⟩ : ∃ p d, ρ (.tmp 44) = .tuple #[.agg (tL Y p Y.m d).toArray, .int .i64 I, .bool ok] := hd ⟨10, .data⟩ (by simp) rfl (by decide) 44 rfl
   exact ⟨rfl, _, run_ext_x rfl h9 rfl, rfl⟩
  ·have h9 : ρ (.tmp 56) = .int .i64 I := hd ⟨12, .data⟩ (by simp) rfl (by decide) 56 rfl
   exact ⟨rfl, _, rfl, h9⟩
  have h9 : ρ (.tmp 57) = .bool ok := hd ⟨13, .data⟩ (by simp) rfl (by decide) 57 rfl
  exact ⟨rfl, _, rfl, h9⟩
 ·intro u o ρ b9 hR ho hρ hc hdA hbx hv
  simp only [List.getElem?_toArray, List.getElem?_cons_zero, List.getElem?_cons_succ, Option.some.injEq] at ho
  subst ho
  obtain ⟨p, d, h9, r9⟩ : ∃ p d, ρ (.tmp 55) = .agg (tL Y p Y.m d).toArray /\ FlA u w3.heap.size (some b9) [(Tr.list 13 Y.m (fun i => trs (dT (Y.f i))))] [.slice p Y.m d] := hv 11 55 (by decide) rfl rfl
  have gs : u.grownBy (setL u b9 0 (tL Y p Y.m d)) (some b9) := setL_gw _ _ _
  exact ⟨rfl, setL u b9 0 (tL Y p Y.m d), run_store_op rfl hdA h9 ((run_storeAt_mid u b9 0 35 (tL Y p Y.m d).toArray (hbx.1.there 0 2 (by simp)) (by kernel_rfl) (by simp [Value.oneCell'])).trans (by rw [setCells_L])), b9, p, d, rfl, hbx.2, bk_tz hbx.1 _ rfl, r9.kept gs, setL_below hbx.2 _ _ _ hR⟩
 intro vs σ u hE hΨ hvs
 obtain ⟨B1, p1, d1, e1, q1', kP, fP, bP⟩ := hE
 have f14 : vs 14 = .pointer (some ⟨B1, 0, none⟩) := (hvs 14 14 rfl).trans e1
 have f16 : vs 16 = .int .i64 I := (hvs 16 15 rfl).trans (hΨ 16 15 (by decide) (by decide) rfl)
 have f17 : vs 17 = .bool ok := (hvs 17 16 rfl).trans (hΨ 17 16 (by decide) (by decide) rfl)
 simp only [putsL]
 rw [f14, f16, f17]
 clear f14 f16 f17 e1 hΨ hvs
 have G0 : Hid (Below w.heap.size w u /\ Blk u BT 24 (tL X a X.m c).toArray /\ Blk u BQ 28 (qL Q q1 Q.ws.length k1 q2 Q.bs.length k2).toArray /\ Blk u B1 35 (tL Y p1 Y.m d1).toArray /\ Below u.heap.size u u) := ⟨bel_nx H3.out.1 bP, H3.out.2.1.below bP, H3.out.2.2.below bP, kP, Below.refl _ _⟩
 have RS : Hid (Rd u 0 (Tr.list 13 Y.m (fun i => trs (dT (Y.f i)))) (.slice p1 Y.m d1) /\ BQ < u.heap.size /\ B1 < u.heap.size /\ BT < BQ) := ⟨(fP.rd 0 _ rfl).mono (Nat.zero_le _), (H3.out.2.2.below bP).lt, kP.lt, by have := HN.out; omega⟩
 clear q1' kP fP bP H3
 obtain ⟨⟨y0, y1⟩, yf⟩ := (G0.out.2.1).tc2
 clear yf
 go_wp2_with fail
 refine (toTable_m X a _ c _ (HR.out.1.below (G0.out.1)) HZ.out.1).mono ?_
 rintro e w5 ⟨x1, x2, rfl, O5, b'⟩
 clear y0 y1
 obtain ⟨hx, hhx⟩ : ∃ l, l = w5.heap.size := ⟨_, rfl⟩
 obtain ⟨W5, hW5⟩ : ∃ W, W = w5.alloc (.cells (tL X x1 X.m x2).toArray 35) := ⟨_, rfl⟩
 have bW : Below w5.heap.size w5 W5 := by rw [hW5]; exact bel_alloc _ _
 have bb := bel_nx b' bW
 have NX : Hid (u.heap.size <= hx /\ hx + 1 = W5.heap.size) := ⟨by have := b'.size; omega, by rw [hW5, hhx]; simp⟩
 have G1 : Hid (Below w.heap.size w W5 /\ Blk W5 BT 24 (tL X a X.m c).toArray /\ Blk W5 BQ 28 (qL Q q1 Q.ws.length k1 q2 Q.bs.length k2).toArray /\ Blk W5 B1 35 (tL Y p1 Y.m d1).toArray /\ Below u.heap.size u W5 /\ Blk W5 hx 35 (tL X x1 X.m x2).toArray /\ Own1 W5 u.heap.size hx (tT X) (tL X x1 X.m x2)) := ⟨bel_nx (G0.out.1) bb, (G0.out.2.1).below bb, (G0.out.2.2.1).below bb, (G0.out.2.2.2.1).below bb, bel_nx (G0.out.2.2.2.2) bb, by rw [hW5, hhx]; exact Blk.new _ _ _, by rw [hhx]; exact O5.below bW (Nat.le_refl _)⟩
 clear G0
 clear b' bW bb O5
 go_upto_region 13 with fail
 rw [<- hhx]
 have hW5' : W5 = w5.alloc (.cells #[.int .i64 X.nx, .slice x1 X.m x2] 35) := hW5
 rw [<- hW5']
 clear hW5 hW5' hhx
 obtain ⟨⟨y0, y1, y2, y3, y4, y5⟩, yf⟩ := (G1.out.2.2.1).tc6
 clear yf
 go_wp2_with fail
 refine (toReq_m Q q1 _ k1 q2 _ k2 _ (HR.out.2.1.below (G1.out.1)) (HR.out.2.2.1.below (G1.out.1)) HZ.out.2.1).mono ?_
 rintro e w6 ⟨z1, z2, z3, z4, rfl, O6, b'⟩
 clear y0 y1 y2 y3 y4 y5
 obtain ⟨hq, hhq⟩ : ∃ l, l = w6.heap.size := ⟨_, rfl⟩
 obtain ⟨W6, hW6⟩ : ∃ W, W = w6.alloc (.cells (qL Q z1 Q.ws.length z2 z3 Q.bs.length z4).toArray 39) := ⟨_, rfl⟩
 have bW : Below w6.heap.size w6 W6 := by rw [hW6]; exact bel_alloc _ _
 have bb := bel_nx b' bW
 have NQ : Hid (hx + 1 <= hq /\ hq + 1 = W6.heap.size) := ⟨by have := b'.size; have := NX.out; omega, by rw [hW6, hhq]; simp⟩
 have G2 : Hid (Below w.heap.size w W6 /\ Blk W6 BT 24 (tL X a X.m c).toArray /\ Blk W6 BQ 28 (qL Q q1 Q.ws.length k1 q2 Q.bs.length k2).toArray /\ Blk W6 B1 35 (tL Y p1 Y.m d1).toArray /\ Below u.heap.size u W6 /\ Blk W6 hx 35 (tL X x1 X.m x2).toArray /\ Own1 W6 u.heap.size hx (tT X) (tL X x1 X.m x2) /\ Blk W6 hq 39 (qL Q z1 Q.ws.length z2 z3 Q.bs.length z4).toArray /\ Own1 W6 (hx + 1) hq (qT Q) (qL Q z1 Q.ws.length z2 z3 Q.bs.length z4)) := ⟨bel_nx (G1.out.1) bb, (G1.out.2.1).below bb, (G1.out.2.2.1).below bb, (G1.out.2.2.2.1).below bb, bel_nx (G1.out.2.2.2.2.1) bb, (G1.out.2.2.2.2.2.1).below bb, (G1.out.2.2.2.2.2.2).below bb (by have := NX.out; omega), by rw [hW6, hhq]; exact Blk.new _ _ _, by rw [hhq, NX.out.2]; exact O6.below bW (Nat.le_refl _)⟩
 clear G1
 clear b' bW bb O6
 go_upto_region 14 with fail
 rw [<- hhq]
 have hW6' : W6 = w6.alloc (.cells #[.int .i64 Q.kd, .int .i64 Q.pl, .int .i64 Q.n, .slice z1 Q.ws.length z2, .slice z3 Q.bs.length z4, .int .i64 Q.wa] 39) := hW6
 rw [<- hW6']
 clear hW6 hW6' hhq
 go_wp2_with fail
 refine (toPartS_m np g p3 _ k3 _ (HR.out.2.2.2.below (G2.out.1)) HZ.out.2.2.1).mono ?_
 rintro e w7 ⟨s1, s2, rfl, ⟨Kx, Fx, okx, lox⟩, bb⟩
 obtain ⟨lg, hlg⟩ : ∃ l, l = w7.heap.size := ⟨_, rfl⟩
 have NK : Hid (∀ b, Kx.bl b -> hq + 1 <= b /\ b < lg) := fun b hb => by have q1 := lox b hb; have q2 := Fx.lt hb; have := NQ.out; omega
 have NKo : Hid Kx.ok := okx
 have NL : Hid (hq + 1 <= lg /\ lg = w7.heap.size) := ⟨by have := NQ.out; have := bb.size; omega, hlg⟩
 have G3 : Hid (Below w.heap.size w w7 /\ Blk w7 BT 24 (tL X a X.m c).toArray /\ Blk w7 BQ 28 (qL Q q1 Q.ws.length k1 q2 Q.bs.length k2).toArray /\ Blk w7 B1 35 (tL Y p1 Y.m d1).toArray /\ Below u.heap.size u w7 /\ Blk w7 hx 35 (tL X x1 X.m x2).toArray /\ Own1 w7 u.heap.size hx (tT X) (tL X x1 X.m x2) /\ Blk w7 hq 39 (qL Q z1 Q.ws.length z2 z3 Q.bs.length z4).toArray /\ Own1 w7 (hx + 1) hq (qT Q) (qL Q z1 Q.ws.length z2 z3 Q.bs.length z4) /\ Fit w7 (Tr.list 8 np (fun i => trs (pT (g i)))) Kx (.slice s1 np s2)) := ⟨bel_nx (G2.out.1) bb, (G2.out.2.1).below bb, (G2.out.2.2.1).below bb, (G2.out.2.2.2.1).below bb, bel_nx (G2.out.2.2.2.2.1) bb, (G2.out.2.2.2.2.2.1).below bb, (G2.out.2.2.2.2.2.2.1).below bb (by have := NX.out; have := NQ.out; omega), (G2.out.2.2.2.2.2.2.2.1).below bb, (G2.out.2.2.2.2.2.2.2.2).below bb (by have := NX.out; have := NQ.out; omega), Fx⟩
 clear G2
 clear bb Fx okx lox hlg
 obtain ⟨⟨y0, y1⟩, yf⟩ := (G3.out.2.2.2.2.2.1).tc2
 clear yf
 obtain ⟨⟨v0, v1, v2, v3, v4, v5⟩, yf⟩ := (G3.out.2.2.2.2.2.2.2.1).tc6
 clear yf
 go_wp2_with fail
 refine (implTableOpen_any X x1 x2 so ta un Q z1 z2 z3 z4 np g s1 s2 _ ((G3.out.2.2.2.2.2.2.1).rd0 1 _ rfl) HZ.out.1 ((G3.out.2.2.2.2.2.2.2.2.1).rd0 3 _ rfl) ((G3.out.2.2.2.2.2.2.2.2.1).rd0 4 _ rfl) ((G3.out.2.2.2.2.2.2.2.2.2).rd (fun _ _ => Nat.zero_le _)) ⟨HZ.out.2.1, HZ.out.2.2.1⟩).mono ?_
 rintro e w8 ⟨g1, g2, rfl, O8, b'⟩
 rw [<- HY.out.1] at O8 ⊢
 rw [<- HY.out.2.2.1, <- HY.out.2.1]
 clear y0 y1 v0 v1 v2 v3 v4 v5
 obtain ⟨B2, hB2⟩ : ∃ l, l = w8.heap.size := ⟨_, rfl⟩
 obtain ⟨W8, hW8⟩ : ∃ W, W = w8.alloc (.cells (tL Y g1 Y.m g2).toArray 35) := ⟨_, rfl⟩
 have bW : Below w8.heap.size w8 W8 := by rw [hW8]; exact bel_alloc _ _
 have bb := bel_nx b' bW
 have NUM : Hid (BT = w.heap.size /\ BT < BQ /\ BQ < u.heap.size /\ B1 < u.heap.size /\ u.heap.size <= hx /\ hx + 1 <= hq /\ hq + 1 <= lg /\ lg <= B2) := ⟨HN.out.1, RS.out.2.2.2, RS.out.2.1, RS.out.2.2.1, NX.out.1, NQ.out.1, NL.out.1, by have := b'.size; have := NL.out; omega⟩
 have G4 : Hid (Below w.heap.size w W8 /\ Blk W8 BT 24 (tL X a X.m c).toArray /\ Blk W8 BQ 28 (qL Q q1 Q.ws.length k1 q2 Q.bs.length k2).toArray /\ Blk W8 B1 35 (tL Y p1 Y.m d1).toArray /\ Below u.heap.size u W8 /\ Blk W8 hx 35 (tL X x1 X.m x2).toArray /\ Own1 W8 u.heap.size hx (tT X) (tL X x1 X.m x2) /\ Blk W8 hq 39 (qL Q z1 Q.ws.length z2 z3 Q.bs.length z4).toArray /\ Own1 W8 (hx + 1) hq (qT Q) (qL Q z1 Q.ws.length z2 z3 Q.bs.length z4) /\ Fit W8 (Tr.list 8 np (fun i => trs (pT (g i)))) Kx (.slice s1 np s2) /\ Blk W8 B2 35 (tL Y g1 Y.m g2).toArray /\ Own1 W8 lg B2 (tT Y) (tL Y g1 Y.m g2) /\ B2 < W8.heap.size) := ⟨bel_nx (G3.out.1) bb, (G3.out.2.1).below bb, (G3.out.2.2.1).below bb, (G3.out.2.2.2.1).below bb, bel_nx (G3.out.2.2.2.2.1) bb, (G3.out.2.2.2.2.2.1).below bb, (G3.out.2.2.2.2.2.2.1).below bb (by have := NUM.out; have := NL.out; omega), (G3.out.2.2.2.2.2.2.2.1).below bb, (G3.out.2.2.2.2.2.2.2.2.1).below bb (by have := NUM.out; have := NL.out; omega), (G3.out.2.2.2.2.2.2.2.2.2).below bb, by rw [hW8, hB2]; exact Blk.new _ _ _, by rw [hB2, NL.out.2]; exact O8.below bW (Nat.le_refl _), by rw [hW8, hB2]; simp⟩
 clear G3
 clear b' bW bb O8 NX NQ
 go_upto_region 16 with fail
 rw [<- hB2]
 have hW8' : W8 = w8.alloc (.cells #[.int .i64 Y.nx, .slice g1 Y.m g2] 35) := hW8
 rw [<- hW8']
 clear hW8 hW8' hB2
 have mi : (I != I) = false := by simp
 have mo : (ok != ok) = false := by simp
 obtain ⟨⟨y0, y1⟩, yf⟩ := (G4.out.2.2.2.2.2.2.2.2.2.2.1).tc2
 clear yf
 obtain ⟨⟨t0, t1⟩, yf⟩ := (G4.out.2.2.2.1).tc2
 clear yf
 go_wp2_with fail
 refine (eqTable_o Y g1 _ g2 p1 d1 lg B2 _ (G4.out.2.2.2.2.2.2.2.2.2.2.2.1) (RS.out.1.below (G4.out.2.2.2.2.1)) HY.out.2.2.2.1).mono ?_
 rintro e w9 ⟨rfl, bb⟩
 have G5 : Hid (Below w.heap.size w w9 /\ Blk w9 BT 24 (tL X a X.m c).toArray /\ Blk w9 BQ 28 (qL Q q1 Q.ws.length k1 q2 Q.bs.length k2).toArray /\ Blk w9 B1 35 (tL Y p1 Y.m d1).toArray /\ Below u.heap.size u w9 /\ Blk w9 hx 35 (tL X x1 X.m x2).toArray /\ Own1 w9 u.heap.size hx (tT X) (tL X x1 X.m x2) /\ Blk w9 hq 39 (qL Q z1 Q.ws.length z2 z3 Q.bs.length z4).toArray /\ Own1 w9 (hx + 1) hq (qT Q) (qL Q z1 Q.ws.length z2 z3 Q.bs.length z4) /\ Fit w9 (Tr.list 8 np (fun i => trs (pT (g i)))) Kx (.slice s1 np s2) /\ Blk w9 B2 35 (tL Y g1 Y.m g2).toArray /\ Own1 w9 lg B2 (tT Y) (tL Y g1 Y.m g2) /\ B2 < w9.heap.size) := ⟨bel_nx (G4.out.1) bb, (G4.out.2.1).below bb, (G4.out.2.2.1).below bb, (G4.out.2.2.2.1).below bb, bel_nx (G4.out.2.2.2.2.1) bb, (G4.out.2.2.2.2.2.1).below bb, (G4.out.2.2.2.2.2.2.1).below bb (by have := NUM.out; have := G4.out.2.2.2.2.2.2.2.2.2.2.2.2; omega), (G4.out.2.2.2.2.2.2.2.1).below bb, (G4.out.2.2.2.2.2.2.2.2.1).below bb (by have := NUM.out; have := G4.out.2.2.2.2.2.2.2.2.2.2.2.2; omega), (G4.out.2.2.2.2.2.2.2.2.2.1).below bb, (G4.out.2.2.2.2.2.2.2.2.2.2.1).below bb, (G4.out.2.2.2.2.2.2.2.2.2.2.2.1).below bb (by have := NUM.out; have := G4.out.2.2.2.2.2.2.2.2.2.2.2.2; omega), (by have := G4.out.2.2.2.2.2.2.2.2.2.2.2.2; have := (bb).size; omega)⟩
 clear G4
 clear bb y0 y1 t0 t1
 go_upto_region 18 with fail
 try go_simp
 refine wp_region_any (by kernel_rfl) ?_
 refine wpAny_vals (fun v9 => Below w9.heap.size w9 v9) (fun i v v9 => match i with
  | 0 => v = .agg (tL X x1 X.m x2).toArray
  | 1 => v = .agg (tL X a X.m c).toArray
  | 2 => ∃ b1 d1, v = .agg (tL X b1 X.m d1).toArray /\ Rd v9 0 (Tr.list 13 X.m (fun i => trs (dT (X.f i)))) (.slice b1 X.m d1)
  | 3 => v = .bool true
  | 4 => v = .bool false
  | _ => True) (by kernel_rfl) (by kernel_rfl) ?_ (by first | exact Below.refl _ _ | exact (Below.refl _ _).drew) ?_ ?_ _ _ rfl (by decide) (fun i => by simp [Array.getD]; try (split <;> rfl))
 ·intro i v v9 v9' h hb
  match i, h with
  | 0, h => exact h
  | 1, h => exact h
  | 2, ⟨b1, d1, e, r⟩ => exact ⟨b1, d1, e, r.below hb⟩
  | 3, h => exact h
  | 4, h => exact h
  | _ + 5, _ => trivial
 rotate_left
 ·intro v9 i o ρ hR ho hρ hc hf hd
  have hi : i < 5 := by
   have := (Array.getElem?_eq_some_iff.1 ho).1
   simpa using this
  obtain rfl | rfl | rfl | rfl | rfl : i = 0 \/ i = 1 \/ i = 2 \/ i = 3 \/ i = 4 := by omega
  all_goals (simp only [List.getElem?_toArray, List.getElem?_cons_zero, List.getElem?_cons_succ, Option.some.injEq] at ho; subst ho)
  ·have s0 : ρ (.tmp 17) = .pointer (some ⟨hx, 0, none⟩) := (hρ 17 (by kernel_rfl)).trans rfl
   exact .inl ⟨rfl, .inl ⟨_, v9, run_load_op rfl s0 (run_loadAt_mid v9 hx 0 35 (tL X x1 X.m x2) _ ((G5.out.2.2.2.2.2.1).below hR).all Tryz.underlying35 rfl (by kernel_rfl)), rfl, hR, Below.refl _ _⟩⟩
  ·have s0 : ρ (.tmp 6) = .pointer (some ⟨BT, 0, none⟩) := (hρ 6 (by kernel_rfl)).trans rfl
   exact .inl ⟨rfl, .inl ⟨_, v9, run_load_op rfl s0 (run_loadAt_mid v9 BT 0 24 (tL X a X.m c) _ ((G5.out.2.1).below hR).all Tryz.underlying24 rfl (by kernel_rfl)), rfl, hR, Below.refl _ _⟩⟩
  ·have h1 : ρ (.tmp 90) = .agg (tL X a X.m c).toArray := hd ⟨1, .data⟩ (by simp) rfl 90 rfl
   refine .inl ⟨rfl, .inr ⟨_, _, run_call_op rfl (hf _) (args := #[.agg (tL X a X.m c).toArray]) (by simp [h1]) (by kernel_rfl), ?_⟩⟩
   refine (toTable_m X a _ c _ (HR.out.1.below (bel_nx (G5.out.1) hR)) HZ.out.1).mono ?_
   rintro e v8 ⟨b1, d1, he, o1, b'⟩
   exact ⟨_, he, ⟨b1, d1, rfl, o1.rd0 1 _ rfl⟩, bel_nx hR b', b'⟩
  ·have h0 : ρ (.tmp 89) = .agg (tL X x1 X.m x2).toArray := hd ⟨0, .data⟩ (by simp) rfl 89 rfl
   obtain ⟨b1, d1, h2, r2⟩ : ∃ b1 d1, ρ (.tmp 91) = .agg (tL X b1 X.m d1).toArray /\ Rd v9 0 (Tr.list 13 X.m (fun i => trs (dT (X.f i)))) (.slice b1 X.m d1) := hd ⟨2, .data⟩ (by simp) rfl 91 rfl
   refine .inl ⟨rfl, .inr ⟨_, _, run_call_op rfl (hf _) (args := #[.agg (tL X x1 X.m x2).toArray, .agg (tL X b1 X.m d1).toArray]) (by simp [h0, h2]) (by kernel_rfl), ?_⟩⟩
   refine (eqTable_u X x1 _ x2 b1 d1 _ (((G5.out.2.2.2.2.2.2.1).rd0 1 _ rfl).below hR) r2 (by have := HZ.out.1; omega)).mono ?_
   rintro e v8 ⟨he, b'⟩
   exact ⟨_, he, rfl, bel_nx hR b', b'⟩
  have h3 : ρ (.tmp 92) = .bool true := hd ⟨3, .data⟩ (by simp) rfl 92 rfl
  exact .inl ⟨rfl, .inl ⟨.bool false, v9, run_un_op rfl h3 rfl, rfl, hR, Below.refl _ _⟩⟩
 intro vs w10 bb hall
 have e4 : vs 4 = .bool false := hall 4 (by simp)
 simp only [putsL]
 rw [e4]
 have G6 : Hid (Below w.heap.size w w10 /\ Blk w10 BT 24 (tL X a X.m c).toArray /\ Blk w10 BQ 28 (qL Q q1 Q.ws.length k1 q2 Q.bs.length k2).toArray /\ Blk w10 B1 35 (tL Y p1 Y.m d1).toArray /\ Below u.heap.size u w10 /\ Blk w10 hx 35 (tL X x1 X.m x2).toArray /\ Own1 w10 u.heap.size hx (tT X) (tL X x1 X.m x2) /\ Blk w10 hq 39 (qL Q z1 Q.ws.length z2 z3 Q.bs.length z4).toArray /\ Own1 w10 (hx + 1) hq (qT Q) (qL Q z1 Q.ws.length z2 z3 Q.bs.length z4) /\ Fit w10 (Tr.list 8 np (fun i => trs (pT (g i)))) Kx (.slice s1 np s2) /\ Blk w10 B2 35 (tL Y g1 Y.m g2).toArray /\ Own1 w10 lg B2 (tT Y) (tL Y g1 Y.m g2) /\ B2 < w10.heap.size) := ⟨bel_nx (G5.out.1) bb, (G5.out.2.1).below bb, (G5.out.2.2.1).below bb, (G5.out.2.2.2.1).below bb, bel_nx (G5.out.2.2.2.2.1) bb, (G5.out.2.2.2.2.2.1).below bb, (G5.out.2.2.2.2.2.2.1).below bb (by have := NUM.out; have := G5.out.2.2.2.2.2.2.2.2.2.2.2.2; omega), (G5.out.2.2.2.2.2.2.2.1).below bb, (G5.out.2.2.2.2.2.2.2.2.1).below bb (by have := NUM.out; have := G5.out.2.2.2.2.2.2.2.2.2.2.2.2; omega), (G5.out.2.2.2.2.2.2.2.2.2.1).below bb, (G5.out.2.2.2.2.2.2.2.2.2.2.1).below bb, (G5.out.2.2.2.2.2.2.2.2.2.2.2.1).below bb (by have := NUM.out; have := G5.out.2.2.2.2.2.2.2.2.2.2.2.2; omega), (by have := G5.out.2.2.2.2.2.2.2.2.2.2.2.2; have := (bb).size; omega)⟩
 clear G5
 clear bb hall e4
 try go_simp
 go_upto_region 20 with fail
 try go_simp
 refine wp_region_any (by kernel_rfl) ?_
 refine wpAny_vals (fun v9 => Below w10.heap.size w10 v9) (fun i v v9 => match i with
  | 0 => v = .agg (qL Q z1 Q.ws.length z2 z3 Q.bs.length z4).toArray
  | 1 => v = .agg (qL Q q1 Q.ws.length k1 q2 Q.bs.length k2).toArray
  | 2 => ∃ b1 d1 b2 d2, v = .agg (qL Q b1 Q.ws.length d1 b2 Q.bs.length d2).toArray /\ Rd v9 0 (intsT Q.ws) (.slice b1 Q.ws.length d1) /\ Rd v9 0 (boolsT Q.bs) (.slice b2 Q.bs.length d2)
  | 3 => v = .bool true
  | 4 => v = .bool false
  | _ => True) (by kernel_rfl) (by kernel_rfl) ?_ (by first | exact Below.refl _ _ | exact (Below.refl _ _).drew) ?_ ?_ _ _ rfl (by decide) (fun i => by simp [Array.getD]; try (split <;> rfl))
 ·intro i v v9 v9' h hb
  match i, h with
  | 0, h => exact h
  | 1, h => exact h
  | 2, ⟨b1, d1, b2, d2, e, r, r9⟩ => exact ⟨b1, d1, b2, d2, e, r.below hb, r9.below hb⟩
  | 3, h => exact h
  | 4, h => exact h
  | _ + 5, _ => trivial
 rotate_left
 ·intro v9 i o ρ hR ho hρ hc hf hd
  have hi : i < 5 := by
   have := (Array.getElem?_eq_some_iff.1 ho).1
   simpa using this
  obtain rfl | rfl | rfl | rfl | rfl : i = 0 \/ i = 1 \/ i = 2 \/ i = 3 \/ i = 4 := by omega
  all_goals (simp only [List.getElem?_toArray, List.getElem?_cons_zero, List.getElem?_cons_succ, Option.some.injEq] at ho; subst ho)
  ·have s0 : ρ (.tmp 18) = .pointer (some ⟨hq, 0, none⟩) := (hρ 18 (by kernel_rfl)).trans rfl
   exact .inl ⟨rfl, .inl ⟨_, v9, run_load_op rfl s0 (run_loadAt_mid v9 hq 0 39 (qL Q z1 Q.ws.length z2 z3 Q.bs.length z4) _ ((G6.out.2.2.2.2.2.2.2.1).below hR).all Tryz.underlying39 rfl (by kernel_rfl)), rfl, hR, Below.refl _ _⟩⟩
  ·have s0 : ρ (.tmp 10) = .pointer (some ⟨BQ, 0, none⟩) := (hρ 10 (by kernel_rfl)).trans rfl
   exact .inl ⟨rfl, .inl ⟨_, v9, run_load_op rfl s0 (run_loadAt_mid v9 BQ 0 28 (qL Q q1 Q.ws.length k1 q2 Q.bs.length k2) _ ((G6.out.2.2.1).below hR).all Tryz.underlying28 rfl (by kernel_rfl)), rfl, hR, Below.refl _ _⟩⟩
  ·have h1 : ρ (.tmp 95) = .agg (qL Q q1 Q.ws.length k1 q2 Q.bs.length k2).toArray := hd ⟨1, .data⟩ (by simp) rfl 95 rfl
   refine .inl ⟨rfl, .inr ⟨_, _, run_call_op rfl (hf _) (args := #[.agg (qL Q q1 Q.ws.length k1 q2 Q.bs.length k2).toArray]) (by simp [h1]) (by kernel_rfl), ?_⟩⟩
   refine (toReq_m Q q1 _ k1 q2 _ k2 _ (HR.out.2.1.below (bel_nx (G6.out.1) hR)) (HR.out.2.2.1.below (bel_nx (G6.out.1) hR)) HZ.out.2.1).mono ?_
   rintro e v8 ⟨b1, d1, b2, d2, he, o1, b'⟩
   exact ⟨_, he, ⟨b1, d1, b2, d2, rfl, o1.rd0 3 _ rfl, o1.rd0 4 _ rfl⟩, bel_nx hR b', b'⟩
  ·have h0 : ρ (.tmp 94) = .agg (qL Q z1 Q.ws.length z2 z3 Q.bs.length z4).toArray := hd ⟨0, .data⟩ (by simp) rfl 94 rfl
   obtain ⟨b1, d1, b2, d2, h2, r2, r3⟩ : ∃ b1 d1 b2 d2, ρ (.tmp 96) = .agg (qL Q b1 Q.ws.length d1 b2 Q.bs.length d2).toArray /\ Rd v9 0 (intsT Q.ws) (.slice b1 Q.ws.length d1) /\ Rd v9 0 (boolsT Q.bs) (.slice b2 Q.bs.length d2) := hd ⟨2, .data⟩ (by simp) rfl 96 rfl
   refine .inl ⟨rfl, .inr ⟨_, _, run_call_op rfl (hf _) (args := #[.agg (qL Q z1 Q.ws.length z2 z3 Q.bs.length z4).toArray, .agg (qL Q b1 Q.ws.length d1 b2 Q.bs.length d2).toArray]) (by simp [h0, h2]) (by kernel_rfl), ?_⟩⟩
   refine (eqReq_u Q z1 _ z2 z3 _ z4 b1 d1 b2 d2 _ (((G6.out.2.2.2.2.2.2.2.2.1).rd0 3 _ rfl).below hR) (((G6.out.2.2.2.2.2.2.2.2.1).rd0 4 _ rfl).below hR) r2 r3 (by have := HZ.out.2.1; omega)).mono ?_
   rintro e v8 ⟨he, b'⟩
   exact ⟨_, he, rfl, bel_nx hR b', b'⟩
  have h3 : ρ (.tmp 97) = .bool true := hd ⟨3, .data⟩ (by simp) rfl 97 rfl
  exact .inl ⟨rfl, .inl ⟨.bool false, v9, run_un_op rfl h3 rfl, rfl, hR, Below.refl _ _⟩⟩
 intro vs w11 bb hall
 have e4 : vs 4 = .bool false := hall 4 (by simp)
 simp only [putsL]
 rw [e4]
 have G7 : Hid (Below w.heap.size w w11 /\ Blk w11 BT 24 (tL X a X.m c).toArray /\ Blk w11 BQ 28 (qL Q q1 Q.ws.length k1 q2 Q.bs.length k2).toArray /\ Blk w11 B1 35 (tL Y p1 Y.m d1).toArray /\ Below u.heap.size u w11 /\ Blk w11 hx 35 (tL X x1 X.m x2).toArray /\ Own1 w11 u.heap.size hx (tT X) (tL X x1 X.m x2) /\ Blk w11 hq 39 (qL Q z1 Q.ws.length z2 z3 Q.bs.length z4).toArray /\ Own1 w11 (hx + 1) hq (qT Q) (qL Q z1 Q.ws.length z2 z3 Q.bs.length z4) /\ Fit w11 (Tr.list 8 np (fun i => trs (pT (g i)))) Kx (.slice s1 np s2) /\ Blk w11 B2 35 (tL Y g1 Y.m g2).toArray /\ Own1 w11 lg B2 (tT Y) (tL Y g1 Y.m g2) /\ B2 < w11.heap.size) := ⟨bel_nx (G6.out.1) bb, (G6.out.2.1).below bb, (G6.out.2.2.1).below bb, (G6.out.2.2.2.1).below bb, bel_nx (G6.out.2.2.2.2.1) bb, (G6.out.2.2.2.2.2.1).below bb, (G6.out.2.2.2.2.2.2.1).below bb (by have := NUM.out; have := G6.out.2.2.2.2.2.2.2.2.2.2.2.2; omega), (G6.out.2.2.2.2.2.2.2.1).below bb, (G6.out.2.2.2.2.2.2.2.2.1).below bb (by have := NUM.out; have := G6.out.2.2.2.2.2.2.2.2.2.2.2.2; omega), (G6.out.2.2.2.2.2.2.2.2.2.1).below bb, (G6.out.2.2.2.2.2.2.2.2.2.2.1).below bb, (G6.out.2.2.2.2.2.2.2.2.2.2.2.1).below bb (by have := NUM.out; have := G6.out.2.2.2.2.2.2.2.2.2.2.2.2; omega), (by have := G6.out.2.2.2.2.2.2.2.2.2.2.2.2; have := (bb).size; omega)⟩
 clear G6
 clear bb hall e4
 try go_simp
 go_wp2_with fail
 refine (toPartS_m np g p3 _ k3 _ (HR.out.2.2.2.below (G7.out.1)) HZ.out.2.2.1).mono ?_
 rintro e w12 ⟨b8, d8, rfl, o8, bb⟩
 have R8 : Hid (Rd w12 0 (Tr.list 8 np (fun i => trs (pT (g i)))) (.slice b8 np d8)) := o8.rd.mono (Nat.zero_le _)
 have G8 : Hid (Below w.heap.size w w12 /\ Blk w12 BT 24 (tL X a X.m c).toArray /\ Blk w12 BQ 28 (qL Q q1 Q.ws.length k1 q2 Q.bs.length k2).toArray /\ Blk w12 B1 35 (tL Y p1 Y.m d1).toArray /\ Below u.heap.size u w12 /\ Blk w12 hx 35 (tL X x1 X.m x2).toArray /\ Own1 w12 u.heap.size hx (tT X) (tL X x1 X.m x2) /\ Blk w12 hq 39 (qL Q z1 Q.ws.length z2 z3 Q.bs.length z4).toArray /\ Own1 w12 (hx + 1) hq (qT Q) (qL Q z1 Q.ws.length z2 z3 Q.bs.length z4) /\ Fit w12 (Tr.list 8 np (fun i => trs (pT (g i)))) Kx (.slice s1 np s2) /\ Blk w12 B2 35 (tL Y g1 Y.m g2).toArray /\ Own1 w12 lg B2 (tT Y) (tL Y g1 Y.m g2) /\ B2 < w12.heap.size) := ⟨bel_nx (G7.out.1) bb, (G7.out.2.1).below bb, (G7.out.2.2.1).below bb, (G7.out.2.2.2.1).below bb, bel_nx (G7.out.2.2.2.2.1) bb, (G7.out.2.2.2.2.2.1).below bb, (G7.out.2.2.2.2.2.2.1).below bb (by have := NUM.out; have := G7.out.2.2.2.2.2.2.2.2.2.2.2.2; omega), (G7.out.2.2.2.2.2.2.2.1).below bb, (G7.out.2.2.2.2.2.2.2.2.1).below bb (by have := NUM.out; have := G7.out.2.2.2.2.2.2.2.2.2.2.2.2; omega), (G7.out.2.2.2.2.2.2.2.2.2.1).below bb, (G7.out.2.2.2.2.2.2.2.2.2.2.1).below bb, (G7.out.2.2.2.2.2.2.2.2.2.2.2.1).below bb (by have := NUM.out; have := G7.out.2.2.2.2.2.2.2.2.2.2.2.2; omega), (by have := G7.out.2.2.2.2.2.2.2.2.2.2.2.2; have := (bb).size; omega)⟩
 clear G7
 clear bb o8
 go_wp2_with fail
 refine (eqPartS_u np g s1 _ s2 b8 d8 _ ((G8.out.2.2.2.2.2.2.2.2.2.1).rd (fun _ _ => Nat.zero_le _)) R8.out (by have := HZ.out.2.2.1; omega)).mono ?_
 rintro e w13 ⟨rfl, bb⟩
 have G9 : Hid (Below w.heap.size w w13 /\ Blk w13 BT 24 (tL X a X.m c).toArray /\ Blk w13 BQ 28 (qL Q q1 Q.ws.length k1 q2 Q.bs.length k2).toArray /\ Blk w13 B1 35 (tL Y p1 Y.m d1).toArray /\ Below u.heap.size u w13 /\ Blk w13 hx 35 (tL X x1 X.m x2).toArray /\ Own1 w13 u.heap.size hx (tT X) (tL X x1 X.m x2) /\ Blk w13 hq 39 (qL Q z1 Q.ws.length z2 z3 Q.bs.length z4).toArray /\ Own1 w13 (hx + 1) hq (qT Q) (qL Q z1 Q.ws.length z2 z3 Q.bs.length z4) /\ Fit w13 (Tr.list 8 np (fun i => trs (pT (g i)))) Kx (.slice s1 np s2) /\ Blk w13 B2 35 (tL Y g1 Y.m g2).toArray /\ Own1 w13 lg B2 (tT Y) (tL Y g1 Y.m g2) /\ B2 < w13.heap.size) := ⟨bel_nx (G8.out.1) bb, (G8.out.2.1).below bb, (G8.out.2.2.1).below bb, (G8.out.2.2.2.1).below bb, bel_nx (G8.out.2.2.2.2.1) bb, (G8.out.2.2.2.2.2.1).below bb, (G8.out.2.2.2.2.2.2.1).below bb (by have := NUM.out; have := G8.out.2.2.2.2.2.2.2.2.2.2.2.2; omega), (G8.out.2.2.2.2.2.2.2.1).below bb, (G8.out.2.2.2.2.2.2.2.2.1).below bb (by have := NUM.out; have := G8.out.2.2.2.2.2.2.2.2.2.2.2.2; omega), (G8.out.2.2.2.2.2.2.2.2.2.1).below bb, (G8.out.2.2.2.2.2.2.2.2.2.2.1).below bb, (G8.out.2.2.2.2.2.2.2.2.2.2.2.1).below bb (by have := NUM.out; have := G8.out.2.2.2.2.2.2.2.2.2.2.2.2; omega), (by have := G8.out.2.2.2.2.2.2.2.2.2.2.2.2; have := (bb).size; omega)⟩
 clear G8
 clear bb R8
 have HC : Hid (csVT X <= 8388608 /\ csVQ Q <= 1048576 /\ sumN np (fun i => ctVP (g i)) <= 8388608) := by
  refine ⟨?_, ?_, ?_⟩
  ·have := csVT_sz X; have := HZ.out.1; omega
  ·have h9 := HZ.out.2.1; rw [szT_q] at h9; exact h9
  have h9 := HZ.out.2.2.1; rw [Tr.sz_list] at h9; have h8 := sumN_lin (g := fun i => ctVP (g i)) (h := fun i => szT 8 (trs (pT (g i)))) (fun k => ctVP_sz (g k)) np; omega
 obtain ⟨⟨y0, y1⟩, yf⟩ := (G9.out.2.2.2.2.2.1).tc2
 clear yf
 go_wp2_with fail
 refine (markTable_o X x1 _ x2 1 u.heap.size hx _ _ rfl (G9.out.2.2.2.2.2.2.1) (by have := HC.out; omega)).mono ?_
 rintro e w14 ⟨rfl, _, cg⟩
 have G10 : Hid (Below w.heap.size w w14 /\ Blk w14 BT 24 (tL X a X.m c).toArray /\ Blk w14 BQ 28 (qL Q q1 Q.ws.length k1 q2 Q.bs.length k2).toArray /\ Blk w14 B1 35 (tL Y p1 Y.m d1).toArray /\ Below u.heap.size u w14 /\ Blk w14 hq 39 (qL Q z1 Q.ws.length z2 z3 Q.bs.length z4).toArray /\ Own1 w14 (hx + 1) hq (qT Q) (qL Q z1 Q.ws.length z2 z3 Q.bs.length z4) /\ Fit w14 (Tr.list 8 np (fun i => trs (pT (g i)))) Kx (.slice s1 np s2) /\ Blk w14 B2 35 (tL Y g1 Y.m g2).toArray /\ Own1 w14 lg B2 (tT Y) (tL Y g1 Y.m g2) /\ B2 < w14.heap.size) := ⟨Cg.below (G9.out.1) cg (fun g hg => by have := NUM.out; omega) (by have := NUM.out; have := G9.out.2.2.2.2.2.2.2.2.2.2.2.2; omega), (G9.out.2.1).cgX cg (fun q9 => by have := NUM.out; omega), (G9.out.2.2.1).cgX cg (fun q9 => by have := NUM.out; omega), (G9.out.2.2.2.1).cgX cg (fun q9 => by have := NUM.out; omega), Cg.below (G9.out.2.2.2.2.1) cg (fun g hg => by have := NUM.out; omega) (by have := NUM.out; have := G9.out.2.2.2.2.2.2.2.2.2.2.2.2; omega), (G9.out.2.2.2.2.2.2.2.1).cgX cg (fun q9 => by have := NUM.out; omega), (G9.out.2.2.2.2.2.2.2.2.1).same cg.size (fun b q1 q2 => cg.block b (by have := NUM.out; have := G9.out.2.2.2.2.2.2.2.2.2.2.2.2; omega) (fun q9 => by have := NUM.out; omega)), (G9.out.2.2.2.2.2.2.2.2.2.1).cg cg (fun b hb hb9 => by have := NK.out b hb; have := NUM.out; omega), (G9.out.2.2.2.2.2.2.2.2.2.2.1).cgX cg (fun q9 => by have := NUM.out; omega), (G9.out.2.2.2.2.2.2.2.2.2.2.2.1).same cg.size (fun b q1 q2 => cg.block b (by have := NUM.out; have := G9.out.2.2.2.2.2.2.2.2.2.2.2.2; omega) (fun q9 => by have := NUM.out; omega)), (by have := G9.out.2.2.2.2.2.2.2.2.2.2.2.2; have := cg.size; omega)⟩
 clear G9
 clear cg y0 y1
 obtain ⟨ka, hka⟩ : ∃ k : Nat, k = 1 + csVT X := ⟨_, rfl⟩
 rw [<- hka]
 have HKA : Hid (ka = 1 + csVT X) := hka
 clear hka
 obtain ⟨⟨y0, y1, y2, y3, y4, y5⟩, yf⟩ := (G10.out.2.2.2.2.2.1).tc6
 clear yf
 go_wp2_with fail
 refine (markReq_o Q z1 _ z2 z3 _ z4 ka (hx + 1) hq _ _ rfl (G10.out.2.2.2.2.2.2.1) (by have := HC.out; have := HKA.out; omega)).mono ?_
 rintro e w15 ⟨rfl, _, cg⟩
 have G11 : Hid (Below w.heap.size w w15 /\ Blk w15 BT 24 (tL X a X.m c).toArray /\ Blk w15 BQ 28 (qL Q q1 Q.ws.length k1 q2 Q.bs.length k2).toArray /\ Blk w15 B1 35 (tL Y p1 Y.m d1).toArray /\ Below u.heap.size u w15 /\ Fit w15 (Tr.list 8 np (fun i => trs (pT (g i)))) Kx (.slice s1 np s2) /\ Blk w15 B2 35 (tL Y g1 Y.m g2).toArray /\ Own1 w15 lg B2 (tT Y) (tL Y g1 Y.m g2) /\ B2 < w15.heap.size) := ⟨Cg.below (G10.out.1) cg (fun g hg => by have := NUM.out; omega) (by have := NUM.out; have := G10.out.2.2.2.2.2.2.2.2.2.2; omega), (G10.out.2.1).cgX cg (fun q9 => by have := NUM.out; omega), (G10.out.2.2.1).cgX cg (fun q9 => by have := NUM.out; omega), (G10.out.2.2.2.1).cgX cg (fun q9 => by have := NUM.out; omega), Cg.below (G10.out.2.2.2.2.1) cg (fun g hg => by have := NUM.out; omega) (by have := NUM.out; have := G10.out.2.2.2.2.2.2.2.2.2.2; omega), (G10.out.2.2.2.2.2.2.2.1).cg cg (fun b hb hb9 => by have := NK.out b hb; have := NUM.out; omega), (G10.out.2.2.2.2.2.2.2.2.1).cgX cg (fun q9 => by have := NUM.out; omega), (G10.out.2.2.2.2.2.2.2.2.2.1).same cg.size (fun b q1 q2 => cg.block b (by have := NUM.out; have := G10.out.2.2.2.2.2.2.2.2.2.2; omega) (fun q9 => by have := NUM.out; omega)), (by have := G10.out.2.2.2.2.2.2.2.2.2.2; have := cg.size; omega)⟩
 clear G10
 clear cg y0 y1 y2 y3 y4 y5
 obtain ⟨kb, hkb⟩ : ∃ k : Nat, k = ka + csVQ Q := ⟨_, rfl⟩
 rw [<- hkb]
 have HKB : Hid (kb = ka + csVQ Q) := hkb
 clear hkb
 go_wp2_with fail
 refine (markPartS_f np g s1 _ s2 kb _ Kx _ rfl (G11.out.2.2.2.2.2.1) NKo.out (by have := HC.out; have := HKA.out; have := HKB.out; omega)).mono ?_
 rintro e w16 ⟨rfl, _, cg⟩
 have G12 : Hid (Below w.heap.size w w16 /\ Blk w16 BT 24 (tL X a X.m c).toArray /\ Blk w16 BQ 28 (qL Q q1 Q.ws.length k1 q2 Q.bs.length k2).toArray /\ Blk w16 B1 35 (tL Y p1 Y.m d1).toArray /\ Below u.heap.size u w16 /\ Blk w16 B2 35 (tL Y g1 Y.m g2).toArray /\ Own1 w16 lg B2 (tT Y) (tL Y g1 Y.m g2) /\ B2 < w16.heap.size) := ⟨Cg.below (G11.out.1) cg (fun g hg => by have := NK.out _ hg; have := NUM.out; omega) (by have := NUM.out; have := G11.out.2.2.2.2.2.2.2.2; omega), (G11.out.2.1).cgX cg (fun q9 => by have := NK.out _ q9; have := NUM.out; omega), (G11.out.2.2.1).cgX cg (fun q9 => by have := NK.out _ q9; have := NUM.out; omega), (G11.out.2.2.2.1).cgX cg (fun q9 => by have := NK.out _ q9; have := NUM.out; omega), Cg.below (G11.out.2.2.2.2.1) cg (fun g hg => by have := NK.out _ hg; have := NUM.out; omega) (by have := NUM.out; have := G11.out.2.2.2.2.2.2.2.2; omega), (G11.out.2.2.2.2.2.2.1).cgX cg (fun q9 => by have := NK.out _ q9; have := NUM.out; omega), (G11.out.2.2.2.2.2.2.2.1).same cg.size (fun b q1 q2 => cg.block b (by have := NUM.out; have := G11.out.2.2.2.2.2.2.2.2; omega) (fun q9 => by have := NK.out _ q9; have := NUM.out; omega)), (by have := G11.out.2.2.2.2.2.2.2.2; have := cg.size; omega)⟩
 clear G11
 clear cg
 obtain ⟨kc, hkc⟩ : ∃ k : Nat, k = kb + sumN np (fun i => ctVP (g i)) := ⟨_, rfl⟩
 rw [<- hkc]
 have nk : ¬ ((kc : Int) < 0) := by omega
 clear hkc HKA HKB NK NKo
 obtain ⟨⟨y0, y1⟩, yf⟩ := (G12.out.2.2.2.2.2.1).tc2
 clear yf
 obtain ⟨⟨t0, t1⟩, yf⟩ := (G12.out.2.2.2.1).tc2
 clear yf
 go_wp2_with fail
 refine (eqTable_o Y g1 _ g2 p1 d1 lg B2 _ (G12.out.2.2.2.2.2.2.1) (RS.out.1.below (G12.out.2.2.2.2.1)) HY.out.2.2.2.1).mono ?_
 rintro e w17 ⟨rfl, bb⟩
 have G13 : Hid (Below w.heap.size w w17 /\ Blk w17 BT 24 (tL X a X.m c).toArray /\ Blk w17 BQ 28 (qL Q q1 Q.ws.length k1 q2 Q.bs.length k2).toArray /\ Blk w17 B1 35 (tL Y p1 Y.m d1).toArray /\ Below u.heap.size u w17 /\ Blk w17 B2 35 (tL Y g1 Y.m g2).toArray /\ Own1 w17 lg B2 (tT Y) (tL Y g1 Y.m g2) /\ B2 < w17.heap.size) := ⟨bel_nx (G12.out.1) bb, (G12.out.2.1).below bb, (G12.out.2.2.1).below bb, (G12.out.2.2.2.1).below bb, bel_nx (G12.out.2.2.2.2.1) bb, (G12.out.2.2.2.2.2.1).below bb, (G12.out.2.2.2.2.2.2.1).below bb (by have := NUM.out; have := G12.out.2.2.2.2.2.2.2; omega), (by have := G12.out.2.2.2.2.2.2.2; have := (bb).size; omega)⟩
 clear G12
 clear bb y0 y1 t0 t1
 obtain ⟨⟨y0, y1⟩, yf⟩ := (G13.out.2.2.2.2.2.1).tc2
 clear yf
 go_wp2_with fail
 refine (markTable_o Y g1 _ g2 1 lg B2 _ _ rfl (G13.out.2.2.2.2.2.2.1) (by have := HY.out.2.2.2.2; omega)).mono ?_
 rintro e w18 ⟨rfl, O18, cg⟩
 have G14 : Hid (Below w.heap.size w w18 /\ Blk w18 BT 24 (tL X a X.m c).toArray /\ Blk w18 BQ 28 (qL Q q1 Q.ws.length k1 q2 Q.bs.length k2).toArray /\ Blk w18 B1 35 (tL Y p1 Y.m d1).toArray /\ Below u.heap.size u w18 /\ Blk w18 B2 35 (tL Y g1 Y.m g2).toArray /\ B2 < w18.heap.size /\ Own1 w18 lg B2 (tT (nsVT 1 Y)) (tL Y g1 Y.m g2)) := ⟨Cg.below (G13.out.1) cg (fun g hg => by have := NUM.out; omega) (by have := NUM.out; have := G13.out.2.2.2.2.2.2.2; omega), (G13.out.2.1).cgX cg (fun q9 => by have := NUM.out; omega), (G13.out.2.2.1).cgX cg (fun q9 => by have := NUM.out; omega), (G13.out.2.2.2.1).cgX cg (fun q9 => by have := NUM.out; omega), Cg.below (G13.out.2.2.2.2.1) cg (fun g hg => by have := NUM.out; omega) (by have := NUM.out; have := G13.out.2.2.2.2.2.2.2; omega), (G13.out.2.2.2.2.2.1).cgX cg (fun q9 => by have := NUM.out; omega), (by have := G13.out.2.2.2.2.2.2.2; have := cg.size; omega), O18⟩
 clear G13
 clear cg O18 y0 y1
 obtain ⟨m, hm⟩ : ∃ k : Nat, k = 1 + csVT Y := ⟨_, rfl⟩
 rw [<- hm]
 have HM : Hid (m = 1 + csVT Y) := hm
 have nm : ¬ ((m : Int) < 0) := by omega
 have mm : ((m : Int) != (m : Int)) = false := by simp
 clear hm
 obtain ⟨⟨y0, y1⟩, yf⟩ := (G14.out.2.2.2.2.2.1).tc2
 clear yf
 go_wp2_with fail
 refine (heldTable_o Y g1 _ g2 1 lg B2 _ _ rfl (G14.out.2.2.2.2.2.2.2) (by have := HY.out.2.2.2.2; omega)).mono ?_
 rintro e w19 ⟨rfl, bb⟩
 rw [<- HM.out]
 have G15 : Hid (Below w.heap.size w w19 /\ Blk w19 BT 24 (tL X a X.m c).toArray /\ Blk w19 BQ 28 (qL Q q1 Q.ws.length k1 q2 Q.bs.length k2).toArray /\ Blk w19 B1 35 (tL Y p1 Y.m d1).toArray /\ Below u.heap.size u w19 /\ Blk w19 B2 35 (tL Y g1 Y.m g2).toArray /\ B2 < w19.heap.size /\ Own1 w19 lg B2 (tT (nsVT 1 Y)) (tL Y g1 Y.m g2)) := ⟨bel_nx (G14.out.1) bb, (G14.out.2.1).below bb, (G14.out.2.2.1).below bb, (G14.out.2.2.2.1).below bb, bel_nx (G14.out.2.2.2.2.1) bb, (G14.out.2.2.2.2.2.1).below bb, (by have := G14.out.2.2.2.2.2.2.1; have := (bb).size; omega), (G14.out.2.2.2.2.2.2.2).below bb (by have := NUM.out; have := G14.out.2.2.2.2.2.2.1; omega)⟩
 clear G14
 clear bb y0 y1
 have H9 : Hid (Below w.heap.size w w19 /\ Blk w19 BT 24 (tL X a X.m c).toArray /\ Blk w19 BQ 28 (qL Q q1 Q.ws.length k1 q2 Q.bs.length k2).toArray) := ⟨G15.out.1, G15.out.2.1, G15.out.2.2.1⟩
 go_upto_region 38 with fail
 try go_simp
 refine wp_region_any (by kernel_rfl) ?_
 refine wpAny_te 15 14 26 (fun i => i == 12 || (i == 13 || (i == 16 || i == 17))) (fun u => Below w19.heap.size w19 u) (fun b u => Blk u b 35 tz /\ w19.heap.size <= b) (fun v u => ∃ b9 p d, v = .pointer (some ⟨b9, 0, none⟩) /\ w19.heap.size <= b9 /\ Blk u b9 35 (tL Y p Y.m d).toArray /\ Fl u w19.heap.size [(Tr.list 13 Y.m (fun i => trs (dT (Y.f i))))] [.slice p Y.m d] /\ Below w19.heap.size w19 u) (fun i v ob u => match i with
  | 0 => v = .agg (tL X a X.m c).toArray
  | 1 => ∃ b1 d1, v = .agg (tL X b1 X.m d1).toArray /\ Rd u 0 (Tr.list 13 X.m (fun i => trs (dT (X.f i)))) (.slice b1 X.m d1)
  | 2 => v = .int .i64 so
  | 3 => v = .int .i64 ta
  | 4 => v = .int .i64 un
  | 5 => v = .agg (qL Q q1 Q.ws.length k1 q2 Q.bs.length k2).toArray
  | 6 => ∃ b1 d1 b2 d2, v = .agg (qL Q b1 Q.ws.length d1 b2 Q.bs.length d2).toArray /\ Rd u 0 (intsT Q.ws) (.slice b1 Q.ws.length d1) /\ Rd u 0 (boolsT Q.bs) (.slice b2 Q.bs.length d2)
  | 7 => v = .slice p3 np k3
  | 8 => ∃ b1 d1, v = .slice b1 np d1 /\ Rd u 0 (Tr.list 8 np (fun i => trs (pT (g i)))) (.slice b1 np d1)
  | 9 => ∃ p d, v = .tuple #[.agg (tL Y p Y.m d).toArray, .int .i64 I, .bool ok] /\ FlA u w19.heap.size ob [(Tr.list 13 Y.m (fun i => trs (dT (Y.f i))))] [.slice p Y.m d]
  | 10 => ∃ p d, v = .tuple #[.agg (tL Y p Y.m d).toArray, .int .i64 I, .bool ok] /\ FlA u w19.heap.size ob [(Tr.list 13 Y.m (fun i => trs (dT (Y.f i))))] [.slice p Y.m d]
  | 11 => ∃ p d, v = .agg (tL Y p Y.m d).toArray /\ FlA u w19.heap.size ob [(Tr.list 13 Y.m (fun i => trs (dT (Y.f i))))] [.slice p Y.m d]
  | 12 => v = .int .i64 I
  | 13 => v = .bool ok
  | 16 => v = .int .i64 I
  | 17 => v = .bool ok
  | _ => True) (fun i v => match i with
  | 10 => ∃ p d, v = .tuple #[.agg (tL Y p Y.m d).toArray, .int .i64 I, .bool ok]
  | 12 => v = .int .i64 I
  | 13 => v = .bool ok
  | 16 => v = .int .i64 I
  | 17 => v = .bool ok
  | _ => True) (by kernel_rfl) (by kernel_rfl) (by decide) (by kernel_rfl) (by decide) rfl rfl rfl (fun u u' h hb => bel_nx h hb) (fun b u u' h hb => ⟨h.1.below hb, h.2⟩) ?_ ?_ ?_ (by first | exact Below.refl _ _ | exact (Below.refl _ _).drew) ?_ ?_ ?_ ?_ ?_ _ _ rfl (by decide) (fun i => by simp [Array.getD]; try (split <;> rfl))
 ·intro i v ob u u' h hb
  match i, h with
  | 0, h => exact h
  | 1, ⟨b1, d1, e, r⟩ => exact ⟨b1, d1, e, r.below hb⟩
  | 2, h => exact h
  | 3, h => exact h
  | 4, h => exact h
  | 5, h => exact h
  | 6, ⟨b1, d1, b2, d2, e, r, r9⟩ => exact ⟨b1, d1, b2, d2, e, r.below hb, r9.below hb⟩
  | 7, h => exact h
  | 8, ⟨b1, d1, e, r⟩ => exact ⟨b1, d1, e, r.below hb⟩
  | 9, ⟨p, d, e, r⟩ => exact ⟨p, d, e, r.below hb⟩
  | 10, ⟨p, d, e, r⟩ => exact ⟨p, d, e, r.below hb⟩
  | 11, ⟨p, d, e, r⟩ => exact ⟨p, d, e, r.below hb⟩
  | 12, h => exact h
  | 13, h => exact h
  | 14, _ => trivial
  | 15, _ => trivial
  | 16, h => exact h
  | 17, h => exact h
  | _ + 18, _ => trivial
 ·intro i v u u' b9 h hb9 hb
  match i, h with
  | 0, h => exact h
  | 1, ⟨b1, d1, e, r⟩ => exact ⟨b1, d1, e, r.below hb⟩
  | 2, h => exact h
  | 3, h => exact h
  | 4, h => exact h
  | 5, h => exact h
  | 6, ⟨b1, d1, b2, d2, e, r, r9⟩ => exact ⟨b1, d1, b2, d2, e, r.below hb, r9.below hb⟩
  | 7, h => exact h
  | 8, ⟨b1, d1, e, r⟩ => exact ⟨b1, d1, e, r.below hb⟩
  | 9, ⟨p, d, e, r⟩ => exact ⟨p, d, e, (r.new hb9).below hb⟩
  | 10, ⟨p, d, e, r⟩ => exact ⟨p, d, e, (r.new hb9).below hb⟩
  | 11, ⟨p, d, e, r⟩ => exact ⟨p, d, e, (r.new hb9).below hb⟩
  | 12, h => exact h
  | 13, h => exact h
  | 14, _ => trivial
  | 15, _ => trivial
  | 16, h => exact h
  | 17, h => exact h
  | _ + 18, _ => trivial
 ·intro i v ob u h
  match i, h with
  | 0, _ => trivial
  | 1, _ => trivial
  | 2, _ => trivial
  | 3, _ => trivial
  | 4, _ => trivial
  | 5, _ => trivial
  | 6, _ => trivial
  | 7, _ => trivial
  | 8, _ => trivial
  | 9, _ => trivial
  | 10, ⟨p, d, e, r⟩ => exact ⟨p, d, e⟩
  | 11, _ => trivial
  | 12, h => exact h
  | 13, h => exact h
  | 14, _ => trivial
  | 15, _ => trivial
  | 16, h => exact h
  | 17, h => exact h
  | _ + 18, _ => trivial
 rotate_left
 ·intro u o ρ hR ho
  simp only [List.getElem?_toArray, List.getElem?_cons_zero, List.getElem?_cons_succ, Option.some.injEq] at ho
  subst ho
  exact ⟨rfl, _, run_alloc_y 35 rfl tz 2 32 Tryz.infoD35, ⟨Blk.new _ _ _, hR.size⟩, by simp, (Below.refl _ _).alloc (Nat.le_refl _) _⟩
 ·intro u i o ρ ob hfl hiA hiS hR hbo ho hρ hc hf hd
  have hi : i < 18 := by
   have := (Array.getElem?_eq_some_iff.1 ho).1
   simpa using this
  have hi2 : i < 12 := by
   have : ¬ (i = 12 \/ i = 13 \/ i = 16 \/ i = 17) := fun q => by rcases q with rfl | rfl | rfl | rfl <;> cases hfl
   omega
  obtain rfl | rfl | rfl | rfl | rfl | rfl | rfl | rfl | rfl | rfl | rfl | rfl : i = 0 \/ i = 1 \/ i = 2 \/ i = 3 \/ i = 4 \/ i = 5 \/ i = 6 \/ i = 7 \/ i = 8 \/ i = 9 \/ i = 10 \/ i = 11 := by omega
  all_goals (simp only [List.getElem?_toArray, List.getElem?_cons_zero, List.getElem?_cons_succ, Option.some.injEq] at ho; subst ho)
  ·have s0 : ρ (.tmp 6) = .pointer (some ⟨BT, 0, none⟩) := (hρ 6 (by kernel_rfl)).trans rfl
   exact .inl ⟨rfl, .inl ⟨_, u, run_load_op rfl s0 (run_loadAt_mid u BT 0 24 (tL X a X.m c) _ (H9.out.2.1.below hR).all Tryz.underlying24 rfl (by kernel_rfl)), rfl, Below.refl _ _⟩⟩
  ·have h0 : ρ (.tmp 143) = .agg (tL X a X.m c).toArray := hd ⟨0, .data⟩ (by simp) rfl (by decide) rfl 143 rfl
   refine .inl ⟨rfl, .inr ⟨_, _, run_call_op rfl (hf _) (args := #[.agg (tL X a X.m c).toArray]) (by simp [h0]) (by kernel_rfl), ?_⟩⟩
   refine (toTable_m X a _ c _ (HR.out.1.below (bel_nx H9.out.1 hR)) HZ.out.1).mono ?_
   rintro e u' ⟨b1, d1, he, o1, b'⟩
   exact ⟨_, he, ⟨b1, d1, rfl, o1.rd0 1 _ rfl⟩, b'⟩
  ·have s0 : ρ (.tmp 1) = .int .i64 so := (hρ 1 (by kernel_rfl)).trans rfl
   exact .inl ⟨rfl, .inl ⟨_, u, rfl, s0, Below.refl _ _⟩⟩
  ·have s0 : ρ (.tmp 2) = .int .i64 ta := (hρ 2 (by kernel_rfl)).trans rfl
   exact .inl ⟨rfl, .inl ⟨_, u, rfl, s0, Below.refl _ _⟩⟩
  ·have s0 : ρ (.tmp 3) = .int .i64 un := (hρ 3 (by kernel_rfl)).trans rfl
   exact .inl ⟨rfl, .inl ⟨_, u, rfl, s0, Below.refl _ _⟩⟩
  ·have s0 : ρ (.tmp 10) = .pointer (some ⟨BQ, 0, none⟩) := (hρ 10 (by kernel_rfl)).trans rfl
   exact .inl ⟨rfl, .inl ⟨_, u, run_load_op rfl s0 (run_loadAt_mid u BQ 0 28 (qL Q q1 Q.ws.length k1 q2 Q.bs.length k2) _ (H9.out.2.2.below hR).all Tryz.underlying28 rfl (by kernel_rfl)), rfl, Below.refl _ _⟩⟩
  ·have h0 : ρ (.tmp 148) = .agg (qL Q q1 Q.ws.length k1 q2 Q.bs.length k2).toArray := hd ⟨5, .data⟩ (by simp) rfl (by decide) rfl 148 rfl
   refine .inl ⟨rfl, .inr ⟨_, _, run_call_op rfl (hf _) (args := #[.agg (qL Q q1 Q.ws.length k1 q2 Q.bs.length k2).toArray]) (by simp [h0]) (by kernel_rfl), ?_⟩⟩
   refine (toReq_m Q q1 _ k1 q2 _ k2 _ (HR.out.2.1.below (bel_nx H9.out.1 hR)) (HR.out.2.2.1.below (bel_nx H9.out.1 hR)) HZ.out.2.1).mono ?_
   rintro e u' ⟨b1, d1, b2, d2, he, o1, b'⟩
   exact ⟨_, he, ⟨b1, d1, b2, d2, rfl, o1.rd0 3 _ rfl, o1.rd0 4 _ rfl⟩, b'⟩
  ·have s0 : ρ (.tmp 5) = .slice p3 np k3 := (hρ 5 (by kernel_rfl)).trans rfl
   exact .inl ⟨rfl, .inl ⟨_, u, rfl, s0, Below.refl _ _⟩⟩
  ·have h0 : ρ (.tmp 150) = .slice p3 np k3 := hd ⟨7, .data⟩ (by simp) rfl (by decide) rfl 150 rfl
   refine .inl ⟨rfl, .inr ⟨_, _, run_call_op rfl (hf _) (args := #[.slice p3 np k3]) (by simp [h0]) (by kernel_rfl), ?_⟩⟩
   refine (toPartS_m np g p3 _ k3 _ (HR.out.2.2.2.below (bel_nx H9.out.1 hR)) HZ.out.2.2.1).mono ?_
   rintro e u' ⟨b1, d1, he, o1, b'⟩
   exact ⟨_, he, ⟨b1, d1, rfl, o1.rd.mono (Nat.zero_le _)⟩, b'⟩
  ·obtain ⟨t1, t2, h1, r1⟩ : ∃ b1 d1, ρ (.tmp 144) = .agg (tL X b1 X.m d1).toArray /\ Rd u 0 (Tr.list 13 X.m (fun i => trs (dT (X.f i)))) (.slice b1 X.m d1) := hd ⟨1, .data⟩ (by simp) rfl (by decide) rfl 144 rfl
   have h2 : ρ (.tmp 145) = .int .i64 so := hd ⟨2, .data⟩ (by simp) rfl (by decide) rfl 145 rfl
   have h3 : ρ (.tmp 146) = .int .i64 ta := hd ⟨3, .data⟩ (by simp) rfl (by decide) rfl 146 rfl
   have h4 : ρ (.tmp 147) = .int .i64 un := hd ⟨4, .data⟩ (by simp) rfl (by decide) rfl 147 rfl
   obtain ⟨b1, d1, b2, d2, h6, r6, r6'⟩ : ∃ b1 d1 b2 d2, ρ (.tmp 149) = .agg (qL Q b1 Q.ws.length d1 b2 Q.bs.length d2).toArray /\ Rd u 0 (intsT Q.ws) (.slice b1 Q.ws.length d1) /\ Rd u 0 (boolsT Q.bs) (.slice b2 Q.bs.length d2) := hd ⟨6, .data⟩ (by simp) rfl (by decide) rfl 149 rfl
   obtain ⟨b8, d8, h8, r8⟩ : ∃ b1 d1, ρ (.tmp 151) = .slice b1 np d1 /\ Rd u 0 (Tr.list 8 np (fun i => trs (pT (g i)))) (.slice b1 np d1) := hd ⟨8, .data⟩ (by simp) rfl (by decide) rfl 151 rfl
   refine .inl ⟨rfl, .inr ⟨_, _, run_call_op rfl (hf _) (args := #[.agg (tL X t1 X.m t2).toArray, .int .i64 so, .int .i64 ta, .int .i64 un, .agg (qL Q b1 Q.ws.length d1 b2 Q.bs.length d2).toArray, .slice b8 np d8]) (by simp [h1, h2, h3, h4, h6, h8]) (by kernel_rfl), ?_⟩⟩
   refine (implTableOpen_any X t1 t2 so ta un Q b1 d1 b2 d2 np g b8 d8 _ r1 HZ.out.1 r6 r6' r8 ⟨HZ.out.2.1, HZ.out.2.2.1⟩).mono ?_
   intro e u' h9
   replace h9 := h9.s
   obtain ⟨p, d, he, r9, b'⟩ := h9
   rw [<- HY.out.1] at he r9
   rw [<- HY.out.2.2.1, <- HY.out.2.1] at he
   exact ⟨_, he, ⟨p, d, rfl, (r9.flA hbo).lo hR.size⟩, b'⟩
  ·obtain ⟨p, d, h9, r9⟩ : ∃ p d, ρ (.tmp 152) = .tuple #[.agg (tL Y p Y.m d).toArray, .int .i64 I, .bool ok] /\ FlA u w19.heap.size ob [(Tr.list 13 Y.m (fun i => trs (dT (Y.f i))))] [.slice p Y.m d] := hd ⟨9, .data⟩ (by simp) rfl (by decide) rfl 152 rfl
   exact .inl ⟨rfl, .inl ⟨_, u, rfl, ⟨p, d, h9, r9⟩, Below.refl _ _⟩⟩
  obtain ⟨p, d, h9, r9⟩ : ∃ p d, ρ (.tmp 142) = .tuple #[.agg (tL Y p Y.m d).toArray, .int .i64 I, .bool ok] /\ FlA u w19.heap.size ob [(Tr.list 13 Y.m (fun i => trs (dT (Y.f i))))] [.slice p Y.m d] := hd ⟨10, .data⟩ (by simp) rfl (by decide) rfl 142 rfl
  exact .inl ⟨rfl, .inl ⟨_, u, run_ext_x rfl h9 rfl, ⟨p, d, rfl, r9⟩, Below.refl _ _⟩⟩
 ·intro u i o ρ hfl ho hρ hc hd
  obtain rfl | rfl | rfl | rfl : i = 12 \/ i = 13 \/ i = 16 \/ i = 17 := by simpa using hfl
  all_goals (simp only [List.getElem?_toArray, List.getElem?_cons_zero, List.getElem?_cons_succ, Option.some.injEq] at ho; subst ho)
  ·obtain ⟨p, d, h9⟩ : ∃ p d, ρ (.tmp 142) = .tuple #[.agg (tL Y p Y.m d).toArray, .int .i64 I, .bool ok] := hd ⟨10, .data⟩ (by simp) rfl (by decide) 142 rfl
   exact ⟨rfl, _, run_ext_x rfl h9 rfl, rfl⟩
  ·obtain ⟨p, d, h9⟩ : ∃ p d, ρ (.tmp 142) = .tuple #[.agg (tL Y p Y.m d).toArray, .int .i64 I, .bool ok] := hd ⟨10, .data⟩ (by simp) rfl (by decide) 142 rfl
   exact ⟨rfl, _, run_ext_x rfl h9 rfl, rfl⟩
  ·have h9 : ρ (.tmp 154) = .int .i64 I := hd ⟨12, .data⟩ (by simp) rfl (by decide) 154 rfl
   exact ⟨rfl, _, rfl, h9⟩
  have h9 : ρ (.tmp 155) = .bool ok := hd ⟨13, .data⟩ (by simp) rfl (by decide) 155 rfl
  exact ⟨rfl, _, rfl, h9⟩
 ·intro u o ρ b9 hR ho hρ hc hdA hbx hv
  simp only [List.getElem?_toArray, List.getElem?_cons_zero, List.getElem?_cons_succ, Option.some.injEq] at ho
  subst ho
  obtain ⟨p, d, h9, r9⟩ : ∃ p d, ρ (.tmp 153) = .agg (tL Y p Y.m d).toArray /\ FlA u w19.heap.size (some b9) [(Tr.list 13 Y.m (fun i => trs (dT (Y.f i))))] [.slice p Y.m d] := hv 11 153 (by decide) rfl rfl
  have gs : u.grownBy (setL u b9 0 (tL Y p Y.m d)) (some b9) := setL_gw _ _ _
  exact ⟨rfl, setL u b9 0 (tL Y p Y.m d), run_store_op rfl hdA h9 ((run_storeAt_mid u b9 0 35 (tL Y p Y.m d).toArray (hbx.1.there 0 2 (by simp)) (by kernel_rfl) (by simp [Value.oneCell'])).trans (by rw [setCells_L])), b9, p, d, rfl, hbx.2, bk_tz hbx.1 _ rfl, r9.kept gs, setL_below hbx.2 _ _ _ hR⟩
 intro vs σ u9 hE hΨ hvs
 obtain ⟨B3, p9, d9, e1, q1', kP, fP, bP⟩ := hE
 have f14 : vs 14 = .pointer (some ⟨B3, 0, none⟩) := (hvs 14 26 rfl).trans e1
 have f16 : vs 16 = .int .i64 I := (hvs 16 27 rfl).trans (hΨ 16 27 (by decide) (by decide) rfl)
 have f17 : vs 17 = .bool ok := (hvs 17 28 rfl).trans (hΨ 17 28 (by decide) (by decide) rfl)
 simp only [putsL]
 rw [f14, f16, f17]
 clear f14 f16 f17 e1 hΨ hvs
 have G16 : Hid (Below w.heap.size w u9 /\ Blk u9 BT 24 (tL X a X.m c).toArray /\ Blk u9 BQ 28 (qL Q q1 Q.ws.length k1 q2 Q.bs.length k2).toArray /\ Blk u9 B1 35 (tL Y p1 Y.m d1).toArray /\ Below u.heap.size u u9 /\ Blk u9 B2 35 (tL Y g1 Y.m g2).toArray /\ B2 < u9.heap.size /\ Own1 u9 lg B2 (tT (nsVT 1 Y)) (tL Y g1 Y.m g2) /\ Blk u9 B3 35 (tL Y p9 Y.m d9).toArray) := ⟨bel_nx (G15.out.1) bP, (G15.out.2.1).below bP, (G15.out.2.2.1).below bP, (G15.out.2.2.2.1).below bP, bel_nx (G15.out.2.2.2.2.1) bP, (G15.out.2.2.2.2.2.1).below bP, (by have := G15.out.2.2.2.2.2.2.1; have := (bP).size; omega), (G15.out.2.2.2.2.2.2.2).below bP (by have := NUM.out; have := G15.out.2.2.2.2.2.2.1; omega), kP⟩
 clear G15
 have RH : Hid (Rd u9 0 (Tr.list 13 Y.m (fun i => trs (dT (Y.f i)))) (.slice p9 Y.m d9)) := (fP.rd 0 _ rfl).mono (Nat.zero_le _)
 clear q1' kP fP bP H9
 try go_simp
 obtain ⟨⟨y0, y1⟩, yf⟩ := (G16.out.2.2.2.2.2.2.2.2).tc2
 clear yf
 obtain ⟨⟨t0, t1⟩, yf⟩ := (G16.out.2.2.2.1).tc2
 clear yf
 go_wp2_with fail
 refine (eqTable_u Y p9 _ d9 p1 d1 _ RH.out (RS.out.1.below (G16.out.2.2.2.2.1)) HY.out.2.2.2.1).mono ?_
 rintro e w20 ⟨rfl, bb⟩
 have G17 : Hid (Below w.heap.size w w20 /\ Blk w20 BT 24 (tL X a X.m c).toArray /\ Blk w20 BQ 28 (qL Q q1 Q.ws.length k1 q2 Q.bs.length k2).toArray /\ Blk w20 B1 35 (tL Y p1 Y.m d1).toArray /\ Below u.heap.size u w20 /\ Blk w20 B2 35 (tL Y g1 Y.m g2).toArray /\ B2 < w20.heap.size /\ Own1 w20 lg B2 (tT (nsVT 1 Y)) (tL Y g1 Y.m g2) /\ Blk w20 B3 35 (tL Y p9 Y.m d9).toArray) := ⟨bel_nx (G16.out.1) bb, (G16.out.2.1).below bb, (G16.out.2.2.1).below bb, (G16.out.2.2.2.1).below bb, bel_nx (G16.out.2.2.2.2.1) bb, (G16.out.2.2.2.2.2.1).below bb, (by have := G16.out.2.2.2.2.2.2.1; have := (bb).size; omega), (G16.out.2.2.2.2.2.2.2.1).below bb (by have := NUM.out; have := G16.out.2.2.2.2.2.2.1; omega), (G16.out.2.2.2.2.2.2.2.2).below bb⟩
 clear G16
 clear bb y0 y1 t0 t1 RH
 obtain ⟨⟨y0, y1⟩, yf⟩ := (G17.out.2.2.2.2.2.1).tc2
 clear yf
 go_wp2_with fail
 refine (heldTable_o Y g1 _ g2 1 lg B2 _ _ rfl (G17.out.2.2.2.2.2.2.2.1) (by have := HY.out.2.2.2.2; omega)).mono ?_
 rintro e w21 ⟨rfl, bb⟩
 rw [<- HM.out]
 have G18 : Hid (Below w.heap.size w w21 /\ Blk w21 BT 24 (tL X a X.m c).toArray /\ Blk w21 BQ 28 (qL Q q1 Q.ws.length k1 q2 Q.bs.length k2).toArray /\ Blk w21 B1 35 (tL Y p1 Y.m d1).toArray /\ Below u.heap.size u w21 /\ Blk w21 B2 35 (tL Y g1 Y.m g2).toArray /\ B2 < w21.heap.size /\ Own1 w21 lg B2 (tT (nsVT 1 Y)) (tL Y g1 Y.m g2) /\ Blk w21 B3 35 (tL Y p9 Y.m d9).toArray) := ⟨bel_nx (G17.out.1) bb, (G17.out.2.1).below bb, (G17.out.2.2.1).below bb, (G17.out.2.2.2.1).below bb, bel_nx (G17.out.2.2.2.2.1) bb, (G17.out.2.2.2.2.2.1).below bb, (by have := G17.out.2.2.2.2.2.2.1; have := (bb).size; omega), (G17.out.2.2.2.2.2.2.2.1).below bb (by have := NUM.out; have := G17.out.2.2.2.2.2.2.1; omega), (G17.out.2.2.2.2.2.2.2.2).below bb⟩
 clear G17
 clear bb y0 y1
 have BE : Hid (Below w.heap.size w w21) := G18.out.1
 go_wp2
 go_ret
 exact ⟨rfl, BE.out⟩
theorem tableOpen_big1 (X : VT) (a : Option Addr) (c : Nat) (so ta un : Int) (Q : VQ) (q1 : Option Addr) (k1 : Nat) (q2 : Option Addr) (k2 : Nat) (np : Nat) (g : Nat -> VP) (p3 : Option Addr) (k3 : Nat) (w : World)
 (hT : Rd w 0 (Tr.list 13 X.m (fun i => trs (dT (X.f i)))) (.slice a X.m c)) (r1 : Rd w 0 (intsT Q.ws) (.slice q1 Q.ws.length k1)) (r2 : Rd w 0 (boolsT Q.bs) (.slice q2 Q.bs.length k2)) (r3 : Rd w 0 (Tr.list 8 np (fun i => trs (pT (g i)))) (.slice p3 np k3)) (h : ¬ szT 2 (trs (tT X)) <= 1048576) :
 Calls Tryz.prog 3 #[.agg (tL X a X.m c).toArray, .int .i64 so, .int .i64 ta, .int .i64 un, .agg (qL Q q1 Q.ws.length k1 q2 Q.bs.length k2).toArray, .slice p3 np k3] w fun e w' => e = .returned (.bool true) /\ Below w.heap.size w w' := by
 obtain ⟨BT, hBT⟩ : ∃ B, B = w.heap.size := ⟨_, rfl⟩
 obtain ⟨BQ, hBQ⟩ : ∃ B, B = w.heap.size + 1 := ⟨_, rfl⟩
 obtain ⟨W, hW⟩ : ∃ W, W = (w.alloc (.cells (tL X a X.m c).toArray 24)).alloc (.cells (qL Q q1 Q.ws.length k1 q2 Q.bs.length k2).toArray 28) := ⟨_, rfl⟩
 have HR : Hid (Rd w 0 (Tr.list 13 X.m (fun i => trs (dT (X.f i)))) (.slice a X.m c) /\ Rd w 0 (intsT Q.ws) (.slice q1 Q.ws.length k1) /\ Rd w 0 (boolsT Q.bs) (.slice q2 Q.bs.length k2) /\ Rd w 0 (Tr.list 8 np (fun i => trs (pT (g i)))) (.slice p3 np k3)) := ⟨hT, r1, r2, r3⟩
 have H0 : Hid (Below w.heap.size w W /\ Blk W BT 24 (tL X a X.m c).toArray /\ Blk W BQ 28 (qL Q q1 Q.ws.length k1 q2 Q.bs.length k2).toArray) := by
  refine ⟨?_, ?_, ?_⟩
  ·rw [hW]; exact bel_nx (bel_alloc w _) (bel_alloc _ _)
  ·rw [hW, hBT]; exact (Blk.new w _ _).below (bel_alloc _ _)
  rw [hW, hBQ]; have := Blk.new (w.alloc (.cells (tL X a X.m c).toArray 24)) (qL Q q1 Q.ws.length k1 q2 Q.bs.length k2).toArray 28; simpa using this
 have HN : Hid (BT = w.heap.size /\ BQ = w.heap.size + 1 /\ W.heap.size = w.heap.size + 2) := ⟨hBT, hBQ, by rw [hW]; simp⟩
 obtain ⟨f1, hf1⟩ : ∃ f : Nat, f = 1048576 - szT 2 (trs (tT X)) := ⟨_, rfl⟩
 obtain ⟨f2, hf2⟩ : ∃ f : Nat, f = f1 - szT 6 (trs (qT Q)) := ⟨_, rfl⟩
 have n1 : ¬ ((f1 : Int) < 0) := by omega
 have n2 : ¬ ((f2 : Int) < 0) := by omega
 have HF : Hid (lfT 1048576 (szT 2 (trs (tT X))) = -1 /\ f1 <= 1048576 /\ f2 <= 1048576) := ⟨by unfold lfT; rw [if_neg (by omega)], by omega, by omega⟩
 clear hT r1 r2 r3 h hf1 hf2
 go_enter Tryz.func3, Tryz.ntmps3
 go_upto_region 1 with fail
 rw [<- hW, <- hBQ, <- hBT]
 clear hW hBQ hBT
 obtain ⟨⟨y0, y1⟩, yf⟩ := H0.out.2.1.tc2
 clear yf
 go_wp2_with fail
 refine (szTable_t X a _ c 1048576 _ (HR.out.1.below H0.out.1) (Nat.le_refl _)).mono ?_
 rintro e w1 ⟨rfl, b'⟩
 rw [HF.out.1]
 have H1 : Hid (Below w.heap.size w w1 /\ Blk w1 BT 24 (tL X a X.m c).toArray /\ Blk w1 BQ 28 (qL Q q1 Q.ws.length k1 q2 Q.bs.length k2).toArray) := ⟨bel_nx H0.out.1 b', H0.out.2.1.below b', H0.out.2.2.below b'⟩
 clear b' H0 y0 y1
 go_wp2
 go_ret
 exact ⟨rfl, H1.out.1⟩
theorem tableOpen_big2 (X : VT) (a : Option Addr) (c : Nat) (so ta un : Int) (Q : VQ) (q1 : Option Addr) (k1 : Nat) (q2 : Option Addr) (k2 : Nat) (np : Nat) (g : Nat -> VP) (p3 : Option Addr) (k3 : Nat) (w : World)
 (hT : Rd w 0 (Tr.list 13 X.m (fun i => trs (dT (X.f i)))) (.slice a X.m c)) (r1 : Rd w 0 (intsT Q.ws) (.slice q1 Q.ws.length k1)) (r2 : Rd w 0 (boolsT Q.bs) (.slice q2 Q.bs.length k2)) (r3 : Rd w 0 (Tr.list 8 np (fun i => trs (pT (g i)))) (.slice p3 np k3)) (h1 : szT 2 (trs (tT X)) <= 1048576) (h : ¬ szT 2 (trs (tT X)) + szT 6 (trs (qT Q)) <= 1048576) :
 Calls Tryz.prog 3 #[.agg (tL X a X.m c).toArray, .int .i64 so, .int .i64 ta, .int .i64 un, .agg (qL Q q1 Q.ws.length k1 q2 Q.bs.length k2).toArray, .slice p3 np k3] w fun e w' => e = .returned (.bool true) /\ Below w.heap.size w w' := by
 obtain ⟨BT, hBT⟩ : ∃ B, B = w.heap.size := ⟨_, rfl⟩
 obtain ⟨BQ, hBQ⟩ : ∃ B, B = w.heap.size + 1 := ⟨_, rfl⟩
 obtain ⟨W, hW⟩ : ∃ W, W = (w.alloc (.cells (tL X a X.m c).toArray 24)).alloc (.cells (qL Q q1 Q.ws.length k1 q2 Q.bs.length k2).toArray 28) := ⟨_, rfl⟩
 have HR : Hid (Rd w 0 (Tr.list 13 X.m (fun i => trs (dT (X.f i)))) (.slice a X.m c) /\ Rd w 0 (intsT Q.ws) (.slice q1 Q.ws.length k1) /\ Rd w 0 (boolsT Q.bs) (.slice q2 Q.bs.length k2) /\ Rd w 0 (Tr.list 8 np (fun i => trs (pT (g i)))) (.slice p3 np k3)) := ⟨hT, r1, r2, r3⟩
 have H0 : Hid (Below w.heap.size w W /\ Blk W BT 24 (tL X a X.m c).toArray /\ Blk W BQ 28 (qL Q q1 Q.ws.length k1 q2 Q.bs.length k2).toArray) := by
  refine ⟨?_, ?_, ?_⟩
  ·rw [hW]; exact bel_nx (bel_alloc w _) (bel_alloc _ _)
  ·rw [hW, hBT]; exact (Blk.new w _ _).below (bel_alloc _ _)
  rw [hW, hBQ]; have := Blk.new (w.alloc (.cells (tL X a X.m c).toArray 24)) (qL Q q1 Q.ws.length k1 q2 Q.bs.length k2).toArray 28; simpa using this
 have HN : Hid (BT = w.heap.size /\ BQ = w.heap.size + 1 /\ W.heap.size = w.heap.size + 2) := ⟨hBT, hBQ, by rw [hW]; simp⟩
 obtain ⟨f1, hf1⟩ : ∃ f : Nat, f = 1048576 - szT 2 (trs (tT X)) := ⟨_, rfl⟩
 obtain ⟨f2, hf2⟩ : ∃ f : Nat, f = f1 - szT 6 (trs (qT Q)) := ⟨_, rfl⟩
 have n1 : ¬ ((f1 : Int) < 0) := by omega
 have n2 : ¬ ((f2 : Int) < 0) := by omega
 have HF : Hid (lfT 1048576 (szT 2 (trs (tT X))) = (f1 : Int) /\ lfT f1 (szT 6 (trs (qT Q))) = -1 /\ f1 <= 1048576 /\ f2 <= 1048576) := ⟨by unfold lfT; rw [if_pos (by omega)]; omega, by unfold lfT; rw [if_neg (by omega)], by omega, by omega⟩
 clear hT r1 r2 r3 h hf1 hf2 h1
 go_enter Tryz.func3, Tryz.ntmps3
 go_upto_region 1 with fail
 rw [<- hW, <- hBQ, <- hBT]
 clear hW hBQ hBT
 obtain ⟨⟨y0, y1⟩, yf⟩ := H0.out.2.1.tc2
 clear yf
 go_wp2_with fail
 refine (szTable_t X a _ c 1048576 _ (HR.out.1.below H0.out.1) (Nat.le_refl _)).mono ?_
 rintro e w1 ⟨rfl, b'⟩
 rw [HF.out.1]
 have H1 : Hid (Below w.heap.size w w1 /\ Blk w1 BT 24 (tL X a X.m c).toArray /\ Blk w1 BQ 28 (qL Q q1 Q.ws.length k1 q2 Q.bs.length k2).toArray) := ⟨bel_nx H0.out.1 b', H0.out.2.1.below b', H0.out.2.2.below b'⟩
 clear b' H0 y0 y1
 obtain ⟨⟨y0, y1, y2, y3, y4, y5⟩, yf⟩ := H1.out.2.2.tc6
 clear yf
 go_wp2_with fail
 refine (szReq_t Q q1 _ k1 q2 _ k2 f1 _ (HR.out.2.1.below H1.out.1) (HR.out.2.2.1.below H1.out.1) (by have := HF.out.2.2; omega)).mono ?_
 rintro e w2 ⟨rfl, b'⟩
 rw [HF.out.2.1]
 have H2 : Hid (Below w.heap.size w w2 /\ Blk w2 BT 24 (tL X a X.m c).toArray /\ Blk w2 BQ 28 (qL Q q1 Q.ws.length k1 q2 Q.bs.length k2).toArray) := ⟨bel_nx H1.out.1 b', H1.out.2.1.below b', H1.out.2.2.below b'⟩
 clear b' H1 y0 y1 y2 y3 y4 y5
 go_wp2
 go_ret
 exact ⟨rfl, H2.out.1⟩
theorem tableOpen_big3 (X : VT) (a : Option Addr) (c : Nat) (so ta un : Int) (Q : VQ) (q1 : Option Addr) (k1 : Nat) (q2 : Option Addr) (k2 : Nat) (np : Nat) (g : Nat -> VP) (p3 : Option Addr) (k3 : Nat) (w : World)
 (hT : Rd w 0 (Tr.list 13 X.m (fun i => trs (dT (X.f i)))) (.slice a X.m c)) (r1 : Rd w 0 (intsT Q.ws) (.slice q1 Q.ws.length k1)) (r2 : Rd w 0 (boolsT Q.bs) (.slice q2 Q.bs.length k2)) (r3 : Rd w 0 (Tr.list 8 np (fun i => trs (pT (g i)))) (.slice p3 np k3)) (h1 : szT 2 (trs (tT X)) + szT 6 (trs (qT Q)) <= 1048576) (h : ¬ szT 2 (trs (tT X)) + szT 6 (trs (qT Q)) + (Tr.list 8 np (fun i => trs (pT (g i)))).sz <= 1048576) :
 Calls Tryz.prog 3 #[.agg (tL X a X.m c).toArray, .int .i64 so, .int .i64 ta, .int .i64 un, .agg (qL Q q1 Q.ws.length k1 q2 Q.bs.length k2).toArray, .slice p3 np k3] w fun e w' => e = .returned (.bool true) /\ Below w.heap.size w w' := by
 obtain ⟨BT, hBT⟩ : ∃ B, B = w.heap.size := ⟨_, rfl⟩
 obtain ⟨BQ, hBQ⟩ : ∃ B, B = w.heap.size + 1 := ⟨_, rfl⟩
 obtain ⟨W, hW⟩ : ∃ W, W = (w.alloc (.cells (tL X a X.m c).toArray 24)).alloc (.cells (qL Q q1 Q.ws.length k1 q2 Q.bs.length k2).toArray 28) := ⟨_, rfl⟩
 have HR : Hid (Rd w 0 (Tr.list 13 X.m (fun i => trs (dT (X.f i)))) (.slice a X.m c) /\ Rd w 0 (intsT Q.ws) (.slice q1 Q.ws.length k1) /\ Rd w 0 (boolsT Q.bs) (.slice q2 Q.bs.length k2) /\ Rd w 0 (Tr.list 8 np (fun i => trs (pT (g i)))) (.slice p3 np k3)) := ⟨hT, r1, r2, r3⟩
 have H0 : Hid (Below w.heap.size w W /\ Blk W BT 24 (tL X a X.m c).toArray /\ Blk W BQ 28 (qL Q q1 Q.ws.length k1 q2 Q.bs.length k2).toArray) := by
  refine ⟨?_, ?_, ?_⟩
  ·rw [hW]; exact bel_nx (bel_alloc w _) (bel_alloc _ _)
  ·rw [hW, hBT]; exact (Blk.new w _ _).below (bel_alloc _ _)
  rw [hW, hBQ]; have := Blk.new (w.alloc (.cells (tL X a X.m c).toArray 24)) (qL Q q1 Q.ws.length k1 q2 Q.bs.length k2).toArray 28; simpa using this
 have HN : Hid (BT = w.heap.size /\ BQ = w.heap.size + 1 /\ W.heap.size = w.heap.size + 2) := ⟨hBT, hBQ, by rw [hW]; simp⟩
 obtain ⟨f1, hf1⟩ : ∃ f : Nat, f = 1048576 - szT 2 (trs (tT X)) := ⟨_, rfl⟩
 obtain ⟨f2, hf2⟩ : ∃ f : Nat, f = f1 - szT 6 (trs (qT Q)) := ⟨_, rfl⟩
 have n1 : ¬ ((f1 : Int) < 0) := by omega
 have n2 : ¬ ((f2 : Int) < 0) := by omega
 have HF : Hid (lfT 1048576 (szT 2 (trs (tT X))) = (f1 : Int) /\ lfT f1 (szT 6 (trs (qT Q))) = (f2 : Int) /\ lfT f2 (Tr.list 8 np (fun i => trs (pT (g i)))).sz = -1 /\ f1 <= 1048576 /\ f2 <= 1048576) := ⟨by unfold lfT; rw [if_pos (by omega)]; omega, by unfold lfT; rw [if_pos (by omega)]; omega, by unfold lfT; rw [if_neg (by omega)], by omega, by omega⟩
 clear hT r1 r2 r3 h hf1 hf2 h1
 go_enter Tryz.func3, Tryz.ntmps3
 go_upto_region 1 with fail
 rw [<- hW, <- hBQ, <- hBT]
 clear hW hBQ hBT
 obtain ⟨⟨y0, y1⟩, yf⟩ := H0.out.2.1.tc2
 clear yf
 go_wp2_with fail
 refine (szTable_t X a _ c 1048576 _ (HR.out.1.below H0.out.1) (Nat.le_refl _)).mono ?_
 rintro e w1 ⟨rfl, b'⟩
 rw [HF.out.1]
 have H1 : Hid (Below w.heap.size w w1 /\ Blk w1 BT 24 (tL X a X.m c).toArray /\ Blk w1 BQ 28 (qL Q q1 Q.ws.length k1 q2 Q.bs.length k2).toArray) := ⟨bel_nx H0.out.1 b', H0.out.2.1.below b', H0.out.2.2.below b'⟩
 clear b' H0 y0 y1
 obtain ⟨⟨y0, y1, y2, y3, y4, y5⟩, yf⟩ := H1.out.2.2.tc6
 clear yf
 go_wp2_with fail
 refine (szReq_t Q q1 _ k1 q2 _ k2 f1 _ (HR.out.2.1.below H1.out.1) (HR.out.2.2.1.below H1.out.1) (by have := HF.out.2.2.2; omega)).mono ?_
 rintro e w2 ⟨rfl, b'⟩
 rw [HF.out.2.1]
 have H2 : Hid (Below w.heap.size w w2 /\ Blk w2 BT 24 (tL X a X.m c).toArray /\ Blk w2 BQ 28 (qL Q q1 Q.ws.length k1 q2 Q.bs.length k2).toArray) := ⟨bel_nx H1.out.1 b', H1.out.2.1.below b', H1.out.2.2.below b'⟩
 clear b' H1 y0 y1 y2 y3 y4 y5
 go_wp2_with fail
 refine (szPartS_t np g p3 _ k3 f2 _ (HR.out.2.2.2.below H2.out.1) (by have := HF.out.2.2.2; omega)).mono ?_
 rintro e w3 ⟨rfl, b'⟩
 rw [HF.out.2.2.1]
 have H3 : Hid (Below w.heap.size w w3 /\ Blk w3 BT 24 (tL X a X.m c).toArray /\ Blk w3 BQ 28 (qL Q q1 Q.ws.length k1 q2 Q.bs.length k2).toArray) := ⟨bel_nx H2.out.1 b', H2.out.2.1.below b', H2.out.2.2.below b'⟩
 clear b' H2
 go_wp2
 go_ret
 exact ⟨rfl, H3.out.1⟩
end Go.Proofs.YtlhjiiifmfgnoaaGreat
