/- Texts that the proof needs, joined: Tr8. -/
import Derived.Test.YtplaoagcedgdfaaV3
set_option linter.unusedVariables false
set_option linter.unusedSimpArgs false
set_option maxHeartbeats 4000000
set_option maxRecDepth 20000
namespace Go.Proofs.Ytplaoagcedgdfaa
open Go.RowKit Go.Joins
theorem eqRuleS_t (n : Nat) (f : Nat -> Ru) (a : Option Addr) (n' cap : Nat) (a' : Option Addr) (cap' : Nat) (w : World) (hs : Rd w 0 (.list 7 n (fun k => trs (xrT (f k)))) (.slice a n' cap)) (hs' : Rd w 0 (.list 7 n (fun k => trs (xrT (f k)))) (.slice a' n' cap')) (hz : (Tr.list 7 n (fun k => trs (xrT (f k)))).sz <= 1048576) :
 Calls Try.prog 61 #[.slice a n' cap, .slice a' n' cap'] w fun e w' => e = .returned (.bool true) /\ Below w.heap.size w w' := by
 obtain ⟨rfl, h1⟩ := hs.slu
 obtain ⟨-, h2⟩ := hs'.slu
 rw [Tr.sz_list] at hz
 exact eqRuleS_true a a' n' cap cap' f w h1 h2 (by omega)
theorem Blk.tc3 {w : World} {g : Nat} {t : TypeId} {v0 v1 v2 : Value} (h : Blk w g t #[v0, v1, v2]) : (w.cell? ⟨g, 0, none⟩ = some v0 /\ w.cell? ⟨g, 1, none⟩ = some v1 /\ w.cell? ⟨g, 2, none⟩ = some v2) /\ ∀ j, w.frozen? ⟨g, j, none⟩ = false :=
 ⟨⟨h.cell 0 rfl, h.cell 1 rfl, h.cell 2 rfl⟩, h.fro⟩
theorem Blk.tc9 {w : World} {g : Nat} {t : TypeId} {v0 v1 v2 v3 v4 v5 v6 v7 v8 : Value} (h : Blk w g t #[v0, v1, v2, v3, v4, v5, v6, v7, v8]) : (w.cell? ⟨g, 0, none⟩ = some v0 /\ w.cell? ⟨g, 1, none⟩ = some v1 /\ w.cell? ⟨g, 2, none⟩ = some v2 /\ w.cell? ⟨g, 3, none⟩ = some v3 /\ w.cell? ⟨g, 4, none⟩ = some v4 /\ w.cell? ⟨g, 5, none⟩ = some v5 /\ w.cell? ⟨g, 6, none⟩ = some v6 /\ w.cell? ⟨g, 7, none⟩ = some v7 /\ w.cell? ⟨g, 8, none⟩ = some v8) /\ ∀ j, w.frozen? ⟨g, j, none⟩ = false :=
 ⟨⟨h.cell 0 rfl, h.cell 1 rfl, h.cell 2 rfl, h.cell 3 rfl, h.cell 4 rfl, h.cell 5 rfl, h.cell 6 rfl, h.cell 7 rfl, h.cell 8 rfl⟩, h.fro⟩
theorem Blk.tc11 {w : World} {g : Nat} {t : TypeId} {v0 v1 v2 v3 v4 v5 v6 v7 v8 v9 v10 : Value} (h : Blk w g t #[v0, v1, v2, v3, v4, v5, v6, v7, v8, v9, v10]) : (w.cell? ⟨g, 0, none⟩ = some v0 /\ w.cell? ⟨g, 1, none⟩ = some v1 /\ w.cell? ⟨g, 2, none⟩ = some v2 /\ w.cell? ⟨g, 3, none⟩ = some v3 /\ w.cell? ⟨g, 4, none⟩ = some v4 /\ w.cell? ⟨g, 5, none⟩ = some v5 /\ w.cell? ⟨g, 6, none⟩ = some v6 /\ w.cell? ⟨g, 7, none⟩ = some v7 /\ w.cell? ⟨g, 8, none⟩ = some v8 /\ w.cell? ⟨g, 9, none⟩ = some v9 /\ w.cell? ⟨g, 10, none⟩ = some v10) /\ ∀ j, w.frozen? ⟨g, j, none⟩ = false :=
 ⟨⟨h.cell 0 rfl, h.cell 1 rfl, h.cell 2 rfl, h.cell 3 rfl, h.cell 4 rfl, h.cell 5 rfl, h.cell 6 rfl, h.cell 7 rfl, h.cell 8 rfl, h.cell 9 rfl, h.cell 10 rfl⟩, h.fro⟩
theorem Blk.tc17 {w : World} {g : Nat} {t : TypeId} {v0 v1 v2 v3 v4 v5 v6 v7 v8 v9 v10 v11 v12 v13 v14 v15 v16 : Value} (h : Blk w g t #[v0, v1, v2, v3, v4, v5, v6, v7, v8, v9, v10, v11, v12, v13, v14, v15, v16]) : (w.cell? ⟨g, 0, none⟩ = some v0 /\ w.cell? ⟨g, 1, none⟩ = some v1 /\ w.cell? ⟨g, 2, none⟩ = some v2 /\ w.cell? ⟨g, 3, none⟩ = some v3 /\ w.cell? ⟨g, 4, none⟩ = some v4 /\ w.cell? ⟨g, 5, none⟩ = some v5 /\ w.cell? ⟨g, 6, none⟩ = some v6 /\ w.cell? ⟨g, 7, none⟩ = some v7 /\ w.cell? ⟨g, 8, none⟩ = some v8 /\ w.cell? ⟨g, 9, none⟩ = some v9 /\ w.cell? ⟨g, 10, none⟩ = some v10 /\ w.cell? ⟨g, 11, none⟩ = some v11 /\ w.cell? ⟨g, 12, none⟩ = some v12 /\ w.cell? ⟨g, 13, none⟩ = some v13 /\ w.cell? ⟨g, 14, none⟩ = some v14 /\ w.cell? ⟨g, 15, none⟩ = some v15 /\ w.cell? ⟨g, 16, none⟩ = some v16) /\ ∀ j, w.frozen? ⟨g, j, none⟩ = false :=
 ⟨⟨h.cell 0 rfl, h.cell 1 rfl, h.cell 2 rfl, h.cell 3 rfl, h.cell 4 rfl, h.cell 5 rfl, h.cell 6 rfl, h.cell 7 rfl, h.cell 8 rfl, h.cell 9 rfl, h.cell 10 rfl, h.cell 11 rfl, h.cell 12 rfl, h.cell 13 rfl, h.cell 14 rfl, h.cell 15 rfl, h.cell 16 rfl⟩, h.fro⟩
theorem eqConfig_t (X : VC) (a1 : Option Addr) (l1 c1 : Nat) (a1' : Option Addr) (c1' : Nat) (w : World) (r1 : Rd w 0 (.list 7 X.n (fun i => trs (xrT (X.f i)))) (.slice a1 l1 c1)) (r1' : Rd w 0 (.list 7 X.n (fun i => trs (xrT (X.f i)))) (.slice a1' l1 c1')) (hz : szT 3 (trs (xcT X)) <= 1048576) :
 Calls Try.prog 38 #[.agg (xcL X a1 l1 c1).toArray, .agg (xcL X a1' l1 c1').toArray] w fun e w' => e = .returned (.bool true) /\ Below w.heap.size w w' := by
 obtain ⟨W, hW⟩ : ∃ W, W = (w.alloc (.cells (xcL X a1 l1 c1).toArray 41)).alloc (.cells (xcL X a1' l1 c1').toArray 41) := ⟨_, rfl⟩
 have HZ : Hid ((Tr.list 7 X.n (fun i => trs (xrT (X.f i)))).sz <= 1048576) := by
  rw [szT_xc] at hz
  show (Tr.list 7 X.n (fun i => trs (xrT (X.f i)))).sz <= 1048576
  try simp only [szT_q, szT_a, szT_p, szT_d, szT_t, szT_xr, szT_xc, szT_xl, szT_xn, szT_xf, true_and]
  omega
 have HR : Hid (Rd w 0 (.list 7 X.n (fun i => trs (xrT (X.f i)))) (.slice a1 l1 c1) /\ Rd w 0 (.list 7 X.n (fun i => trs (xrT (X.f i)))) (.slice a1' l1 c1')) := ⟨r1, r1'⟩
 have G0 : Hid (Below w.heap.size w W /\ Blk W w.heap.size 41 (xcL X a1 l1 c1).toArray /\ Blk W (w.heap.size + 1) 41 (xcL X a1' l1 c1').toArray) := ⟨by rw [hW]; exact bel_nx (bel_alloc _ _) (bel_alloc _ _), by rw [hW]; exact (Blk.new w _ _).below (bel_alloc _ _), by rw [hW]; have := Blk.new (w.alloc (.cells (xcL X a1 l1 c1).toArray 41)) (xcL X a1' l1 c1').toArray 41; simpa using this⟩
 clear hz r1 r1'
 go_enter Try.func38, Try.ntmps38
 go_upto_region 1 with fail
 rw [<- hW]
 clear hW
 obtain ⟨⟨y0, y1, y2⟩, yf⟩ := G0.out.2.1.tc3
 obtain ⟨⟨z0, z1, z2⟩, zf⟩ := G0.out.2.2.tc3
 clear yf zf
 go_wp2_with fail
 refine (eqRuleS_t X.n X.f a1 l1 c1 a1' c1' _ (HR.out.1.below G0.out.1) (HR.out.2.below G0.out.1) HZ.out).mono ?_
 rintro e w1 ⟨rfl, hb1⟩
 have G1 : Hid (Below w.heap.size w w1 /\ Blk w1 w.heap.size 41 (xcL X a1 l1 c1).toArray /\ Blk w1 (w.heap.size + 1) 41 (xcL X a1' l1 c1').toArray) := ⟨bel_nx G0.out.1 hb1, G0.out.2.1.below hb1, G0.out.2.2.below hb1⟩
 clear hb1 y0 y1 y2 z0 z1 z2
 go_wp2
 go_ret
 exact ⟨rfl, G1.out.1⟩
theorem eqCall_t (X : VL) (a1 : Option Addr) (l1 c1 : Nat) (a2 : Option Addr) (l2 c2 : Nat) (a1' : Option Addr) (c1' : Nat) (a2' : Option Addr) (c2' : Nat) (w : World) (r1 : Rd w 0 (intsT X.q.ws) (.slice a1 l1 c1)) (r2 : Rd w 0 (boolsT X.q.bs) (.slice a2 l2 c2)) (r1' : Rd w 0 (intsT X.q.ws) (.slice a1' l1 c1')) (r2' : Rd w 0 (boolsT X.q.bs) (.slice a2' l2 c2')) (hz : szT 9 (trs (xlT X)) <= 1048576) :
 Calls Try.prog 85 #[.agg (xlL X a1 l1 c1 a2 l2 c2).toArray, .agg (xlL X a1' l1 c1' a2' l2 c2').toArray] w fun e w' => e = .returned (.bool true) /\ Below w.heap.size w w' := by
 obtain ⟨W, hW⟩ : ∃ W, W = (w.alloc (.cells (xlL X a1 l1 c1 a2 l2 c2).toArray 141)).alloc (.cells (xlL X a1' l1 c1' a2' l2 c2').toArray 141) := ⟨_, rfl⟩
 have HZ : Hid (szT 6 (trs (qT X.q)) <= 1048576) := by
  rw [szT_xl] at hz
  show szT 6 (trs (qT X.q)) <= 1048576
  try simp only [szT_q, szT_a, szT_p, szT_d, szT_t, szT_xr, szT_xc, szT_xl, szT_xn, szT_xf, true_and]
  omega
 have HR : Hid (Rd w 0 (intsT X.q.ws) (.slice a1 l1 c1) /\ Rd w 0 (boolsT X.q.bs) (.slice a2 l2 c2) /\ Rd w 0 (intsT X.q.ws) (.slice a1' l1 c1') /\ Rd w 0 (boolsT X.q.bs) (.slice a2' l2 c2')) := ⟨r1, r2, r1', r2'⟩
 have G0 : Hid (Below w.heap.size w W /\ Blk W w.heap.size 141 (xlL X a1 l1 c1 a2 l2 c2).toArray /\ Blk W (w.heap.size + 1) 141 (xlL X a1' l1 c1' a2' l2 c2').toArray) := ⟨by rw [hW]; exact bel_nx (bel_alloc _ _) (bel_alloc _ _), by rw [hW]; exact (Blk.new w _ _).below (bel_alloc _ _), by rw [hW]; have := Blk.new (w.alloc (.cells (xlL X a1 l1 c1 a2 l2 c2).toArray 141)) (xlL X a1' l1 c1' a2' l2 c2').toArray 141; simpa using this⟩
 clear hz r1 r2 r1' r2'
 go_enter Try.func85, Try.ntmps85
 go_upto_region 1 with fail
 rw [<- hW]
 clear hW
 obtain ⟨⟨y0, y1, y2, y3, y4, y5, y6, y7, y8⟩, yf⟩ := G0.out.2.1.tc9
 obtain ⟨⟨z0, z1, z2, z3, z4, z5, z6, z7, z8⟩, zf⟩ := G0.out.2.2.tc9
 clear yf zf
 go_wp2_with fail
 refine (eqReq_t X.q a1 l1 c1 a2 l2 c2 a1' c1' a2' c2' _ (HR.out.1.below G0.out.1) (HR.out.2.1.below G0.out.1) (HR.out.2.2.1.below G0.out.1) (HR.out.2.2.2.below G0.out.1) HZ.out).mono ?_
 rintro e w1 ⟨rfl, hb1⟩
 have G1 : Hid (Below w.heap.size w w1 /\ Blk w1 w.heap.size 141 (xlL X a1 l1 c1 a2 l2 c2).toArray /\ Blk w1 (w.heap.size + 1) 141 (xlL X a1' l1 c1' a2' l2 c2').toArray) := ⟨bel_nx G0.out.1 hb1, G0.out.2.1.below hb1, G0.out.2.2.below hb1⟩
 clear hb1 y0 y1 y2 y3 y4 y5 y6 y7 y8 z0 z1 z2 z3 z4 z5 z6 z7 z8
 go_wp2
 go_ret
 exact ⟨rfl, G1.out.1⟩
theorem eqCallS_t (n : Nat) (f : Nat -> VL) (a : Option Addr) (n' cap : Nat) (a' : Option Addr) (cap' : Nat) (w : World) (hs : Rd w 0 (.list 9 n (fun k => trs (xlT (f k)))) (.slice a n' cap)) (hs' : Rd w 0 (.list 9 n (fun k => trs (xlT (f k)))) (.slice a' n' cap')) (hz : (Tr.list 9 n (fun k => trs (xlT (f k)))).sz <= 1048576) :
 Calls Try.prog 84 #[.slice a n' cap, .slice a' n' cap'] w fun e w' => e = .returned (.bool true) /\ Below w.heap.size w w' := by
 obtain ⟨a9, c9, h9, -, hn⟩ := hs.shape
 simp only [Value.slice.injEq] at h9
 obtain ⟨-, rfl, -⟩ := h9
 clear a9 c9 hn
 have hn1 : n' <= 1048576 := by rw [Tr.sz_list] at hz; omega
 have HZ : Hid (∀ k, k < n' -> szT 9 (trs (xlT (f k))) <= 1048576) := by
  show ∀ k, k < n' -> szT 9 (trs (xlT (f k))) <= 1048576
  intro k hk
  rw [Tr.sz_list] at hz
  have := sumN_at (fun k => szT 9 (trs (xlT (f k)))) hk
  omega
 have HS : Hid (Rd w 0 (.list 9 n' (fun k => trs (xlT (f k)))) (.slice a n' cap) /\ Rd w 0 (.list 9 n' (fun k => trs (xlT (f k)))) (.slice a' n' cap')) := ⟨hs, hs'⟩
 clear hs hs' hz
 go_enter Try.func84, Try.ntmps84
 go_wp2
 go_loopw [5] (fun i wr => ∃ z : Nat, z <= n' /\ i = .int .i64 z /\ Below w.heap.size w wr) (fun i _ => n' - (intOf i).toNat)
 case atStart => exact ⟨0, Nat.zero_le _, rfl, Below.refl _ _⟩
 case round =>
  obtain ⟨k, hk, rfl, hbl⟩ := hrel
  by_cases hlt : k < n'
  ·have hi : (k : Int) < (n' : Int) := by omega
   obtain ⟨b, off, vs, rfl, _, hb0, hlen, hr, hrd⟩ := (HS.out.1.below hbl).at hlt
   obtain ⟨a1, c1, a2, c2, rfl, r1, r2⟩ := VL.cells hrd hlen
   clear hlen hrd hb0
   obtain ⟨b', off', vs, rfl, _, hb0, hlen, hr', hrd⟩ := (HS.out.2.below hbl).at hlt
   obtain ⟨a1', c1', a2', c2', rfl, r1', r2'⟩ := VL.cells hrd hlen
   clear hlen hrd hb0
   have d09 : wr.cell? ⟨b, off + k * 9, none⟩ = _ := hr 0 _ rfl
   have e09 : wr.cell? ⟨b', off' + k * 9, none⟩ = _ := hr' 0 _ rfl
   have d19 : wr.cell? ⟨b, off + k * 9 + 1, none⟩ = _ := hr 1 _ rfl
   have e19 : wr.cell? ⟨b', off' + k * 9 + 1, none⟩ = _ := hr' 1 _ rfl
   have d29 : wr.cell? ⟨b, off + k * 9 + 2, none⟩ = _ := hr 2 _ rfl
   have e29 : wr.cell? ⟨b', off' + k * 9 + 2, none⟩ = _ := hr' 2 _ rfl
   have d39 : wr.cell? ⟨b, off + k * 9 + 3, none⟩ = _ := hr 3 _ rfl
   have e39 : wr.cell? ⟨b', off' + k * 9 + 3, none⟩ = _ := hr' 3 _ rfl
   have d49 : wr.cell? ⟨b, off + k * 9 + 4, none⟩ = _ := hr 4 _ rfl
   have e49 : wr.cell? ⟨b', off' + k * 9 + 4, none⟩ = _ := hr' 4 _ rfl
   have d59 : wr.cell? ⟨b, off + k * 9 + 5, none⟩ = _ := hr 5 _ rfl
   have e59 : wr.cell? ⟨b', off' + k * 9 + 5, none⟩ = _ := hr' 5 _ rfl
   have d69 : wr.cell? ⟨b, off + k * 9 + 6, none⟩ = _ := hr 6 _ rfl
   have e69 : wr.cell? ⟨b', off' + k * 9 + 6, none⟩ = _ := hr' 6 _ rfl
   have d79 : wr.cell? ⟨b, off + k * 9 + 7, none⟩ = _ := hr 7 _ rfl
   have e79 : wr.cell? ⟨b', off' + k * 9 + 7, none⟩ = _ := hr' 7 _ rfl
   have d89 : wr.cell? ⟨b, off + k * 9 + 8, none⟩ = _ := hr 8 _ rfl
   have e89 : wr.cell? ⟨b', off' + k * 9 + 8, none⟩ = _ := hr' 8 _ rfl
   have HK : Hid (Below w.heap.size w wr /\ szT 9 (trs (xlT (f k))) <= 1048576 /\ Rd wr 0 (intsT (f k).q.ws) (.slice a1 ((f k).q.ws.length) c1) /\ Rd wr 0 (boolsT (f k).q.bs) (.slice a2 ((f k).q.bs.length) c2) /\ Rd wr 0 (intsT (f k).q.ws) (.slice a1' ((f k).q.ws.length) c1') /\ Rd wr 0 (boolsT (f k).q.bs) (.slice a2' ((f k).q.bs.length) c2')) := ⟨hbl, HZ.out k hlt, r1, r2, r1', r2'⟩
   clear r1 r2 r1' r2' hr hr' hbl
   go_wp2_with fail
   go_region_with (go_at_call 85; refine (eqCall_t (f k) a1 ((f k).q.ws.length) c1 a2 ((f k).q.bs.length) c2 a1' c1' a2' c2' _ (HK.out.2.2.1.below (by first | exact Below.refl _ _ | exact (Below.refl _ _).drew | exact (Below.refl _ _).drew.drew)) (HK.out.2.2.2.1.below (by first | exact Below.refl _ _ | exact (Below.refl _ _).drew | exact (Below.refl _ _).drew.drew)) (HK.out.2.2.2.2.1.below (by first | exact Below.refl _ _ | exact (Below.refl _ _).drew | exact (Below.refl _ _).drew.drew)) (HK.out.2.2.2.2.2.below (by first | exact Below.refl _ _ | exact (Below.refl _ _).drew | exact (Below.refl _ _).drew.drew)) HK.out.2.1).mono ?_; rintro e w1 ⟨rfl, b1'⟩; have b1 : Below wr.heap.size wr w1 := bel_nx (by first | exact Below.refl _ _ | exact (Below.refl _ _).drew | exact (Below.refl _ _).drew.drew) b1'; clear b1')
   all_goals (
    have B1 := bel_nx HK.out.1 b1
    clear HK b1 d09 e09 d19 e19 d29 e29 d39 e39 d49 e49 d59 e59 d69 e69 d79 e79 d89 e89
    go_wp2
    go_roundw
    case rel => exact ⟨k + 1, by omega, by go_num, B1⟩
    case measure => simp [intOf]; omega)
  have hi : ¬ (k : Int) < (n' : Int) := by omega
  go_wp2
  go_ret
  exact ⟨rfl, hbl⟩
theorem eqLine_t (X : VN) (a1 : Option Addr) (l1 c1 : Nat) (a2 : Option Addr) (l2 c2 : Nat) (a3 : Option Addr) (l3 c3 : Nat) (a1' : Option Addr) (c1' : Nat) (a2' : Option Addr) (c2' : Nat) (a3' : Option Addr) (c3' : Nat) (w : World) (r1 : Rd w 0 (.list 9 X.nq (fun i => trs (xlT (X.qf i)))) (.slice a1 l1 c1)) (r2 : Rd w 0 (intsT X.c.q.ws) (.slice a2 l2 c2)) (r3 : Rd w 0 (boolsT X.c.q.bs) (.slice a3 l3 c3)) (r1' : Rd w 0 (.list 9 X.nq (fun i => trs (xlT (X.qf i)))) (.slice a1' l1 c1')) (r2' : Rd w 0 (intsT X.c.q.ws) (.slice a2' l2 c2')) (r3' : Rd w 0 (boolsT X.c.q.bs) (.slice a3' l3 c3')) (hz : szT 17 (trs (xnT X)) <= 1048576) :
 Calls Try.prog 63 #[.agg (xnL X a1 l1 c1 a2 l2 c2 a3 l3 c3).toArray, .agg (xnL X a1' l1 c1' a2' l2 c2' a3' l3 c3').toArray] w fun e w' => e = .returned (.bool true) /\ Below w.heap.size w w' := by
 obtain ⟨W, hW⟩ : ∃ W, W = (w.alloc (.cells (xnL X a1 l1 c1 a2 l2 c2 a3 l3 c3).toArray 143)).alloc (.cells (xnL X a1' l1 c1' a2' l2 c2' a3' l3 c3').toArray 143) := ⟨_, rfl⟩
 have HZ : Hid ((Tr.list 9 X.nq (fun i => trs (xlT (X.qf i)))).sz <= 1048576 /\ szT 9 (trs (xlT X.c)) <= 1048576) := by
  rw [szT_xn] at hz
  show (Tr.list 9 X.nq (fun i => trs (xlT (X.qf i)))).sz <= 1048576 /\ szT 9 (trs (xlT X.c)) <= 1048576
  try simp only [szT_q, szT_a, szT_p, szT_d, szT_t, szT_xr, szT_xc, szT_xl, szT_xn, szT_xf, true_and]
  omega
 have HR : Hid (Rd w 0 (.list 9 X.nq (fun i => trs (xlT (X.qf i)))) (.slice a1 l1 c1) /\ Rd w 0 (intsT X.c.q.ws) (.slice a2 l2 c2) /\ Rd w 0 (boolsT X.c.q.bs) (.slice a3 l3 c3) /\ Rd w 0 (.list 9 X.nq (fun i => trs (xlT (X.qf i)))) (.slice a1' l1 c1') /\ Rd w 0 (intsT X.c.q.ws) (.slice a2' l2 c2') /\ Rd w 0 (boolsT X.c.q.bs) (.slice a3' l3 c3')) := ⟨r1, r2, r3, r1', r2', r3'⟩
 have G0 : Hid (Below w.heap.size w W /\ Blk W w.heap.size 143 (xnL X a1 l1 c1 a2 l2 c2 a3 l3 c3).toArray /\ Blk W (w.heap.size + 1) 143 (xnL X a1' l1 c1' a2' l2 c2' a3' l3 c3').toArray) := ⟨by rw [hW]; exact bel_nx (bel_alloc _ _) (bel_alloc _ _), by rw [hW]; exact (Blk.new w _ _).below (bel_alloc _ _), by rw [hW]; have := Blk.new (w.alloc (.cells (xnL X a1 l1 c1 a2 l2 c2 a3 l3 c3).toArray 143)) (xnL X a1' l1 c1' a2' l2 c2' a3' l3 c3').toArray 143; simpa using this⟩
 clear hz r1 r2 r3 r1' r2' r3'
 go_enter Try.func63, Try.ntmps63
 go_upto_region 1 with fail
 rw [<- hW]
 clear hW
 obtain ⟨⟨y0, y1, y2, y3, y4, y5, y6, y7, y8, y9, y10, y11, y12, y13, y14, y15, y16⟩, yf⟩ := G0.out.2.1.tc17
 obtain ⟨⟨z0, z1, z2, z3, z4, z5, z6, z7, z8, z9, z10, z11, z12, z13, z14, z15, z16⟩, zf⟩ := G0.out.2.2.tc17
 clear yf zf
 go_wp2_with fail
 refine (eqCallS_t X.nq X.qf a1 l1 c1 a1' c1' _ (HR.out.1.below G0.out.1) (HR.out.2.2.2.1.below G0.out.1) HZ.out.1).mono ?_
 rintro e w1 ⟨rfl, hb1⟩
 have G1 : Hid (Below w.heap.size w w1 /\ Blk w1 w.heap.size 143 (xnL X a1 l1 c1 a2 l2 c2 a3 l3 c3).toArray /\ Blk w1 (w.heap.size + 1) 143 (xnL X a1' l1 c1' a2' l2 c2' a3' l3 c3').toArray) := ⟨bel_nx G0.out.1 hb1, G0.out.2.1.below hb1, G0.out.2.2.below hb1⟩
 clear hb1 y0 y1 y2 y3 y4 y5 y6 y7 y8 y9 y10 y11 y12 y13 y14 y15 y16 z0 z1 z2 z3 z4 z5 z6 z7 z8 z9 z10 z11 z12 z13 z14 z15 z16
 obtain ⟨⟨y0, y1, y2, y3, y4, y5, y6, y7, y8, y9, y10, y11, y12, y13, y14, y15, y16⟩, yf⟩ := G1.out.2.1.tc17
 obtain ⟨⟨z0, z1, z2, z3, z4, z5, z6, z7, z8, z9, z10, z11, z12, z13, z14, z15, z16⟩, zf⟩ := G1.out.2.2.tc17
 clear yf zf
 go_wp2_with fail
 refine (eqCall_t X.c a2 l2 c2 a3 l3 c3 a2' c2' a3' c3' _ (HR.out.2.1.below G1.out.1) (HR.out.2.2.1.below G1.out.1) (HR.out.2.2.2.2.1.below G1.out.1) (HR.out.2.2.2.2.2.below G1.out.1) HZ.out.2).mono ?_
 rintro e w2 ⟨rfl, hb2⟩
 have G2 : Hid (Below w.heap.size w w2 /\ Blk w2 w.heap.size 143 (xnL X a1 l1 c1 a2 l2 c2 a3 l3 c3).toArray /\ Blk w2 (w.heap.size + 1) 143 (xnL X a1' l1 c1' a2' l2 c2' a3' l3 c3').toArray) := ⟨bel_nx G1.out.1 hb2, G1.out.2.1.below hb2, G1.out.2.2.below hb2⟩
 clear hb2 y0 y1 y2 y3 y4 y5 y6 y7 y8 y9 y10 y11 y12 y13 y14 y15 y16 z0 z1 z2 z3 z4 z5 z6 z7 z8 z9 z10 z11 z12 z13 z14 z15 z16
 obtain ⟨⟨y0, y1, y2, y3, y4, y5, y6, y7, y8, y9, y10, y11, y12, y13, y14, y15, y16⟩, yf⟩ := G2.out.2.1.tc17
 obtain ⟨⟨z0, z1, z2, z3, z4, z5, z6, z7, z8, z9, z10, z11, z12, z13, z14, z15, z16⟩, zf⟩ := G2.out.2.2.tc17
 clear yf zf
 go_wp2
 go_ret
 exact ⟨rfl, G2.out.1⟩
theorem eqLineS_t (n : Nat) (f : Nat -> VN) (a : Option Addr) (n' cap : Nat) (a' : Option Addr) (cap' : Nat) (w : World) (hs : Rd w 0 (.list 17 n (fun k => trs (xnT (f k)))) (.slice a n' cap)) (hs' : Rd w 0 (.list 17 n (fun k => trs (xnT (f k)))) (.slice a' n' cap')) (hz : (Tr.list 17 n (fun k => trs (xnT (f k)))).sz <= 1048576) :
 Calls Try.prog 40 #[.slice a n' cap, .slice a' n' cap'] w fun e w' => e = .returned (.bool true) /\ Below w.heap.size w w' := by
 obtain ⟨a9, c9, h9, -, hn⟩ := hs.shape
 simp only [Value.slice.injEq] at h9
 obtain ⟨-, rfl, -⟩ := h9
 clear a9 c9 hn
 have hn1 : n' <= 1048576 := by rw [Tr.sz_list] at hz; omega
 have HZ : Hid (∀ k, k < n' -> szT 17 (trs (xnT (f k))) <= 1048576) := by
  show ∀ k, k < n' -> szT 17 (trs (xnT (f k))) <= 1048576
  intro k hk
  rw [Tr.sz_list] at hz
  have := sumN_at (fun k => szT 17 (trs (xnT (f k)))) hk
  omega
 have HS : Hid (Rd w 0 (.list 17 n' (fun k => trs (xnT (f k)))) (.slice a n' cap) /\ Rd w 0 (.list 17 n' (fun k => trs (xnT (f k)))) (.slice a' n' cap')) := ⟨hs, hs'⟩
 clear hs hs' hz
 go_enter Try.func40, Try.ntmps40
 go_wp2
 go_loopw [5] (fun i wr => ∃ z : Nat, z <= n' /\ i = .int .i64 z /\ Below w.heap.size w wr) (fun i _ => n' - (intOf i).toNat)
 case atStart => exact ⟨0, Nat.zero_le _, rfl, Below.refl _ _⟩
 case round =>
  obtain ⟨k, hk, rfl, hbl⟩ := hrel
  by_cases hlt : k < n'
  ·have hi : (k : Int) < (n' : Int) := by omega
   obtain ⟨b, off, vs, rfl, _, hb0, hlen, hr, hrd⟩ := (HS.out.1.below hbl).at hlt
   obtain ⟨a1, c1, a2, c2, a3, c3, rfl, r1, r2, r3⟩ := VN.cells hrd hlen
   clear hlen hrd hb0
   obtain ⟨b', off', vs, rfl, _, hb0, hlen, hr', hrd⟩ := (HS.out.2.below hbl).at hlt
   obtain ⟨a1', c1', a2', c2', a3', c3', rfl, r1', r2', r3'⟩ := VN.cells hrd hlen
   clear hlen hrd hb0
   have d09 : wr.cell? ⟨b, off + k * 17, none⟩ = _ := hr 0 _ rfl
   have e09 : wr.cell? ⟨b', off' + k * 17, none⟩ = _ := hr' 0 _ rfl
   have d19 : wr.cell? ⟨b, off + k * 17 + 1, none⟩ = _ := hr 1 _ rfl
   have e19 : wr.cell? ⟨b', off' + k * 17 + 1, none⟩ = _ := hr' 1 _ rfl
   have d29 : wr.cell? ⟨b, off + k * 17 + 2, none⟩ = _ := hr 2 _ rfl
   have e29 : wr.cell? ⟨b', off' + k * 17 + 2, none⟩ = _ := hr' 2 _ rfl
   have d39 : wr.cell? ⟨b, off + k * 17 + 3, none⟩ = _ := hr 3 _ rfl
   have e39 : wr.cell? ⟨b', off' + k * 17 + 3, none⟩ = _ := hr' 3 _ rfl
   have d49 : wr.cell? ⟨b, off + k * 17 + 4, none⟩ = _ := hr 4 _ rfl
   have e49 : wr.cell? ⟨b', off' + k * 17 + 4, none⟩ = _ := hr' 4 _ rfl
   have d59 : wr.cell? ⟨b, off + k * 17 + 5, none⟩ = _ := hr 5 _ rfl
   have e59 : wr.cell? ⟨b', off' + k * 17 + 5, none⟩ = _ := hr' 5 _ rfl
   have d69 : wr.cell? ⟨b, off + k * 17 + 6, none⟩ = _ := hr 6 _ rfl
   have e69 : wr.cell? ⟨b', off' + k * 17 + 6, none⟩ = _ := hr' 6 _ rfl
   have d79 : wr.cell? ⟨b, off + k * 17 + 7, none⟩ = _ := hr 7 _ rfl
   have e79 : wr.cell? ⟨b', off' + k * 17 + 7, none⟩ = _ := hr' 7 _ rfl
   have d89 : wr.cell? ⟨b, off + k * 17 + 8, none⟩ = _ := hr 8 _ rfl
   have e89 : wr.cell? ⟨b', off' + k * 17 + 8, none⟩ = _ := hr' 8 _ rfl
   have d99 : wr.cell? ⟨b, off + k * 17 + 9, none⟩ = _ := hr 9 _ rfl
   have e99 : wr.cell? ⟨b', off' + k * 17 + 9, none⟩ = _ := hr' 9 _ rfl
   have d109 : wr.cell? ⟨b, off + k * 17 + 10, none⟩ = _ := hr 10 _ rfl
   have e109 : wr.cell? ⟨b', off' + k * 17 + 10, none⟩ = _ := hr' 10 _ rfl
   have d119 : wr.cell? ⟨b, off + k * 17 + 11, none⟩ = _ := hr 11 _ rfl
   have e119 : wr.cell? ⟨b', off' + k * 17 + 11, none⟩ = _ := hr' 11 _ rfl
   have d129 : wr.cell? ⟨b, off + k * 17 + 12, none⟩ = _ := hr 12 _ rfl
   have e129 : wr.cell? ⟨b', off' + k * 17 + 12, none⟩ = _ := hr' 12 _ rfl
   have d139 : wr.cell? ⟨b, off + k * 17 + 13, none⟩ = _ := hr 13 _ rfl
   have e139 : wr.cell? ⟨b', off' + k * 17 + 13, none⟩ = _ := hr' 13 _ rfl
   have d149 : wr.cell? ⟨b, off + k * 17 + 14, none⟩ = _ := hr 14 _ rfl
   have e149 : wr.cell? ⟨b', off' + k * 17 + 14, none⟩ = _ := hr' 14 _ rfl
   have d159 : wr.cell? ⟨b, off + k * 17 + 15, none⟩ = _ := hr 15 _ rfl
   have e159 : wr.cell? ⟨b', off' + k * 17 + 15, none⟩ = _ := hr' 15 _ rfl
   have d169 : wr.cell? ⟨b, off + k * 17 + 16, none⟩ = _ := hr 16 _ rfl
   have e169 : wr.cell? ⟨b', off' + k * 17 + 16, none⟩ = _ := hr' 16 _ rfl
   have HK : Hid (Below w.heap.size w wr /\ szT 17 (trs (xnT (f k))) <= 1048576 /\ Rd wr 0 (.list 9 (f k).nq (fun i => trs (xlT ((f k).qf i)))) (.slice a1 ((f k).nq) c1) /\ Rd wr 0 (intsT (f k).c.q.ws) (.slice a2 ((f k).c.q.ws.length) c2) /\ Rd wr 0 (boolsT (f k).c.q.bs) (.slice a3 ((f k).c.q.bs.length) c3) /\ Rd wr 0 (.list 9 (f k).nq (fun i => trs (xlT ((f k).qf i)))) (.slice a1' ((f k).nq) c1') /\ Rd wr 0 (intsT (f k).c.q.ws) (.slice a2' ((f k).c.q.ws.length) c2') /\ Rd wr 0 (boolsT (f k).c.q.bs) (.slice a3' ((f k).c.q.bs.length) c3')) := ⟨hbl, HZ.out k hlt, r1, r2, r3, r1', r2', r3'⟩
   clear r1 r2 r3 r1' r2' r3' hr hr' hbl
   go_wp2_with fail
   go_region_with (go_at_call 63; refine (eqLine_t (f k) a1 ((f k).nq) c1 a2 ((f k).c.q.ws.length) c2 a3 ((f k).c.q.bs.length) c3 a1' c1' a2' c2' a3' c3' _ (HK.out.2.2.1.below (by first | exact Below.refl _ _ | exact (Below.refl _ _).drew | exact (Below.refl _ _).drew.drew)) (HK.out.2.2.2.1.below (by first | exact Below.refl _ _ | exact (Below.refl _ _).drew | exact (Below.refl _ _).drew.drew)) (HK.out.2.2.2.2.1.below (by first | exact Below.refl _ _ | exact (Below.refl _ _).drew | exact (Below.refl _ _).drew.drew)) (HK.out.2.2.2.2.2.1.below (by first | exact Below.refl _ _ | exact (Below.refl _ _).drew | exact (Below.refl _ _).drew.drew)) (HK.out.2.2.2.2.2.2.1.below (by first | exact Below.refl _ _ | exact (Below.refl _ _).drew | exact (Below.refl _ _).drew.drew)) (HK.out.2.2.2.2.2.2.2.below (by first | exact Below.refl _ _ | exact (Below.refl _ _).drew | exact (Below.refl _ _).drew.drew)) HK.out.2.1).mono ?_; rintro e w1 ⟨rfl, b1'⟩; have b1 : Below wr.heap.size wr w1 := bel_nx (by first | exact Below.refl _ _ | exact (Below.refl _ _).drew | exact (Below.refl _ _).drew.drew) b1'; clear b1')
   all_goals (
    have B1 := bel_nx HK.out.1 b1
    clear HK b1 d09 e09 d19 e19 d29 e29 d39 e39 d49 e49 d59 e59 d69 e69 d79 e79 d89 e89 d99 e99 d109 e109 d119 e119 d129 e129 d139 e139 d149 e149 d159 e159 d169 e169
    go_wp2
    go_roundw
    case rel => exact ⟨k + 1, by omega, by go_num, B1⟩
    case measure => simp [intOf]; omega)
  have hi : ¬ (k : Int) < (n' : Int) := by omega
  go_wp2
  go_ret
  exact ⟨rfl, hbl⟩
theorem eqFabric_t (X : VF) (a1 : Option Addr) (l1 c1 : Nat) (a2 : Option Addr) (l2 c2 : Nat) (a3 : Option Addr) (l3 c3 : Nat) (a1' : Option Addr) (c1' : Nat) (a2' : Option Addr) (c2' : Nat) (a3' : Option Addr) (c3' : Nat) (w : World) (r1 : Rd w 0 (.list 7 X.set.n (fun i => trs (xrT (X.set.f i)))) (.slice a1 l1 c1)) (r2 : Rd w 0 (.list 13 X.op.m (fun i => trs (dT (X.op.f i)))) (.slice a2 l2 c2)) (r3 : Rd w 0 (.list 17 X.nl (fun i => trs (xnT (X.lf i)))) (.slice a3 l3 c3)) (r1' : Rd w 0 (.list 7 X.set.n (fun i => trs (xrT (X.set.f i)))) (.slice a1' l1 c1')) (r2' : Rd w 0 (.list 13 X.op.m (fun i => trs (dT (X.op.f i)))) (.slice a2' l2 c2')) (r3' : Rd w 0 (.list 17 X.nl (fun i => trs (xnT (X.lf i)))) (.slice a3' l3 c3')) (hz : szT 11 (trs (xfT X)) <= 1048576) :
 Calls Try.prog 19 #[.agg (xfL X a1 l1 c1 a2 l2 c2 a3 l3 c3).toArray, .agg (xfL X a1' l1 c1' a2' l2 c2' a3' l3 c3').toArray] w fun e w' => e = .returned (.bool true) /\ Below w.heap.size w w' := by
 obtain ⟨W, hW⟩ : ∃ W, W = (w.alloc (.cells (xfL X a1 l1 c1 a2 l2 c2 a3 l3 c3).toArray 47)).alloc (.cells (xfL X a1' l1 c1' a2' l2 c2' a3' l3 c3').toArray 47) := ⟨_, rfl⟩
 have HZ : Hid (szT 3 (trs (xcT X.set)) <= 1048576 /\ szT 2 (trs (tT X.op)) <= 1048576 /\ (Tr.list 17 X.nl (fun i => trs (xnT (X.lf i)))).sz <= 1048576) := by
  rw [szT_xf] at hz
  show szT 3 (trs (xcT X.set)) <= 1048576 /\ szT 2 (trs (tT X.op)) <= 1048576 /\ (Tr.list 17 X.nl (fun i => trs (xnT (X.lf i)))).sz <= 1048576
  try simp only [szT_q, szT_a, szT_p, szT_d, szT_t, szT_xr, szT_xc, szT_xl, szT_xn, szT_xf, true_and]
  omega
 have HR : Hid (Rd w 0 (.list 7 X.set.n (fun i => trs (xrT (X.set.f i)))) (.slice a1 l1 c1) /\ Rd w 0 (.list 13 X.op.m (fun i => trs (dT (X.op.f i)))) (.slice a2 l2 c2) /\ Rd w 0 (.list 17 X.nl (fun i => trs (xnT (X.lf i)))) (.slice a3 l3 c3) /\ Rd w 0 (.list 7 X.set.n (fun i => trs (xrT (X.set.f i)))) (.slice a1' l1 c1') /\ Rd w 0 (.list 13 X.op.m (fun i => trs (dT (X.op.f i)))) (.slice a2' l2 c2') /\ Rd w 0 (.list 17 X.nl (fun i => trs (xnT (X.lf i)))) (.slice a3' l3 c3')) := ⟨r1, r2, r3, r1', r2', r3'⟩
 have G0 : Hid (Below w.heap.size w W /\ Blk W w.heap.size 47 (xfL X a1 l1 c1 a2 l2 c2 a3 l3 c3).toArray /\ Blk W (w.heap.size + 1) 47 (xfL X a1' l1 c1' a2' l2 c2' a3' l3 c3').toArray) := ⟨by rw [hW]; exact bel_nx (bel_alloc _ _) (bel_alloc _ _), by rw [hW]; exact (Blk.new w _ _).below (bel_alloc _ _), by rw [hW]; have := Blk.new (w.alloc (.cells (xfL X a1 l1 c1 a2 l2 c2 a3 l3 c3).toArray 47)) (xfL X a1' l1 c1' a2' l2 c2' a3' l3 c3').toArray 47; simpa using this⟩
 clear hz r1 r2 r3 r1' r2' r3'
 go_enter Try.func19, Try.ntmps19
 go_upto_region 1 with fail
 rw [<- hW]
 clear hW
 obtain ⟨⟨y0, y1, y2, y3, y4, y5, y6, y7, y8, y9, y10⟩, yf⟩ := G0.out.2.1.tc11
 obtain ⟨⟨z0, z1, z2, z3, z4, z5, z6, z7, z8, z9, z10⟩, zf⟩ := G0.out.2.2.tc11
 clear yf zf
 go_wp2_with fail
 refine (eqConfig_t X.set a1 l1 c1 a1' c1' _ (HR.out.1.below G0.out.1) (HR.out.2.2.2.1.below G0.out.1) HZ.out.1).mono ?_
 rintro e w1 ⟨rfl, hb1⟩
 have G1 : Hid (Below w.heap.size w w1 /\ Blk w1 w.heap.size 47 (xfL X a1 l1 c1 a2 l2 c2 a3 l3 c3).toArray /\ Blk w1 (w.heap.size + 1) 47 (xfL X a1' l1 c1' a2' l2 c2' a3' l3 c3').toArray) := ⟨bel_nx G0.out.1 hb1, G0.out.2.1.below hb1, G0.out.2.2.below hb1⟩
 clear hb1 y0 y1 y2 y3 y4 y5 y6 y7 y8 y9 y10 z0 z1 z2 z3 z4 z5 z6 z7 z8 z9 z10
 obtain ⟨⟨y0, y1, y2, y3, y4, y5, y6, y7, y8, y9, y10⟩, yf⟩ := G1.out.2.1.tc11
 obtain ⟨⟨z0, z1, z2, z3, z4, z5, z6, z7, z8, z9, z10⟩, zf⟩ := G1.out.2.2.tc11
 clear yf zf
 go_wp2_with fail
 refine (eqTable_t X.op a2 l2 c2 a2' c2' _ (HR.out.2.1.below G1.out.1) (HR.out.2.2.2.2.1.below G1.out.1) HZ.out.2.1).mono ?_
 rintro e w2 ⟨rfl, hb2⟩
 have G2 : Hid (Below w.heap.size w w2 /\ Blk w2 w.heap.size 47 (xfL X a1 l1 c1 a2 l2 c2 a3 l3 c3).toArray /\ Blk w2 (w.heap.size + 1) 47 (xfL X a1' l1 c1' a2' l2 c2' a3' l3 c3').toArray) := ⟨bel_nx G1.out.1 hb2, G1.out.2.1.below hb2, G1.out.2.2.below hb2⟩
 clear hb2 y0 y1 y2 y3 y4 y5 y6 y7 y8 y9 y10 z0 z1 z2 z3 z4 z5 z6 z7 z8 z9 z10
 obtain ⟨⟨y0, y1, y2, y3, y4, y5, y6, y7, y8, y9, y10⟩, yf⟩ := G2.out.2.1.tc11
 obtain ⟨⟨z0, z1, z2, z3, z4, z5, z6, z7, z8, z9, z10⟩, zf⟩ := G2.out.2.2.tc11
 clear yf zf
 go_wp2_with fail
 refine (eqLineS_t X.nl X.lf a3 l3 c3 a3' c3' _ (HR.out.2.2.1.below G2.out.1) (HR.out.2.2.2.2.2.below G2.out.1) HZ.out.2.2).mono ?_
 rintro e w3 ⟨rfl, hb3⟩
 have G3 : Hid (Below w.heap.size w w3 /\ Blk w3 w.heap.size 47 (xfL X a1 l1 c1 a2 l2 c2 a3 l3 c3).toArray /\ Blk w3 (w.heap.size + 1) 47 (xfL X a1' l1 c1' a2' l2 c2' a3' l3 c3').toArray) := ⟨bel_nx G2.out.1 hb3, G2.out.2.1.below hb3, G2.out.2.2.below hb3⟩
 clear hb3 y0 y1 y2 y3 y4 y5 y6 y7 y8 y9 y10 z0 z1 z2 z3 z4 z5 z6 z7 z8 z9 z10
 obtain ⟨⟨y0, y1, y2, y3, y4, y5, y6, y7, y8, y9, y10⟩, yf⟩ := G3.out.2.1.tc11
 obtain ⟨⟨z0, z1, z2, z3, z4, z5, z6, z7, z8, z9, z10⟩, zf⟩ := G3.out.2.2.tc11
 clear yf zf
 go_wp2
 go_ret
 exact ⟨rfl, G3.out.1⟩
end Go.Proofs.Ytplaoagcedgdfaa
