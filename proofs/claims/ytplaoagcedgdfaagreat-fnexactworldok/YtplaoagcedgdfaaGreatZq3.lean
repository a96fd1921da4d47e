/- Parts of the proof. -/
import Derived.Test.YtplaoagcedgdfaaGreatZq2
import Derived.Test.YtplaoagcedgdfaaGreatZq1
set_option linter.unusedVariables false
set_option linter.unusedSimpArgs false
set_option maxHeartbeats 4000000
set_option maxRecDepth 20000
namespace Go.Proofs.YtplaoagcedgdfaaGreat
open Go.RowKit Go.Joins Go.Proofs.Tryz
theorem mA (ws : List Int) (a : Option Addr) (l c : Nat) (a' : Option Addr) (c' : Nat) (w : World) (r : Rd w 0 (ah ws) (.slice a l c)) (r' : Rd w 0 (ah ws) (.slice a' l c')) (hz : ws.length <= 1048576) :
 Calls prog 231 #[.slice a l c, .slice a' l c'] w fun e w' => e = .returned (.bool true) /\ Below w.heap.size w w' := by
 obtain ⟨a9, c9, h9, -, hm, hs⟩ := r.ints
 simp only [Value.slice.injEq] at h9
 obtain ⟨rfl, rfl, rfl⟩ := h9
 obtain ⟨a9, c9, h9, -, -, hs'⟩ := r'.ints
 simp only [Value.slice.injEq] at h9
 obtain ⟨rfl, -, rfl⟩ := h9
 exact ic _ _ _ _ _ _ ws w rfl rfl hs hs' (by omega)
theorem iK (ws : List Bool) (a : Option Addr) (l c : Nat) (a' : Option Addr) (c' : Nat) (w : World) (r : Rd w 0 (af ws) (.slice a l c)) (r' : Rd w 0 (af ws) (.slice a' l c')) (hz : ws.length <= 1048576) :
 Calls prog 207 #[.slice a l c, .slice a' l c'] w fun e w' => e = .returned (.bool true) /\ Below w.heap.size w w' := by
 obtain ⟨a9, c9, h9, -, hm, hs⟩ := r.bools
 simp only [Value.slice.injEq] at h9
 obtain ⟨rfl, rfl, rfl⟩ := h9
 obtain ⟨a9, c9, h9, -, -, hs'⟩ := r'.bools
 simp only [Value.slice.injEq] at h9
 obtain ⟨rfl, -, rfl⟩ := h9
 exact gG _ _ _ _ _ _ ws w rfl rfl hs hs' (by omega)
theorem fH (X : VQ) (a1 : Option Addr) (l1 c1 : Nat) (a2 : Option Addr) (l2 c2 : Nat) (a1' : Option Addr) (c1' : Nat) (a2' : Option Addr) (c2' : Nat) (w : World) (r1 : Rd w 0 (ah X.ws) (.slice a1 l1 c1)) (r2 : Rd w 0 (af X.bs) (.slice a2 l2 c2)) (r1' : Rd w 0 (ah X.ws) (.slice a1' l1 c1')) (r2' : Rd w 0 (af X.bs) (.slice a2' l2 c2')) (hz : ao 6 (aa (qT X)) <= 1048576) :
 Calls prog 193 #[.agg (qL X a1 l1 c1 a2 l2 c2).toArray, .agg (qL X a1' l1 c1' a2' l2 c2').toArray] w fun e w' => e = .returned (.bool true) /\ Below w.heap.size w w' := by
 rw [cO] at hz
 obtain ⟨a9, c9, h9, -, hm1, hs1⟩ := r1.ints
 simp only [Value.slice.injEq] at h9
 obtain ⟨rfl, rfl, rfl⟩ := h9
 obtain ⟨a9, c9, h9, -, hm2, hs2⟩ := r2.bools
 simp only [Value.slice.injEq] at h9
 obtain ⟨rfl, rfl, rfl⟩ := h9
 obtain ⟨a9, c9, h9, -, -, hs1'⟩ := r1'.ints
 simp only [Value.slice.injEq] at h9
 obtain ⟨rfl, -, rfl⟩ := h9
 obtain ⟨a9, c9, h9, -, -, hs2'⟩ := r2'.bools
 simp only [Value.slice.injEq] at h9
 obtain ⟨rfl, -, rfl⟩ := h9
 exact nU X.kd X.pl X.n X.wa _ _ _ _ _ _ _ _ _ _ _ _ X.ws X.bs w rfl rfl rfl rfl hs1 hs2 hs1' hs2' (by omega) (by omega)
theorem gO (X : VA) (a1 : Option Addr) (l1 c1 : Nat) (a2 : Option Addr) (l2 c2 : Nat) (a1' : Option Addr) (c1' : Nat) (a2' : Option Addr) (c2' : Nat) (w : World) (r1 : Rd w 0 (ah X.ws) (.slice a1 l1 c1)) (r2 : Rd w 0 (af X.bs) (.slice a2 l2 c2)) (r1' : Rd w 0 (ah X.ws) (.slice a1' l1 c1')) (r2' : Rd w 0 (af X.bs) (.slice a2' l2 c2')) (hz : ao 6 (aa (aT X)) <= 1048576) :
 Calls prog 194 #[.agg (aL X a1 l1 c1 a2 l2 c2).toArray, .agg (aL X a1' l1 c1' a2' l2 c2').toArray] w fun e w' => e = .returned (.bool true) /\ Below w.heap.size w w' := by
 rw [dX] at hz
 obtain ⟨a9, c9, h9, -, hm1, hs1⟩ := r1.ints
 simp only [Value.slice.injEq] at h9
 obtain ⟨rfl, rfl, rfl⟩ := h9
 obtain ⟨a9, c9, h9, -, hm2, hs2⟩ := r2.bools
 simp only [Value.slice.injEq] at h9
 obtain ⟨rfl, rfl, rfl⟩ := h9
 obtain ⟨a9, c9, h9, -, -, hs1'⟩ := r1'.ints
 simp only [Value.slice.injEq] at h9
 obtain ⟨rfl, -, rfl⟩ := h9
 obtain ⟨a9, c9, h9, -, -, hs2'⟩ := r2'.bools
 simp only [Value.slice.injEq] at h9
 obtain ⟨rfl, -, rfl⟩ := h9
 exact mK X.kd X.fl X.pl X.n _ _ _ _ _ _ _ _ _ _ _ _ X.ws X.bs w rfl rfl rfl rfl hs1 hs2 hs1' hs2' (by omega) (by omega)
theorem kS (n : Nat) (f : Nat -> VA) (a : Option Addr) (n' cap : Nat) (a' : Option Addr) (cap' : Nat) (w : World) (hs : Rd w 0 (.list 6 n (fun k => aa (aT (f k)))) (.slice a n' cap)) (hs' : Rd w 0 (.list 6 n (fun k => aa (aT (f k)))) (.slice a' n' cap')) (hz : (Tr.list 6 n (fun k => aa (aT (f k)))).sz <= 1048576) :
 Calls prog 196 #[.slice a n' cap, .slice a' n' cap'] w fun e w' => e = .returned (.bool true) /\ Below w.heap.size w w' := by
 obtain ⟨a9, c9, h9, -, hn⟩ := hs.shape
 simp only [Value.slice.injEq] at h9
 obtain ⟨-, rfl, -⟩ := h9
 clear a9 c9 hn
 have hn1 : n' <= 1048576 := by rw [Tr.sz_list] at hz; omega
 have HZ : Hid (∀ k, k < n' -> ao 6 (aa (aT (f k))) <= 1048576) := by
  show ∀ k, k < n' -> ao 6 (aa (aT (f k))) <= 1048576
  intro k hk
  rw [Tr.sz_list] at hz
  have := cg (fun k => ao 6 (aa (aT (f k)))) hk
  omega
 have HS : Hid (Rd w 0 (.list 6 n' (fun k => aa (aT (f k)))) (.slice a n' cap) /\ Rd w 0 (.list 6 n' (fun k => aa (aT (f k)))) (.slice a' n' cap')) := ⟨hs, hs'⟩
 clear hs hs' hz
 go_enter func196, ntmps196
 go_wp2
 go_loopw [5] (fun i wr => ∃ z : Nat, z <= n' /\ i = .int .i64 z /\ Below w.heap.size w wr) (fun i _ => n' - (intOf i).toNat)
 case atStart => exact ⟨0, Nat.zero_le _, rfl, Below.refl _ _⟩
 case round =>
  obtain ⟨k, hk, rfl, hbl⟩ := hrel
  by_cases hlt : k < n'
  ·have hi : (k : Int) < (n' : Int) := by omega
   obtain ⟨b, off, vs, rfl, _, hb0, hlen, hr, hrd⟩ := (HS.out.1.below hbl).at hlt
   obtain ⟨a1, c1, a2, c2, rfl, r1, r2⟩ := VA.cells hrd hlen
   clear hlen hrd hb0
   obtain ⟨b', off', vs, rfl, _, hb0, hlen, hr', hrd⟩ := (HS.out.2.below hbl).at hlt
   obtain ⟨a1', c1', a2', c2', rfl, r1', r2'⟩ := VA.cells hrd hlen
   clear hlen hrd hb0
   have d09 : wr.cell? ⟨b, off + k * 6, none⟩ = _ := hr 0 _ rfl
   have e09 : wr.cell? ⟨b', off' + k * 6, none⟩ = _ := hr' 0 _ rfl
   have d19 := hr 1 _ rfl
   have e19 := hr' 1 _ rfl
   have d29 := hr 2 _ rfl
   have e29 := hr' 2 _ rfl
   have d39 := hr 3 _ rfl
   have e39 := hr' 3 _ rfl
   have d49 := hr 4 _ rfl
   have e49 := hr' 4 _ rfl
   have d59 := hr 5 _ rfl
   have e59 := hr' 5 _ rfl
   have HK : Hid (Below w.heap.size w wr /\ ao 6 (aa (aT (f k))) <= 1048576 /\ Rd wr 0 (ah (f k).ws) (.slice a1 ((f k).ws.length) c1) /\ Rd wr 0 (af (f k).bs) (.slice a2 ((f k).bs.length) c2) /\ Rd wr 0 (ah (f k).ws) (.slice a1' ((f k).ws.length) c1') /\ Rd wr 0 (af (f k).bs) (.slice a2' ((f k).bs.length) c2')) := ⟨hbl, HZ.out k hlt, r1, r2, r1', r2'⟩
   clear r1 r2 r1' r2' hr hr' hbl
   go_wp2_with fail
   go_region_with (go_at_call 194; refine (gO (f k) a1 ((f k).ws.length) c1 a2 ((f k).bs.length) c2 a1' c1' a2' c2' _ (HK.out.2.2.1.below (by first | exact Below.refl _ _ | exact (Below.refl _ _).drew | exact (Below.refl _ _).drew.drew)) (HK.out.2.2.2.1.below (by first | exact Below.refl _ _ | exact (Below.refl _ _).drew | exact (Below.refl _ _).drew.drew)) (HK.out.2.2.2.2.1.below (by first | exact Below.refl _ _ | exact (Below.refl _ _).drew | exact (Below.refl _ _).drew.drew)) (HK.out.2.2.2.2.2.below (by first | exact Below.refl _ _ | exact (Below.refl _ _).drew | exact (Below.refl _ _).drew.drew)) HK.out.2.1).mono ?_; rintro e w1 ⟨rfl, b1'⟩; have b1 : Below wr.heap.size wr w1 := ae (by first | exact Below.refl _ _ | exact (Below.refl _ _).drew | exact (Below.refl _ _).drew.drew) b1'; clear b1')
   all_goals (
    have B1 := ae HK.out.1 b1
    clear HK b1 d09 e09 d19 e19 d29 e29 d39 e39 d49 e49 d59 e59
    go_wp2
    go_roundw
    case rel => exact ⟨k + 1, by omega, by go_num, B1⟩
    case measure => simp [intOf]; omega)
  have hi : ¬ (k : Int) < (n' : Int) := by omega
  go_wp2
  go_ret
  exact ⟨rfl, hbl⟩
theorem ro (X : VP) (a1 : Option Addr) (l1 c1 : Nat) (a2 : Option Addr) (l2 c2 : Nat) (a1' : Option Addr) (c1' : Nat) (a2' : Option Addr) (c2' : Nat) (w : World) (r1 : Rd w 0 (ah X.q.ws) (.slice a1 l1 c1)) (r2 : Rd w 0 (af X.q.bs) (.slice a2 l2 c2)) (r1' : Rd w 0 (ah X.q.ws) (.slice a1' l1 c1')) (r2' : Rd w 0 (af X.q.bs) (.slice a2' l2 c2')) (hz : ao 8 (aa (pT X)) <= 1048576) :
 Calls prog 232 #[.agg (pL X a1 l1 c1 a2 l2 c2).toArray, .agg (pL X a1' l1 c1' a2' l2 c2').toArray] w fun e w' => e = .returned (.bool true) /\ Below w.heap.size w w' := by
 obtain ⟨W, hW⟩ : ∃ W, W = (w.alloc (.cells (pL X a1 l1 c1 a2 l2 c2).toArray 144)).alloc (.cells (pL X a1' l1 c1' a2' l2 c2').toArray 144) := ⟨_, rfl⟩
 have HZ : Hid (ao 6 (aa (qT X.q)) <= 1048576) := by
  rw [lE] at hz
  show ao 6 (aa (qT X.q)) <= 1048576
  simp only [cO]
  omega
 have HR : Hid (Rd w 0 (ah X.q.ws) (.slice a1 l1 c1) /\ Rd w 0 (af X.q.bs) (.slice a2 l2 c2) /\ Rd w 0 (ah X.q.ws) (.slice a1' l1 c1') /\ Rd w 0 (af X.q.bs) (.slice a2' l2 c2')) := ⟨r1, r2, r1', r2'⟩
 have G0 : Hid (Below w.heap.size w W /\ ag W w.heap.size 144 (pL X a1 l1 c1 a2 l2 c2).toArray /\ ag W (w.heap.size + 1) 144 (pL X a1' l1 c1' a2' l2 c2').toArray) := ⟨by rw [hW]; exact ae (ac _ _) (ac _ _), by rw [hW]; exact (ag.new w _ _).below (ac _ _), by rw [hW]; have := ag.new (w.alloc (.cells (pL X a1 l1 c1 a2 l2 c2).toArray 144)) (pL X a1' l1 c1' a2' l2 c2').toArray 144; simpa using this⟩
 clear hz r1 r2 r1' r2'
 go_enter func232, ntmps232
 go_upto_region 1 with fail
 rw [<- hW]
 clear hW
 obtain ⟨⟨y0, y1, y2, y3, y4, y5, y6, y7⟩, yf⟩ := G0.out.2.1.tc8
 obtain ⟨⟨z0, z1, z2, z3, z4, z5, z6, z7⟩, zf⟩ := G0.out.2.2.tc8
 clear yf zf
 go_wp2_with fail
 refine (fH X.q a1 l1 c1 a2 l2 c2 a1' c1' a2' c2' _ (HR.out.1.below G0.out.1) (HR.out.2.1.below G0.out.1) (HR.out.2.2.1.below G0.out.1) (HR.out.2.2.2.below G0.out.1) HZ.out).mono ?_
 rintro e w1 ⟨rfl, hb1⟩
 have G1 : Hid (Below w.heap.size w w1 /\ ag w1 w.heap.size 144 (pL X a1 l1 c1 a2 l2 c2).toArray /\ ag w1 (w.heap.size + 1) 144 (pL X a1' l1 c1' a2' l2 c2').toArray) := ⟨ae G0.out.1 hb1, G0.out.2.1.below hb1, G0.out.2.2.below hb1⟩
 clear hb1 y0 y1 y2 y3 y4 y5 y6 y7 z0 z1 z2 z3 z4 z5 z6 z7
 go_wp2
 go_ret
 exact ⟨rfl, G1.out.1⟩
theorem kT (n : Nat) (f : Nat -> VP) (a : Option Addr) (n' cap : Nat) (a' : Option Addr) (cap' : Nat) (w : World) (hs : Rd w 0 (.list 8 n (fun k => aa (pT (f k)))) (.slice a n' cap)) (hs' : Rd w 0 (.list 8 n (fun k => aa (pT (f k)))) (.slice a' n' cap')) (hz : (Tr.list 8 n (fun k => aa (pT (f k)))).sz <= 1048576) :
 Calls prog 195 #[.slice a n' cap, .slice a' n' cap'] w fun e w' => e = .returned (.bool true) /\ Below w.heap.size w w' := by
 obtain ⟨a9, c9, h9, -, hn⟩ := hs.shape
 simp only [Value.slice.injEq] at h9
 obtain ⟨-, rfl, -⟩ := h9
 clear a9 c9 hn
 have hn1 : n' <= 1048576 := by rw [Tr.sz_list] at hz; omega
 have HZ : Hid (∀ k, k < n' -> ao 8 (aa (pT (f k))) <= 1048576) := by
  show ∀ k, k < n' -> ao 8 (aa (pT (f k))) <= 1048576
  intro k hk
  rw [Tr.sz_list] at hz
  have := cg (fun k => ao 8 (aa (pT (f k)))) hk
  omega
 have HS : Hid (Rd w 0 (.list 8 n' (fun k => aa (pT (f k)))) (.slice a n' cap) /\ Rd w 0 (.list 8 n' (fun k => aa (pT (f k)))) (.slice a' n' cap')) := ⟨hs, hs'⟩
 clear hs hs' hz
 go_enter func195, ntmps195
 go_wp2
 go_loopw [5] (fun i wr => ∃ z : Nat, z <= n' /\ i = .int .i64 z /\ Below w.heap.size w wr) (fun i _ => n' - (intOf i).toNat)
 case atStart => exact ⟨0, Nat.zero_le _, rfl, Below.refl _ _⟩
 case round =>
  obtain ⟨k, hk, rfl, hbl⟩ := hrel
  by_cases hlt : k < n'
  ·have hi : (k : Int) < (n' : Int) := by omega
   obtain ⟨b, off, vs, rfl, _, hb0, hlen, hr, hrd⟩ := (HS.out.1.below hbl).at hlt
   obtain ⟨a1, c1, a2, c2, rfl, r1, r2⟩ := VP.cells hrd hlen
   clear hlen hrd hb0
   obtain ⟨b', off', vs, rfl, _, hb0, hlen, hr', hrd⟩ := (HS.out.2.below hbl).at hlt
   obtain ⟨a1', c1', a2', c2', rfl, r1', r2'⟩ := VP.cells hrd hlen
   clear hlen hrd hb0
   have d09 : wr.cell? ⟨b, off + k * 8, none⟩ = _ := hr 0 _ rfl
   have e09 : wr.cell? ⟨b', off' + k * 8, none⟩ = _ := hr' 0 _ rfl
   have d19 := hr 1 _ rfl
   have e19 := hr' 1 _ rfl
   have d29 := hr 2 _ rfl
   have e29 := hr' 2 _ rfl
   have d39 := hr 3 _ rfl
   have e39 := hr' 3 _ rfl
   have d49 := hr 4 _ rfl
   have e49 := hr' 4 _ rfl
   have d59 := hr 5 _ rfl
   have e59 := hr' 5 _ rfl
   have d69 := hr 6 _ rfl
   have e69 := hr' 6 _ rfl
   have d79 := hr 7 _ rfl
   have e79 := hr' 7 _ rfl
   have HK : Hid (Below w.heap.size w wr /\ ao 8 (aa (pT (f k))) <= 1048576 /\ Rd wr 0 (ah (f k).q.ws) (.slice a1 ((f k).q.ws.length) c1) /\ Rd wr 0 (af (f k).q.bs) (.slice a2 ((f k).q.bs.length) c2) /\ Rd wr 0 (ah (f k).q.ws) (.slice a1' ((f k).q.ws.length) c1') /\ Rd wr 0 (af (f k).q.bs) (.slice a2' ((f k).q.bs.length) c2')) := ⟨hbl, HZ.out k hlt, r1, r2, r1', r2'⟩
   clear r1 r2 r1' r2' hr hr' hbl
   go_wp2_with fail
   go_region_with (go_at_call 232; refine (ro (f k) a1 ((f k).q.ws.length) c1 a2 ((f k).q.bs.length) c2 a1' c1' a2' c2' _ (HK.out.2.2.1.below (by first | exact Below.refl _ _ | exact (Below.refl _ _).drew | exact (Below.refl _ _).drew.drew)) (HK.out.2.2.2.1.below (by first | exact Below.refl _ _ | exact (Below.refl _ _).drew | exact (Below.refl _ _).drew.drew)) (HK.out.2.2.2.2.1.below (by first | exact Below.refl _ _ | exact (Below.refl _ _).drew | exact (Below.refl _ _).drew.drew)) (HK.out.2.2.2.2.2.below (by first | exact Below.refl _ _ | exact (Below.refl _ _).drew | exact (Below.refl _ _).drew.drew)) HK.out.2.1).mono ?_; rintro e w1 ⟨rfl, b1'⟩; have b1 : Below wr.heap.size wr w1 := ae (by first | exact Below.refl _ _ | exact (Below.refl _ _).drew | exact (Below.refl _ _).drew.drew) b1'; clear b1')
   all_goals (
    have B1 := ae HK.out.1 b1
    clear HK b1 d09 e09 d19 e19 d29 e29 d39 e39 d49 e49 d59 e59 d69 e69 d79 e79
    go_wp2
    go_roundw
    case rel => exact ⟨k + 1, by omega, by go_num, B1⟩
    case measure => simp [intOf]; omega)
  have hi : ¬ (k : Int) < (n' : Int) := by omega
  go_wp2
  go_ret
  exact ⟨rfl, hbl⟩
theorem rr (X : VD) (a1 : Option Addr) (l1 c1 : Nat) (a2 : Option Addr) (l2 c2 : Nat) (a3 : Option Addr) (l3 c3 : Nat) (a4 : Option Addr) (l4 c4 : Nat) (a5 : Option Addr) (l5 c5 : Nat) (a1' : Option Addr) (c1' : Nat) (a2' : Option Addr) (c2' : Nat) (a3' : Option Addr) (c3' : Nat) (a4' : Option Addr) (c4' : Nat) (a5' : Option Addr) (c5' : Nat) (w : World) (r1 : Rd w 0 (ah X.q.ws) (.slice a1 l1 c1)) (r2 : Rd w 0 (af X.q.bs) (.slice a2 l2 c2)) (r3 : Rd w 0 (.list 8 X.np (fun i => aa (pT (X.pt i)))) (.slice a3 l3 c3)) (r4 : Rd w 0 (af X.hs) (.slice a4 l4 c4)) (r5 : Rd w 0 (.list 6 X.nt (fun i => aa (aT (X.tl i)))) (.slice a5 l5 c5)) (r1' : Rd w 0 (ah X.q.ws) (.slice a1' l1 c1')) (r2' : Rd w 0 (af X.q.bs) (.slice a2' l2 c2')) (r3' : Rd w 0 (.list 8 X.np (fun i => aa (pT (X.pt i)))) (.slice a3' l3 c3')) (r4' : Rd w 0 (af X.hs) (.slice a4' l4 c4')) (r5' : Rd w 0 (.list 6 X.nt (fun i => aa (aT (X.tl i)))) (.slice a5' l5 c5')) (hz : ao 13 (aa (dT X)) <= 1048576) :
 Calls prog 149 #[.agg (dL X a1 l1 c1 a2 l2 c2 a3 l3 c3 a4 l4 c4 a5 l5 c5).toArray, .agg (dL X a1' l1 c1' a2' l2 c2' a3' l3 c3' a4' l4 c4' a5' l5 c5').toArray] w fun e w' => e = .returned (.bool true) /\ Below w.heap.size w w' := by
 obtain ⟨W, hW⟩ : ∃ W, W = (w.alloc (.cells (dL X a1 l1 c1 a2 l2 c2 a3 l3 c3 a4 l4 c4 a5 l5 c5).toArray 141)).alloc (.cells (dL X a1' l1 c1' a2' l2 c2' a3' l3 c3' a4' l4 c4' a5' l5 c5').toArray 141) := ⟨_, rfl⟩
 have HZ : Hid (ao 6 (aa (qT X.q)) <= 1048576 /\ (Tr.list 8 X.np (fun i => aa (pT (X.pt i)))).sz <= 1048576 /\ X.hs.length <= 1048576 /\ (Tr.list 6 X.nt (fun i => aa (aT (X.tl i)))).sz <= 1048576) := by
  rw [lF] at hz
  show ao 6 (aa (qT X.q)) <= 1048576 /\ (Tr.list 8 X.np (fun i => aa (pT (X.pt i)))).sz <= 1048576 /\ X.hs.length <= 1048576 /\ (Tr.list 6 X.nt (fun i => aa (aT (X.tl i)))).sz <= 1048576
  simp only [cO]
  omega
 have HR : Hid (Rd w 0 (ah X.q.ws) (.slice a1 l1 c1) /\ Rd w 0 (af X.q.bs) (.slice a2 l2 c2) /\ Rd w 0 (.list 8 X.np (fun i => aa (pT (X.pt i)))) (.slice a3 l3 c3) /\ Rd w 0 (af X.hs) (.slice a4 l4 c4) /\ Rd w 0 (.list 6 X.nt (fun i => aa (aT (X.tl i)))) (.slice a5 l5 c5) /\ Rd w 0 (ah X.q.ws) (.slice a1' l1 c1') /\ Rd w 0 (af X.q.bs) (.slice a2' l2 c2') /\ Rd w 0 (.list 8 X.np (fun i => aa (pT (X.pt i)))) (.slice a3' l3 c3') /\ Rd w 0 (af X.hs) (.slice a4' l4 c4') /\ Rd w 0 (.list 6 X.nt (fun i => aa (aT (X.tl i)))) (.slice a5' l5 c5')) := ⟨r1, r2, r3, r4, r5, r1', r2', r3', r4', r5'⟩
 have G0 : Hid (Below w.heap.size w W /\ ag W w.heap.size 141 (dL X a1 l1 c1 a2 l2 c2 a3 l3 c3 a4 l4 c4 a5 l5 c5).toArray /\ ag W (w.heap.size + 1) 141 (dL X a1' l1 c1' a2' l2 c2' a3' l3 c3' a4' l4 c4' a5' l5 c5').toArray) := ⟨by rw [hW]; exact ae (ac _ _) (ac _ _), by rw [hW]; exact (ag.new w _ _).below (ac _ _), by rw [hW]; have := ag.new (w.alloc (.cells (dL X a1 l1 c1 a2 l2 c2 a3 l3 c3 a4 l4 c4 a5 l5 c5).toArray 141)) (dL X a1' l1 c1' a2' l2 c2' a3' l3 c3' a4' l4 c4' a5' l5 c5').toArray 141; simpa using this⟩
 clear hz r1 r2 r3 r4 r5 r1' r2' r3' r4' r5'
 go_enter func149, ntmps149
 go_upto_region 1 with fail
 rw [<- hW]
 clear hW
 obtain ⟨⟨y0, y1, y2, y3, y4, y5, y6, y7, y8, y9, y10, y11, y12⟩, yf⟩ := G0.out.2.1.tc13
 obtain ⟨⟨z0, z1, z2, z3, z4, z5, z6, z7, z8, z9, aR, aV, z12⟩, zf⟩ := G0.out.2.2.tc13
 clear yf zf
 go_wp2_with fail
 refine (fH X.q a1 l1 c1 a2 l2 c2 a1' c1' a2' c2' _ (HR.out.1.below G0.out.1) (HR.out.2.1.below G0.out.1) (HR.out.2.2.2.2.2.1.below G0.out.1) (HR.out.2.2.2.2.2.2.1.below G0.out.1) HZ.out.1).mono ?_
 rintro e w1 ⟨rfl, hb1⟩
 have G1 : Hid (Below w.heap.size w w1 /\ ag w1 w.heap.size 141 (dL X a1 l1 c1 a2 l2 c2 a3 l3 c3 a4 l4 c4 a5 l5 c5).toArray /\ ag w1 (w.heap.size + 1) 141 (dL X a1' l1 c1' a2' l2 c2' a3' l3 c3' a4' l4 c4' a5' l5 c5').toArray) := ⟨ae G0.out.1 hb1, G0.out.2.1.below hb1, G0.out.2.2.below hb1⟩
 clear hb1 y0 y1 y2 y3 y4 y5 y6 y7 y8 y9 y10 y11 y12 z0 z1 z2 z3 z4 z5 z6 z7 z8 z9 aR aV z12
 obtain ⟨⟨y0, y1, y2, y3, y4, y5, y6, y7, y8, y9, y10, y11, y12⟩, yf⟩ := G1.out.2.1.tc13
 obtain ⟨⟨z0, z1, z2, z3, z4, z5, z6, z7, z8, z9, aR, aV, z12⟩, zf⟩ := G1.out.2.2.tc13
 clear yf zf
 go_wp2_with fail
 refine (kT X.np X.pt a3 l3 c3 a3' c3' _ (HR.out.2.2.1.below G1.out.1) (HR.out.2.2.2.2.2.2.2.1.below G1.out.1) HZ.out.2.1).mono ?_
 rintro e w2 ⟨rfl, hb2⟩
 have G2 : Hid (Below w.heap.size w w2 /\ ag w2 w.heap.size 141 (dL X a1 l1 c1 a2 l2 c2 a3 l3 c3 a4 l4 c4 a5 l5 c5).toArray /\ ag w2 (w.heap.size + 1) 141 (dL X a1' l1 c1' a2' l2 c2' a3' l3 c3' a4' l4 c4' a5' l5 c5').toArray) := ⟨ae G1.out.1 hb2, G1.out.2.1.below hb2, G1.out.2.2.below hb2⟩
 clear hb2 y0 y1 y2 y3 y4 y5 y6 y7 y8 y9 y10 y11 y12 z0 z1 z2 z3 z4 z5 z6 z7 z8 z9 aR aV z12
 obtain ⟨⟨y0, y1, y2, y3, y4, y5, y6, y7, y8, y9, y10, y11, y12⟩, yf⟩ := G2.out.2.1.tc13
 obtain ⟨⟨z0, z1, z2, z3, z4, z5, z6, z7, z8, z9, aR, aV, z12⟩, zf⟩ := G2.out.2.2.tc13
 clear yf zf
 go_wp2_with fail
 refine (iK X.hs a4 l4 c4 a4' c4' _ (HR.out.2.2.2.1.below G2.out.1) (HR.out.2.2.2.2.2.2.2.2.1.below G2.out.1) HZ.out.2.2.1).mono ?_
 rintro e w3 ⟨rfl, hb3⟩
 have G3 : Hid (Below w.heap.size w w3 /\ ag w3 w.heap.size 141 (dL X a1 l1 c1 a2 l2 c2 a3 l3 c3 a4 l4 c4 a5 l5 c5).toArray /\ ag w3 (w.heap.size + 1) 141 (dL X a1' l1 c1' a2' l2 c2' a3' l3 c3' a4' l4 c4' a5' l5 c5').toArray) := ⟨ae G2.out.1 hb3, G2.out.2.1.below hb3, G2.out.2.2.below hb3⟩
 clear hb3 y0 y1 y2 y3 y4 y5 y6 y7 y8 y9 y10 y11 y12 z0 z1 z2 z3 z4 z5 z6 z7 z8 z9 aR aV z12
 obtain ⟨⟨y0, y1, y2, y3, y4, y5, y6, y7, y8, y9, y10, y11, y12⟩, yf⟩ := G3.out.2.1.tc13
 obtain ⟨⟨z0, z1, z2, z3, z4, z5, z6, z7, z8, z9, aR, aV, z12⟩, zf⟩ := G3.out.2.2.tc13
 clear yf zf
 go_wp2_with fail
 refine (kS X.nt X.tl a5 l5 c5 a5' c5' _ (HR.out.2.2.2.2.1.below G3.out.1) (HR.out.2.2.2.2.2.2.2.2.2.below G3.out.1) HZ.out.2.2.2).mono ?_
 rintro e w4 ⟨rfl, hb4⟩
 have G4 : Hid (Below w.heap.size w w4 /\ ag w4 w.heap.size 141 (dL X a1 l1 c1 a2 l2 c2 a3 l3 c3 a4 l4 c4 a5 l5 c5).toArray /\ ag w4 (w.heap.size + 1) 141 (dL X a1' l1 c1' a2' l2 c2' a3' l3 c3' a4' l4 c4' a5' l5 c5').toArray) := ⟨ae G3.out.1 hb4, G3.out.2.1.below hb4, G3.out.2.2.below hb4⟩
 clear hb4 y0 y1 y2 y3 y4 y5 y6 y7 y8 y9 y10 y11 y12 z0 z1 z2 z3 z4 z5 z6 z7 z8 z9 aR aV z12
 go_wp2
 go_ret
 exact ⟨rfl, G4.out.1⟩
theorem qc (n : Nat) (f : Nat -> VD) (a : Option Addr) (n' cap : Nat) (a' : Option Addr) (cap' : Nat) (w : World) (hs : Rd w 0 (.list 13 n (fun k => aa (dT (f k)))) (.slice a n' cap)) (hs' : Rd w 0 (.list 13 n (fun k => aa (dT (f k)))) (.slice a' n' cap')) (hz : (Tr.list 13 n (fun k => aa (dT (f k)))).sz <= 1048576) :
 Calls prog 92 #[.slice a n' cap, .slice a' n' cap'] w fun e w' => e = .returned (.bool true) /\ Below w.heap.size w w' := by
 obtain ⟨a9, c9, h9, -, hn⟩ := hs.shape
 simp only [Value.slice.injEq] at h9
 obtain ⟨-, rfl, -⟩ := h9
 clear a9 c9 hn
 have hn1 : n' <= 1048576 := by rw [Tr.sz_list] at hz; omega
 have HZ : Hid (∀ k, k < n' -> ao 13 (aa (dT (f k))) <= 1048576) := by
  show ∀ k, k < n' -> ao 13 (aa (dT (f k))) <= 1048576
  intro k hk
  rw [Tr.sz_list] at hz
  have := cg (fun k => ao 13 (aa (dT (f k)))) hk
  omega
 have HS : Hid (Rd w 0 (.list 13 n' (fun k => aa (dT (f k)))) (.slice a n' cap) /\ Rd w 0 (.list 13 n' (fun k => aa (dT (f k)))) (.slice a' n' cap')) := ⟨hs, hs'⟩
 clear hs hs' hz
 go_enter func92, ntmps92
 go_wp2
 go_loopw [5] (fun i wr => ∃ z : Nat, z <= n' /\ i = .int .i64 z /\ Below w.heap.size w wr) (fun i _ => n' - (intOf i).toNat)
 case atStart => exact ⟨0, Nat.zero_le _, rfl, Below.refl _ _⟩
 case round =>
  obtain ⟨k, hk, rfl, hbl⟩ := hrel
  by_cases hlt : k < n'
  ·have hi : (k : Int) < (n' : Int) := by omega
   obtain ⟨b, off, vs, rfl, _, hb0, hlen, hr, hrd⟩ := (HS.out.1.below hbl).at hlt
   obtain ⟨a1, c1, a2, c2, a3, c3, a4, c4, a5, c5, rfl, r1, r2, r3, r4, r5⟩ := VD.cells hrd hlen
   clear hlen hrd hb0
   obtain ⟨b', off', vs, rfl, _, hb0, hlen, hr', hrd⟩ := (HS.out.2.below hbl).at hlt
   obtain ⟨a1', c1', a2', c2', a3', c3', a4', c4', a5', c5', rfl, r1', r2', r3', r4', r5'⟩ := VD.cells hrd hlen
   clear hlen hrd hb0
   have d09 : wr.cell? ⟨b, off + k * 13, none⟩ = _ := hr 0 _ rfl
   have e09 : wr.cell? ⟨b', off' + k * 13, none⟩ = _ := hr' 0 _ rfl
   have d19 := hr 1 _ rfl
   have e19 := hr' 1 _ rfl
   have d29 := hr 2 _ rfl
   have e29 := hr' 2 _ rfl
   have d39 := hr 3 _ rfl
   have e39 := hr' 3 _ rfl
   have d49 := hr 4 _ rfl
   have e49 := hr' 4 _ rfl
   have d59 := hr 5 _ rfl
   have e59 := hr' 5 _ rfl
   have d69 := hr 6 _ rfl
   have e69 := hr' 6 _ rfl
   have d79 := hr 7 _ rfl
   have e79 := hr' 7 _ rfl
   have d89 := hr 8 _ rfl
   have e89 := hr' 8 _ rfl
   have d99 := hr 9 _ rfl
   have e99 := hr' 9 _ rfl
   have d109 := hr 10 _ rfl
   have e109 := hr' 10 _ rfl
   have d119 := hr 11 _ rfl
   have e119 := hr' 11 _ rfl
   have d129 := hr 12 _ rfl
   have e129 := hr' 12 _ rfl
   have HK : Hid (Below w.heap.size w wr /\ ao 13 (aa (dT (f k))) <= 1048576 /\ Rd wr 0 (ah (f k).q.ws) (.slice a1 ((f k).q.ws.length) c1) /\ Rd wr 0 (af (f k).q.bs) (.slice a2 ((f k).q.bs.length) c2) /\ Rd wr 0 (.list 8 (f k).np (fun i => aa (pT ((f k).pt i)))) (.slice a3 ((f k).np) c3) /\ Rd wr 0 (af (f k).hs) (.slice a4 ((f k).hs.length) c4) /\ Rd wr 0 (.list 6 (f k).nt (fun i => aa (aT ((f k).tl i)))) (.slice a5 ((f k).nt) c5) /\ Rd wr 0 (ah (f k).q.ws) (.slice a1' ((f k).q.ws.length) c1') /\ Rd wr 0 (af (f k).q.bs) (.slice a2' ((f k).q.bs.length) c2') /\ Rd wr 0 (.list 8 (f k).np (fun i => aa (pT ((f k).pt i)))) (.slice a3' ((f k).np) c3') /\ Rd wr 0 (af (f k).hs) (.slice a4' ((f k).hs.length) c4') /\ Rd wr 0 (.list 6 (f k).nt (fun i => aa (aT ((f k).tl i)))) (.slice a5' ((f k).nt) c5')) := ⟨hbl, HZ.out k hlt, r1, r2, r3, r4, r5, r1', r2', r3', r4', r5'⟩
   clear r1 r2 r3 r4 r5 r1' r2' r3' r4' r5' hr hr' hbl
   go_wp2_with fail
   go_region_with (go_at_call 149; refine (rr (f k) a1 ((f k).q.ws.length) c1 a2 ((f k).q.bs.length) c2 a3 ((f k).np) c3 a4 ((f k).hs.length) c4 a5 ((f k).nt) c5 a1' c1' a2' c2' a3' c3' a4' c4' a5' c5' _ (HK.out.2.2.1.below (by first | exact Below.refl _ _ | exact (Below.refl _ _).drew | exact (Below.refl _ _).drew.drew)) (HK.out.2.2.2.1.below (by first | exact Below.refl _ _ | exact (Below.refl _ _).drew | exact (Below.refl _ _).drew.drew)) (HK.out.2.2.2.2.1.below (by first | exact Below.refl _ _ | exact (Below.refl _ _).drew | exact (Below.refl _ _).drew.drew)) (HK.out.2.2.2.2.2.1.below (by first | exact Below.refl _ _ | exact (Below.refl _ _).drew | exact (Below.refl _ _).drew.drew)) (HK.out.2.2.2.2.2.2.1.below (by first | exact Below.refl _ _ | exact (Below.refl _ _).drew | exact (Below.refl _ _).drew.drew)) (HK.out.2.2.2.2.2.2.2.1.below (by first | exact Below.refl _ _ | exact (Below.refl _ _).drew | exact (Below.refl _ _).drew.drew)) (HK.out.2.2.2.2.2.2.2.2.1.below (by first | exact Below.refl _ _ | exact (Below.refl _ _).drew | exact (Below.refl _ _).drew.drew)) (HK.out.2.2.2.2.2.2.2.2.2.1.below (by first | exact Below.refl _ _ | exact (Below.refl _ _).drew | exact (Below.refl _ _).drew.drew)) (HK.out.2.2.2.2.2.2.2.2.2.2.1.below (by first | exact Below.refl _ _ | exact (Below.refl _ _).drew | exact (Below.refl _ _).drew.drew)) (HK.out.2.2.2.2.2.2.2.2.2.2.2.below (by first | exact Below.refl _ _ | exact (Below.refl _ _).drew | exact (Below.refl _ _).drew.drew)) HK.out.2.1).mono ?_; rintro e w1 ⟨rfl, b1'⟩; have b1 : Below wr.heap.size wr w1 := ae (by first | exact Below.refl _ _ | exact (Below.refl _ _).drew | exact (Below.refl _ _).drew.drew) b1'; clear b1')
   all_goals (
    have B1 := ae HK.out.1 b1
    clear HK b1 d09 e09 d19 e19 d29 e29 d39 e39 d49 e49 d59 e59 d69 e69 d79 e79 d89 e89 d99 e99 d109 e109 d119 e119 d129 e129
    go_wp2
    go_roundw
    case rel => exact ⟨k + 1, by omega, by go_num, B1⟩
    case measure => simp [intOf]; omega)
  have hi : ¬ (k : Int) < (n' : Int) := by omega
  go_wp2
  go_ret
  exact ⟨rfl, hbl⟩
theorem qd (X : VT) (a1 : Option Addr) (l1 c1 : Nat) (a1' : Option Addr) (c1' : Nat) (w : World) (r1 : Rd w 0 (.list 13 X.m (fun i => aa (dT (X.f i)))) (.slice a1 l1 c1)) (r1' : Rd w 0 (.list 13 X.m (fun i => aa (dT (X.f i)))) (.slice a1' l1 c1')) (hz : ao 2 (aa (tT X)) <= 1048576) :
 Calls prog 46 #[.agg (tL X a1 l1 c1).toArray, .agg (tL X a1' l1 c1').toArray] w fun e w' => e = .returned (.bool true) /\ Below w.heap.size w w' := by
 obtain ⟨W, hW⟩ : ∃ W, W = (w.alloc (.cells (tL X a1 l1 c1).toArray 38)).alloc (.cells (tL X a1' l1 c1').toArray 38) := ⟨_, rfl⟩
 have HZ : Hid ((Tr.list 13 X.m (fun i => aa (dT (X.f i)))).sz <= 1048576) := by
  rw [fR] at hz
  show (Tr.list 13 X.m (fun i => aa (dT (X.f i)))).sz <= 1048576
  omega
 have HR : Hid (Rd w 0 (.list 13 X.m (fun i => aa (dT (X.f i)))) (.slice a1 l1 c1) /\ Rd w 0 (.list 13 X.m (fun i => aa (dT (X.f i)))) (.slice a1' l1 c1')) := ⟨r1, r1'⟩
 have G0 : Hid (Below w.heap.size w W /\ ag W w.heap.size 38 (tL X a1 l1 c1).toArray /\ ag W (w.heap.size + 1) 38 (tL X a1' l1 c1').toArray) := ⟨by rw [hW]; exact ae (ac _ _) (ac _ _), by rw [hW]; exact (ag.new w _ _).below (ac _ _), by rw [hW]; have := ag.new (w.alloc (.cells (tL X a1 l1 c1).toArray 38)) (tL X a1' l1 c1').toArray 38; simpa using this⟩
 clear hz r1 r1'
 go_enter func46, ntmps46
 go_upto_region 1 with fail
 rw [<- hW]
 clear hW
 obtain ⟨⟨y0, y1⟩, yf⟩ := G0.out.2.1.tc2
 obtain ⟨⟨z0, z1⟩, zf⟩ := G0.out.2.2.tc2
 clear yf zf
 go_wp2_with fail
 refine (qc X.m X.f a1 l1 c1 a1' c1' _ (HR.out.1.below G0.out.1) (HR.out.2.below G0.out.1) HZ.out).mono ?_
 rintro e w1 ⟨rfl, hb1⟩
 have G1 : Hid (Below w.heap.size w w1 /\ ag w1 w.heap.size 38 (tL X a1 l1 c1).toArray /\ ag w1 (w.heap.size + 1) 38 (tL X a1' l1 c1').toArray) := ⟨ae G0.out.1 hb1, G0.out.2.1.below hb1, G0.out.2.2.below hb1⟩
 clear hb1 y0 y1 z0 z1
 go_wp2
 go_ret
 exact ⟨rfl, G1.out.1⟩
inductive Sk where
 | leaf
 | row (g off s n : Nat) (K : Nat -> Nat -> Sk)
def Sk.bl : Sk -> Nat -> Prop
 | .leaf, _ => False
 | .row g _ s n K, b => b = g \/ ∃ k j, k < n /\ j < s /\ (K k j).bl b
def Sk.ok : Sk -> Prop
 | .leaf => True
 | .row g _ s n K => (∀ k j, k < n -> j < s -> (K k j).ok /\ ¬ (K k j).bl g) /\ ∀ k j k' j', k < n -> j < s -> k' < n -> j' < s -> (k ≠ k' \/ j ≠ j') -> ∀ b, (K k j).bl b -> ¬ (K k' j').bl b
def rM (w : World) : Tr -> Sk -> Value -> Prop
 | .leaf u, K, v => K = .leaf /\ v = u
 | .list s n f, .leaf, v => n = 0 /\ ∃ a c, v = .slice a 0 c
 | .list s n f, .row g off s' n' K, v => s' = s /\ n' = n /\ ∃ c, v = .slice (some ⟨g, off, none⟩) n c /\ n <= c /\ n <= maxLen /\ g < w.heap.size /\ (∀ j, w.frozen? ⟨g, j, none⟩ = false) /\
  ∀ k j, k < n -> j < s -> ∃ u, w.cell? ⟨g, off + k * s + j, none⟩ = some u /\ rM w (f k j) (K k j) u
structure Cg (w w' : World) (S : Nat -> Prop) : Prop where
 os : w'.os = w.os
 tape : w'.tape = w.tape
 output : w'.output = w.output
 size : w.heap.size <= w'.heap.size
 block : ∀ g, g < w.heap.size -> ¬ S g -> w'.heap[g]? = w.heap[g]?
def atZ (z : Nat) (L : List Tr) (T0 : Nat -> Nat -> Tr) : Nat -> Nat -> Tr := fun i => if i = z then aa L else T0 i
def mB (X : VQ) : Nat := 1 + 1 + 1 + X.ws.length + X.bs.length + 1
def uO (k : Nat) (X : VQ) : VQ := ⟨((k : Nat) : Int), ((k + 1 : Nat) : Int), ((k + 1 + 1 : Nat) : Int), oZ (k + 1 + 1 + 1) X.ws.length, lI (k + 1 + 1 + 1 + X.ws.length) X.bs.length, ((k + 1 + 1 + 1 + X.ws.length + X.bs.length : Nat) : Int)⟩
def uP (X : VA) : Nat := 1 + 1 + 1 + 1 + X.ws.length + X.bs.length
def vN (k : Nat) (X : VA) : VA := ⟨((k : Nat) : Int), ((k + 1 : Nat) : Int), ((k + 1 + 1 : Nat) : Int), ((k + 1 + 1 + 1 : Nat) : Int), oZ (k + 1 + 1 + 1 + 1) X.ws.length, lI (k + 1 + 1 + 1 + 1 + X.ws.length) X.bs.length⟩
def oN (X : VP) : Nat := 1 + 1 + mB X.q
def vO (k : Nat) (X : VP) : VP := ⟨((k : Nat) : Int), ((k + 1 : Nat) : Int), uO (k + 1 + 1) X.q⟩
def uQ (X : VD) : Nat := 1 + 1 + 1 + 1 + mB X.q + aF X.np (fun i => oN (X.pt i)) + X.hs.length + aF X.nt (fun i => uP (X.tl i))
def vP (k : Nat) (X : VD) : VD := ⟨((k : Nat) : Int), ((k + 1 : Nat) : Int), ((k + 1 + 1 : Nat) : Int), ((k + 1 + 1 + 1 : Nat) : Int), uO (k + 1 + 1 + 1 + 1) X.q, X.np, fun i => vO (k + 1 + 1 + 1 + 1 + mB X.q + aF i (fun i => oN (X.pt i))) (X.pt i), lI (k + 1 + 1 + 1 + 1 + mB X.q + aF X.np (fun i => oN (X.pt i))) X.hs.length, X.nt, fun i => vN (k + 1 + 1 + 1 + 1 + mB X.q + aF X.np (fun i => oN (X.pt i)) + X.hs.length + aF i (fun i => uP (X.tl i))) (X.tl i)⟩
def ctVT (X : VT) : Nat := 1 + aF X.m (fun i => uQ (X.f i))
def nmVT (k : Nat) (X : VT) : VT := ⟨((k : Nat) : Int), X.m, fun i => vP (k + 1 + aF i (fun i => uQ (X.f i))) (X.f i)⟩
def OwnS (w : World) (lo : Nat) (t : Tr) (v : Value) : Prop := ∃ K, rM w t K v /\ K.ok /\ ∀ b, K.bl b -> lo <= b
def vQ (w : World) (lo hi : Nat) (ts : List Tr) (vs : List Value) : Prop :=
 ∃ K : Nat -> Sk, vs.length = ts.length /\ (∀ i v, vs[i]? = some v -> rM w (aa ts i) (K i) v) /\ (∀ i, i < ts.length -> (K i).ok /\ ∀ b, (K i).bl b -> lo <= b /\ b < hi) /\ ∀ i i', i < ts.length -> i' < ts.length -> i ≠ i' -> ∀ b, (K i).bl b -> ¬ (K i').bl b
def LsI (w : World) (g : Nat) (t : TypeId) (s n : Nat) (f : Nat -> List Tr) (k : Nat) : Prop :=
 ∃ (F : Nat -> List Value) (β : Nat -> Nat), aG w g t s n F /\ g < β 0 /\ (∀ j, β j <= β (j + 1)) /\ β k <= w.heap.size /\ ∀ j, j < k -> (F j).length = s /\ vQ w (β j) (β (j + 1)) (f j) (F j)
instance inhRuX : Inhabited Ru := ⟨⟨0, 0, 0, 0, 0, 0, 0⟩⟩
def bi (X : Ru) : List Tr := [.leaf (.int .i64 X.u), .leaf (.int .i64 X.s), .leaf (.int .i64 X.lo), .leaf (.int .i64 X.hi), .leaf (.int .i64 X.p), .leaf (.int .i64 X.t), .leaf (.int .i64 X.sh)]
theorem Ru.cells {w : World} {lo : Nat} {X : Ru} {vs : List Value} (h : ay w lo (aa (bi X)) vs) (hl : vs.length = 7) : vs = cT X := by
 match vs, hl with
 | [v0, v1, v2, v3, v4, v5, v6], _ =>
  have e0 : v0 = .int .i64 X.u := ay.get h (j := 0) rfl rfl
  have e1 : v1 = .int .i64 X.s := ay.get h (j := 1) rfl rfl
  have e2 : v2 = .int .i64 X.lo := ay.get h (j := 2) rfl rfl
  have e3 : v3 = .int .i64 X.hi := ay.get h (j := 3) rfl rfl
  have e4 : v4 = .int .i64 X.p := ay.get h (j := 4) rfl rfl
  have e5 : v5 = .int .i64 X.t := ay.get h (j := 5) rfl rfl
  have e6 : v6 = .int .i64 X.sh := ay.get h (j := 6) rfl rfl
  subst e0 e1 e2 e3 e4 e5 e6
  rfl
theorem uR (X : Ru) : ao 7 (aa (bi X)) = 0 := by
 simp [ao, aF, aa, bi, Tr.sz_leaf]
theorem vR (n : Nat) (g : Nat -> Nat) (h : ∀ k, g k = 0) : aF n g = 0 := by
 induction n with
 | zero => rfl
 | succ n ih => simp only [aF, ih, h]
theorem Rd.slu {w : World} {lo n m c : Nat} {f : Nat -> Ru} {a : Option Addr} (h : Rd w lo (.list 7 n (fun i => aa (bi (f i)))) (.slice a m c)) : m = n /\ dQ w a n f := by
 obtain ⟨a', c', h1, h2, h3, h4⟩ := h
 simp only [Value.slice.injEq] at h1
 obtain ⟨rfl, rfl, rfl⟩ := h1
 refine ⟨rfl, ?_⟩
 rcases h4 with h4 | ⟨g, off, F, ha, hlo, hgs, hc⟩
 ·exact .inl h4
 refine .inr ⟨g, off, ha, hgs, fun k hk j hj => ?_⟩
 obtain ⟨q1, q2⟩ := hc k hk
 have e : F k = cT (f k) := Ru.cells (w := w) (lo := lo) (fun j v hv => (q2 j v hv).2) q1
 obtain ⟨v, hv⟩ : ∃ v, (F k)[j]? = some v := ⟨(F k)[j]'(by omega), by simp⟩
 show _ = (cT (f k))[j]?
 rw [(q2 j v hv).1, <- e, hv]
structure VC where
 wt : Int
 tr : Int
 n : Nat
 f : Nat -> Ru
instance : Inhabited VC := ⟨⟨0, 0, 0, fun _ => default⟩⟩
def eW (X : VC) : List Tr := [.leaf (.int .i64 X.wt), .leaf (.int .i64 X.tr), .list 7 X.n (fun i => aa (bi (X.f i)))]
abbrev dR (X : VC) (a1 : Option Addr) (l1 c1 : Nat) : List Value := [.int .i64 X.wt, .int .i64 X.tr, .slice a1 l1 c1]
theorem gE (X : VC) : ao 3 (aa (eW X)) = (Tr.list 7 X.n (fun i => aa (bi (X.f i)))).sz := by
 simp [ao, aF, aa, eW, Tr.sz_leaf, cw, bZ]
structure VL where
 id : Int
 pa : Int
 un : Int
 q : VQ
instance : Inhabited VL := ⟨⟨0, 0, 0, default⟩⟩
def aO (X : VL) : List Tr := [.leaf (.int .i64 X.id), .leaf (.int .i64 X.pa), .leaf (.int .i64 X.un), .leaf (.int .i64 X.q.kd), .leaf (.int .i64 X.q.pl), .leaf (.int .i64 X.q.n), ah X.q.ws, af X.q.bs, .leaf (.int .i64 X.q.wa)]
abbrev bK (X : VL) (a1 : Option Addr) (l1 c1 : Nat) (a2 : Option Addr) (l2 c2 : Nat) : List Value := [.int .i64 X.id, .int .i64 X.pa, .int .i64 X.un, .int .i64 X.q.kd, .int .i64 X.q.pl, .int .i64 X.q.n, .slice a1 l1 c1, .slice a2 l2 c2, .int .i64 X.q.wa]
theorem VL.cells {w : World} {lo : Nat} {X : VL} {vs : List Value} (h : ay w lo (aa (aO X)) vs) (hl : vs.length = 9) : ∃ a1 c1 a2 c2, vs = bK X a1 (X.q.ws.length) c1 a2 (X.q.bs.length) c2 /\ Rd w lo (ah X.q.ws) (.slice a1 (X.q.ws.length) c1) /\ Rd w lo (af X.q.bs) (.slice a2 (X.q.bs.length) c2) := by
 match vs, hl with
 | [v0, v1, v2, v3, v4, v5, v6, v7, v8], _ =>
  have e0 : v0 = .int .i64 X.id := ay.get h (j := 0) rfl rfl
  have e1 : v1 = .int .i64 X.pa := ay.get h (j := 1) rfl rfl
  have e2 : v2 = .int .i64 X.un := ay.get h (j := 2) rfl rfl
  have e3 : v3 = .int .i64 X.q.kd := ay.get h (j := 3) rfl rfl
  have e4 : v4 = .int .i64 X.q.pl := ay.get h (j := 4) rfl rfl
  have e5 : v5 = .int .i64 X.q.n := ay.get h (j := 5) rfl rfl
  have r1 : Rd w lo (ah X.q.ws) v6 := ay.get h (j := 6) rfl rfl
  obtain ⟨a1, c1, e6, _⟩ := r1.shape
  have r2 : Rd w lo (af X.q.bs) v7 := ay.get h (j := 7) rfl rfl
  obtain ⟨a2, c2, e7, _⟩ := r2.shape
  have e8 : v8 = .int .i64 X.q.wa := ay.get h (j := 8) rfl rfl
  subst e0 e1 e2 e3 e4 e5 e6 e7 e8
  exact ⟨a1, c1, a2, c2, rfl, r1, r2⟩
theorem VL.back {w : World} {lo : Nat} {X : VL} {a1 : Option Addr} {l1 c1 : Nat} {a2 : Option Addr} {l2 c2 : Nat} (r1 : Rd w lo (ah X.q.ws) (.slice a1 l1 c1)) (r2 : Rd w lo (af X.q.bs) (.slice a2 l2 c2)) : ay w lo (aa (aO X)) (bK X a1 l1 c1 a2 l2 c2) := by
 refine ay.mk (fun j v t hv ht => ?_) (by simp [aO])
 match j, hv, ht with
 | 0, hv, ht =>
  obtain rfl := sj hv
  obtain rfl := sj ht
  exact rfl
 | 1, hv, ht =>
  obtain rfl := sj hv
  obtain rfl := sj ht
  exact rfl
 | 2, hv, ht =>
  obtain rfl := sj hv
  obtain rfl := sj ht
  exact rfl
 | 3, hv, ht =>
  obtain rfl := sj hv
  obtain rfl := sj ht
  exact rfl
 | 4, hv, ht =>
  obtain rfl := sj hv
  obtain rfl := sj ht
  exact rfl
 | 5, hv, ht =>
  obtain rfl := sj hv
  obtain rfl := sj ht
  exact rfl
 | 6, hv, ht =>
  obtain rfl := sj hv
  obtain rfl := sj ht
  exact r1
 | 7, hv, ht =>
  obtain rfl := sj hv
  obtain rfl := sj ht
  exact r2
 | 8, hv, ht =>
  obtain rfl := sj hv
  obtain rfl := sj ht
  exact rfl
 | j + 9, hv, ht => simp at hv
theorem fQ (X : VL) : ao 9 (aa (aO X)) = X.q.ws.length + X.q.bs.length := by
 simp [ao, aF, aa, aO, Tr.sz_leaf, cw, bZ]
structure VN where
 nq : Nat
 qf : Nat -> VL
 bz : Bool
 c : VL
 nu : Int
 du : Int
 le : Int
 nx : Int
 wt : Int
 tr : Int
instance : Inhabited VN := ⟨⟨0, fun _ => default, false, default, 0, 0, 0, 0, 0, 0⟩⟩
def aU (X : VN) : List Tr := [.list 9 X.nq (fun i => aa (aO (X.qf i))), .leaf (.bool X.bz), .leaf (.int .i64 X.c.id), .leaf (.int .i64 X.c.pa), .leaf (.int .i64 X.c.un), .leaf (.int .i64 X.c.q.kd), .leaf (.int .i64 X.c.q.pl), .leaf (.int .i64 X.c.q.n), ah X.c.q.ws, af X.c.q.bs, .leaf (.int .i64 X.c.q.wa), .leaf (.int .i64 X.nu), .leaf (.int .i64 X.du), .leaf (.int .i64 X.le), .leaf (.int .i64 X.nx), .leaf (.int .i64 X.wt), .leaf (.int .i64 X.tr)]
abbrev cj (X : VN) (a1 : Option Addr) (l1 c1 : Nat) (a2 : Option Addr) (l2 c2 : Nat) (a3 : Option Addr) (l3 c3 : Nat) : List Value := [.slice a1 l1 c1, .bool X.bz, .int .i64 X.c.id, .int .i64 X.c.pa, .int .i64 X.c.un, .int .i64 X.c.q.kd, .int .i64 X.c.q.pl, .int .i64 X.c.q.n, .slice a2 l2 c2, .slice a3 l3 c3, .int .i64 X.c.q.wa, .int .i64 X.nu, .int .i64 X.du, .int .i64 X.le, .int .i64 X.nx, .int .i64 X.wt, .int .i64 X.tr]
theorem VN.cells {w : World} {lo : Nat} {X : VN} {vs : List Value} (h : ay w lo (aa (aU X)) vs) (hl : vs.length = 17) : ∃ a1 c1 a2 c2 a3 c3, vs = cj X a1 (X.nq) c1 a2 (X.c.q.ws.length) c2 a3 (X.c.q.bs.length) c3 /\ Rd w lo (.list 9 X.nq (fun i => aa (aO (X.qf i)))) (.slice a1 (X.nq) c1) /\ Rd w lo (ah X.c.q.ws) (.slice a2 (X.c.q.ws.length) c2) /\ Rd w lo (af X.c.q.bs) (.slice a3 (X.c.q.bs.length) c3) := by
 match vs, hl with
 | [v0, v1, v2, v3, v4, v5, v6, v7, v8, v9, v10, v11, v12, v13, v14, v15, v16], _ =>
  have r1 : Rd w lo (.list 9 X.nq (fun i => aa (aO (X.qf i)))) v0 := ay.get h (j := 0) rfl rfl
  obtain ⟨a1, c1, e0, _⟩ := r1.shape
  have e1 : v1 = .bool X.bz := ay.get h (j := 1) rfl rfl
  have e2 : v2 = .int .i64 X.c.id := ay.get h (j := 2) rfl rfl
  have e3 : v3 = .int .i64 X.c.pa := ay.get h (j := 3) rfl rfl
  have e4 : v4 = .int .i64 X.c.un := ay.get h (j := 4) rfl rfl
  have e5 : v5 = .int .i64 X.c.q.kd := ay.get h (j := 5) rfl rfl
  have e6 : v6 = .int .i64 X.c.q.pl := ay.get h (j := 6) rfl rfl
  have e7 : v7 = .int .i64 X.c.q.n := ay.get h (j := 7) rfl rfl
  have r2 : Rd w lo (ah X.c.q.ws) v8 := ay.get h (j := 8) rfl rfl
  obtain ⟨a2, c2, e8, _⟩ := r2.shape
  have r3 : Rd w lo (af X.c.q.bs) v9 := ay.get h (j := 9) rfl rfl
  obtain ⟨a3, c3, e9, _⟩ := r3.shape
  have e10 : v10 = .int .i64 X.c.q.wa := ay.get h (j := 10) rfl rfl
  have e11 : v11 = .int .i64 X.nu := ay.get h (j := 11) rfl rfl
  have e12 : v12 = .int .i64 X.du := ay.get h (j := 12) rfl rfl
  have e13 : v13 = .int .i64 X.le := ay.get h (j := 13) rfl rfl
  have e14 : v14 = .int .i64 X.nx := ay.get h (j := 14) rfl rfl
  have e15 : v15 = .int .i64 X.wt := ay.get h (j := 15) rfl rfl
  have e16 : v16 = .int .i64 X.tr := ay.get h (j := 16) rfl rfl
  subst e0 e1 e2 e3 e4 e5 e6 e7 e8 e9 e10 e11 e12 e13 e14 e15 e16
  exact ⟨a1, c1, a2, c2, a3, c3, rfl, r1, r2, r3⟩
theorem VN.back {w : World} {lo : Nat} {X : VN} {a1 : Option Addr} {l1 c1 : Nat} {a2 : Option Addr} {l2 c2 : Nat} {a3 : Option Addr} {l3 c3 : Nat} (r1 : Rd w lo (.list 9 X.nq (fun i => aa (aO (X.qf i)))) (.slice a1 l1 c1)) (r2 : Rd w lo (ah X.c.q.ws) (.slice a2 l2 c2)) (r3 : Rd w lo (af X.c.q.bs) (.slice a3 l3 c3)) : ay w lo (aa (aU X)) (cj X a1 l1 c1 a2 l2 c2 a3 l3 c3) := by
 refine ay.mk (fun j v t hv ht => ?_) (by simp [aU])
 match j, hv, ht with
 | 0, hv, ht =>
  obtain rfl := sj hv
  obtain rfl := sj ht
  exact r1
 | 1, hv, ht =>
  obtain rfl := sj hv
  obtain rfl := sj ht
  exact rfl
 | 2, hv, ht =>
  obtain rfl := sj hv
  obtain rfl := sj ht
  exact rfl
 | 3, hv, ht =>
  obtain rfl := sj hv
  obtain rfl := sj ht
  exact rfl
 | 4, hv, ht =>
  obtain rfl := sj hv
  obtain rfl := sj ht
  exact rfl
 | 5, hv, ht =>
  obtain rfl := sj hv
  obtain rfl := sj ht
  exact rfl
 | 6, hv, ht =>
  obtain rfl := sj hv
  obtain rfl := sj ht
  exact rfl
 | 7, hv, ht =>
  obtain rfl := sj hv
  obtain rfl := sj ht
  exact rfl
 | 8, hv, ht =>
  obtain rfl := sj hv
  obtain rfl := sj ht
  exact r2
 | 9, hv, ht =>
  obtain rfl := sj hv
  obtain rfl := sj ht
  exact r3
 | 10, hv, ht =>
  obtain rfl := sj hv
  obtain rfl := sj ht
  exact rfl
 | 11, hv, ht =>
  obtain rfl := sj hv
  obtain rfl := sj ht
  exact rfl
 | 12, hv, ht =>
  obtain rfl := sj hv
  obtain rfl := sj ht
  exact rfl
 | 13, hv, ht =>
  obtain rfl := sj hv
  obtain rfl := sj ht
  exact rfl
 | 14, hv, ht =>
  obtain rfl := sj hv
  obtain rfl := sj ht
  exact rfl
 | 15, hv, ht =>
  obtain rfl := sj hv
  obtain rfl := sj ht
  exact rfl
 | 16, hv, ht =>
  obtain rfl := sj hv
  obtain rfl := sj ht
  exact rfl
 | j + 17, hv, ht => simp at hv
theorem jW (X : VN) : ao 17 (aa (aU X)) = (Tr.list 9 X.nq (fun i => aa (aO (X.qf i)))).sz + X.c.q.ws.length + X.c.q.bs.length := by
 simp [ao, aF, aa, aU, Tr.sz_leaf, cw, bZ]
structure VF where
 nw : Int
 set : VC
 op : VT
 nl : Nat
 lf : Nat -> VN
 sk : Int
 re : Int
 fa : Int
 se : Int
instance : Inhabited VF := ⟨⟨0, default, default, 0, fun _ => default, 0, 0, 0, 0⟩⟩
def dS (X : VF) : List Tr := [.leaf (.int .i64 X.nw), .leaf (.int .i64 X.set.wt), .leaf (.int .i64 X.set.tr), .list 7 X.set.n (fun i => aa (bi (X.set.f i))), .leaf (.int .i64 X.op.nx), .list 13 X.op.m (fun i => aa (dT (X.op.f i))), .list 17 X.nl (fun i => aa (aU (X.lf i))), .leaf (.int .i64 X.sk), .leaf (.int .i64 X.re), .leaf (.int .i64 X.fa), .leaf (.int .i64 X.se)]
abbrev bL (X : VF) (a1 : Option Addr) (l1 c1 : Nat) (a2 : Option Addr) (l2 c2 : Nat) (a3 : Option Addr) (l3 c3 : Nat) : List Value := [.int .i64 X.nw, .int .i64 X.set.wt, .int .i64 X.set.tr, .slice a1 l1 c1, .int .i64 X.op.nx, .slice a2 l2 c2, .slice a3 l3 c3, .int .i64 X.sk, .int .i64 X.re, .int .i64 X.fa, .int .i64 X.se]
theorem VF.cells {w : World} {lo : Nat} {X : VF} {vs : List Value} (h : ay w lo (aa (dS X)) vs) (hl : vs.length = 11) : ∃ a1 c1 a2 c2 a3 c3, vs = bL X a1 (X.set.n) c1 a2 (X.op.m) c2 a3 (X.nl) c3 /\ Rd w lo (.list 7 X.set.n (fun i => aa (bi (X.set.f i)))) (.slice a1 (X.set.n) c1) /\ Rd w lo (.list 13 X.op.m (fun i => aa (dT (X.op.f i)))) (.slice a2 (X.op.m) c2) /\ Rd w lo (.list 17 X.nl (fun i => aa (aU (X.lf i)))) (.slice a3 (X.nl) c3) := by
 match vs, hl with
 | [v0, v1, v2, v3, v4, v5, v6, v7, v8, v9, v10], _ =>
  have e0 : v0 = .int .i64 X.nw := ay.get h (j := 0) rfl rfl
  have e1 : v1 = .int .i64 X.set.wt := ay.get h (j := 1) rfl rfl
  have e2 : v2 = .int .i64 X.set.tr := ay.get h (j := 2) rfl rfl
  have r1 : Rd w lo (.list 7 X.set.n (fun i => aa (bi (X.set.f i)))) v3 := ay.get h (j := 3) rfl rfl
  obtain ⟨a1, c1, e3, _⟩ := r1.shape
  have e4 : v4 = .int .i64 X.op.nx := ay.get h (j := 4) rfl rfl
  have r2 : Rd w lo (.list 13 X.op.m (fun i => aa (dT (X.op.f i)))) v5 := ay.get h (j := 5) rfl rfl
  obtain ⟨a2, c2, e5, _⟩ := r2.shape
  have r3 : Rd w lo (.list 17 X.nl (fun i => aa (aU (X.lf i)))) v6 := ay.get h (j := 6) rfl rfl
  obtain ⟨a3, c3, e6, _⟩ := r3.shape
  have e7 : v7 = .int .i64 X.sk := ay.get h (j := 7) rfl rfl
  have e8 : v8 = .int .i64 X.re := ay.get h (j := 8) rfl rfl
  have e9 : v9 = .int .i64 X.fa := ay.get h (j := 9) rfl rfl
  have e10 : v10 = .int .i64 X.se := ay.get h (j := 10) rfl rfl
  subst e0 e1 e2 e3 e4 e5 e6 e7 e8 e9 e10
  exact ⟨a1, c1, a2, c2, a3, c3, rfl, r1, r2, r3⟩
theorem VF.back {w : World} {lo : Nat} {X : VF} {a1 : Option Addr} {l1 c1 : Nat} {a2 : Option Addr} {l2 c2 : Nat} {a3 : Option Addr} {l3 c3 : Nat} (r1 : Rd w lo (.list 7 X.set.n (fun i => aa (bi (X.set.f i)))) (.slice a1 l1 c1)) (r2 : Rd w lo (.list 13 X.op.m (fun i => aa (dT (X.op.f i)))) (.slice a2 l2 c2)) (r3 : Rd w lo (.list 17 X.nl (fun i => aa (aU (X.lf i)))) (.slice a3 l3 c3)) : ay w lo (aa (dS X)) (bL X a1 l1 c1 a2 l2 c2 a3 l3 c3) := by
 refine ay.mk (fun j v t hv ht => ?_) (by simp [dS])
 match j, hv, ht with
 | 0, hv, ht =>
  obtain rfl := sj hv
  obtain rfl := sj ht
  exact rfl
 | 1, hv, ht =>
  obtain rfl := sj hv
  obtain rfl := sj ht
  exact rfl
 | 2, hv, ht =>
  obtain rfl := sj hv
  obtain rfl := sj ht
  exact rfl
 | 3, hv, ht =>
  obtain rfl := sj hv
  obtain rfl := sj ht
  exact r1
 | 4, hv, ht =>
  obtain rfl := sj hv
  obtain rfl := sj ht
  exact rfl
 | 5, hv, ht =>
  obtain rfl := sj hv
  obtain rfl := sj ht
  exact r2
 | 6, hv, ht =>
  obtain rfl := sj hv
  obtain rfl := sj ht
  exact r3
 | 7, hv, ht =>
  obtain rfl := sj hv
  obtain rfl := sj ht
  exact rfl
 | 8, hv, ht =>
  obtain rfl := sj hv
  obtain rfl := sj ht
  exact rfl
 | 9, hv, ht =>
  obtain rfl := sj hv
  obtain rfl := sj ht
  exact rfl
 | 10, hv, ht =>
  obtain rfl := sj hv
  obtain rfl := sj ht
  exact rfl
 | j + 11, hv, ht => simp at hv
theorem fn (X : VF) : ao 11 (aa (dS X)) = (Tr.list 7 X.set.n (fun i => aa (bi (X.set.f i)))).sz + (Tr.list 13 X.op.m (fun i => aa (dT (X.op.f i)))).sz + (Tr.list 17 X.nl (fun i => aa (aU (X.lf i)))).sz := by
 simp [ao, aF, aa, dS, Tr.sz_leaf, cw, bZ]
end Go.Proofs.YtplaoagcedgdfaaGreat
