/- Texts that the proof needs, joined: Tr4 Mk0 Mk1 Mk4 Mk5 Tr7. -/
import Derived.Test.YtplaoagcedgdfaaV2
import Derived.Test.YtplaoagcedgdfaaV1
set_option linter.unusedVariables false
set_option linter.unusedSimpArgs false
set_option maxHeartbeats 4000000
set_option maxRecDepth 20000
namespace Go.Proofs.Ytplaoagcedgdfaa
open Go.RowKit Go.Joins
theorem eqIntS_t (ws : List Int) (a : Option Addr) (l c : Nat) (a' : Option Addr) (c' : Nat) (w : World) (r : Rd w 0 (intsT ws) (.slice a l c)) (r' : Rd w 0 (intsT ws) (.slice a' l c')) (hz : ws.length <= 1048576) :
 Calls Try.prog 87 #[.slice a l c, .slice a' l c'] w fun e w' => e = .returned (.bool true) /\ Below w.heap.size w w' := by
 obtain ⟨a9, c9, h9, -, hm, hs⟩ := r.ints
 simp only [Value.slice.injEq] at h9
 obtain ⟨rfl, rfl, rfl⟩ := h9
 obtain ⟨a9, c9, h9, -, -, hs'⟩ := r'.ints
 simp only [Value.slice.injEq] at h9
 obtain ⟨rfl, -, rfl⟩ := h9
 exact eqIntS_ok _ _ _ _ _ _ ws w rfl rfl hs hs' (by omega)
theorem eqBoolS_t (ws : List Bool) (a : Option Addr) (l c : Nat) (a' : Option Addr) (c' : Nat) (w : World) (r : Rd w 0 (boolsT ws) (.slice a l c)) (r' : Rd w 0 (boolsT ws) (.slice a' l c')) (hz : ws.length <= 1048576) :
 Calls Try.prog 86 #[.slice a l c, .slice a' l c'] w fun e w' => e = .returned (.bool true) /\ Below w.heap.size w w' := by
 obtain ⟨a9, c9, h9, -, hm, hs⟩ := r.bools
 simp only [Value.slice.injEq] at h9
 obtain ⟨rfl, rfl, rfl⟩ := h9
 obtain ⟨a9, c9, h9, -, -, hs'⟩ := r'.bools
 simp only [Value.slice.injEq] at h9
 obtain ⟨rfl, -, rfl⟩ := h9
 exact eqBoolS_ok _ _ _ _ _ _ ws w rfl rfl hs hs' (by omega)
theorem eqReq_t (X : VQ) (a1 : Option Addr) (l1 c1 : Nat) (a2 : Option Addr) (l2 c2 : Nat) (a1' : Option Addr) (c1' : Nat) (a2' : Option Addr) (c2' : Nat) (w : World) (r1 : Rd w 0 (intsT X.ws) (.slice a1 l1 c1)) (r2 : Rd w 0 (boolsT X.bs) (.slice a2 l2 c2)) (r1' : Rd w 0 (intsT X.ws) (.slice a1' l1 c1')) (r2' : Rd w 0 (boolsT X.bs) (.slice a2' l2 c2')) (hz : szT 6 (trs (qT X)) <= 1048576) :
 Calls Try.prog 65 #[.agg (qL X a1 l1 c1 a2 l2 c2).toArray, .agg (qL X a1' l1 c1' a2' l2 c2').toArray] w fun e w' => e = .returned (.bool true) /\ Below w.heap.size w w' := by
 rw [szT_q] at hz
 obtain ⟨a9, c9, h9, -, hm1, hs1⟩ := r1.ints
 simp only [Value.slice.injEq] at h9
 obtain ⟨rfl, rfl, rfl⟩ := h9
 obtain ⟨a9, c9, h9, -, hm2, hs2⟩ := r2.bools
 simp only [Value.slice.injEq] at h9
 obtain ⟨rfl, rfl, rfl⟩ := h9
 obtain ⟨a9, c9, h9, -, -, hs1'⟩ := r1'.ints
 simp only [Value.slice.injEq] at h9
 obtain ⟨rfl, -, rfl⟩ := h9
 obtain ⟨a9, c9, h9, -, -, hs2'⟩ := r2'.bools
 simp only [Value.slice.injEq] at h9
 obtain ⟨rfl, -, rfl⟩ := h9
 exact eqReq_true X.kd X.pl X.n X.wa _ _ _ _ _ _ _ _ _ _ _ _ X.ws X.bs w rfl rfl rfl rfl hs1 hs2 hs1' hs2' (by omega) (by omega)
theorem eqResp_t (X : VA) (a1 : Option Addr) (l1 c1 : Nat) (a2 : Option Addr) (l2 c2 : Nat) (a1' : Option Addr) (c1' : Nat) (a2' : Option Addr) (c2' : Nat) (w : World) (r1 : Rd w 0 (intsT X.ws) (.slice a1 l1 c1)) (r2 : Rd w 0 (boolsT X.bs) (.slice a2 l2 c2)) (r1' : Rd w 0 (intsT X.ws) (.slice a1' l1 c1')) (r2' : Rd w 0 (boolsT X.bs) (.slice a2' l2 c2')) (hz : szT 6 (trs (aT X)) <= 1048576) :
 Calls Try.prog 66 #[.agg (aL X a1 l1 c1 a2 l2 c2).toArray, .agg (aL X a1' l1 c1' a2' l2 c2').toArray] w fun e w' => e = .returned (.bool true) /\ Below w.heap.size w w' := by
 rw [szT_a] at hz
 obtain ⟨a9, c9, h9, -, hm1, hs1⟩ := r1.ints
 simp only [Value.slice.injEq] at h9
 obtain ⟨rfl, rfl, rfl⟩ := h9
 obtain ⟨a9, c9, h9, -, hm2, hs2⟩ := r2.bools
 simp only [Value.slice.injEq] at h9
 obtain ⟨rfl, rfl, rfl⟩ := h9
 obtain ⟨a9, c9, h9, -, -, hs1'⟩ := r1'.ints
 simp only [Value.slice.injEq] at h9
 obtain ⟨rfl, -, rfl⟩ := h9
 obtain ⟨a9, c9, h9, -, -, hs2'⟩ := r2'.bools
 simp only [Value.slice.injEq] at h9
 obtain ⟨rfl, -, rfl⟩ := h9
 exact eqResp_true X.kd X.fl X.pl X.n _ _ _ _ _ _ _ _ _ _ _ _ X.ws X.bs w rfl rfl rfl rfl hs1 hs2 hs1' hs2' (by omega) (by omega)
theorem eqRespS_t (n : Nat) (f : Nat -> VA) (a : Option Addr) (n' cap : Nat) (a' : Option Addr) (cap' : Nat) (w : World) (hs : Rd w 0 (.list 6 n (fun k => trs (aT (f k)))) (.slice a n' cap)) (hs' : Rd w 0 (.list 6 n (fun k => trs (aT (f k)))) (.slice a' n' cap')) (hz : (Tr.list 6 n (fun k => trs (aT (f k)))).sz <= 1048576) :
 Calls Try.prog 68 #[.slice a n' cap, .slice a' n' cap'] w fun e w' => e = .returned (.bool true) /\ Below w.heap.size w w' := by
 obtain ⟨a9, c9, h9, -, hn⟩ := hs.shape
 simp only [Value.slice.injEq] at h9
 obtain ⟨-, rfl, -⟩ := h9
 clear a9 c9 hn
 have hn1 : n' <= 1048576 := by rw [Tr.sz_list] at hz; omega
 have HZ : Hid (∀ k, k < n' -> szT 6 (trs (aT (f k))) <= 1048576) := by
  show ∀ k, k < n' -> szT 6 (trs (aT (f k))) <= 1048576
  intro k hk
  rw [Tr.sz_list] at hz
  have := sumN_at (fun k => szT 6 (trs (aT (f k)))) hk
  omega
 have HS : Hid (Rd w 0 (.list 6 n' (fun k => trs (aT (f k)))) (.slice a n' cap) /\ Rd w 0 (.list 6 n' (fun k => trs (aT (f k)))) (.slice a' n' cap')) := ⟨hs, hs'⟩
 clear hs hs' hz
 go_enter Try.func68, Try.ntmps68
 go_wp2
 go_loopw [5] (fun i wr => ∃ z : Nat, z <= n' /\ i = .int .i64 z /\ Below w.heap.size w wr) (fun i _ => n' - (intOf i).toNat)
 case atStart => exact ⟨0, Nat.zero_le _, rfl, Below.refl _ _⟩
 case round =>
  obtain ⟨k, hk, rfl, hbl⟩ := hrel
  by_cases hlt : k < n'
  ·have hi : (k : Int) < (n' : Int) := by omega
   obtain ⟨b, off, vs, rfl, _, hb0, hlen, hr, hrd⟩ := (HS.out.1.below hbl).at hlt
   obtain ⟨a1, c1, a2, c2, rfl, r1, r2⟩ := VA.cells hrd hlen
   clear hlen hrd hb0
   obtain ⟨b', off', vs, rfl, _, hb0, hlen, hr', hrd⟩ := (HS.out.2.below hbl).at hlt
   obtain ⟨a1', c1', a2', c2', rfl, r1', r2'⟩ := VA.cells hrd hlen
   clear hlen hrd hb0
   have d09 : wr.cell? ⟨b, off + k * 6, none⟩ = _ := hr 0 _ rfl
   have e09 : wr.cell? ⟨b', off' + k * 6, none⟩ = _ := hr' 0 _ rfl
   have d19 : wr.cell? ⟨b, off + k * 6 + 1, none⟩ = _ := hr 1 _ rfl
   have e19 : wr.cell? ⟨b', off' + k * 6 + 1, none⟩ = _ := hr' 1 _ rfl
   have d29 : wr.cell? ⟨b, off + k * 6 + 2, none⟩ = _ := hr 2 _ rfl
   have e29 : wr.cell? ⟨b', off' + k * 6 + 2, none⟩ = _ := hr' 2 _ rfl
   have d39 : wr.cell? ⟨b, off + k * 6 + 3, none⟩ = _ := hr 3 _ rfl
   have e39 : wr.cell? ⟨b', off' + k * 6 + 3, none⟩ = _ := hr' 3 _ rfl
   have d49 : wr.cell? ⟨b, off + k * 6 + 4, none⟩ = _ := hr 4 _ rfl
   have e49 : wr.cell? ⟨b', off' + k * 6 + 4, none⟩ = _ := hr' 4 _ rfl
   have d59 : wr.cell? ⟨b, off + k * 6 + 5, none⟩ = _ := hr 5 _ rfl
   have e59 : wr.cell? ⟨b', off' + k * 6 + 5, none⟩ = _ := hr' 5 _ rfl
   have HK : Hid (Below w.heap.size w wr /\ szT 6 (trs (aT (f k))) <= 1048576 /\ Rd wr 0 (intsT (f k).ws) (.slice a1 ((f k).ws.length) c1) /\ Rd wr 0 (boolsT (f k).bs) (.slice a2 ((f k).bs.length) c2) /\ Rd wr 0 (intsT (f k).ws) (.slice a1' ((f k).ws.length) c1') /\ Rd wr 0 (boolsT (f k).bs) (.slice a2' ((f k).bs.length) c2')) := ⟨hbl, HZ.out k hlt, r1, r2, r1', r2'⟩
   clear r1 r2 r1' r2' hr hr' hbl
   go_wp2_with fail
   go_region_with (go_at_call 66; refine (eqResp_t (f k) a1 ((f k).ws.length) c1 a2 ((f k).bs.length) c2 a1' c1' a2' c2' _ (HK.out.2.2.1.below (by first | exact Below.refl _ _ | exact (Below.refl _ _).drew | exact (Below.refl _ _).drew.drew)) (HK.out.2.2.2.1.below (by first | exact Below.refl _ _ | exact (Below.refl _ _).drew | exact (Below.refl _ _).drew.drew)) (HK.out.2.2.2.2.1.below (by first | exact Below.refl _ _ | exact (Below.refl _ _).drew | exact (Below.refl _ _).drew.drew)) (HK.out.2.2.2.2.2.below (by first | exact Below.refl _ _ | exact (Below.refl _ _).drew | exact (Below.refl _ _).drew.drew)) HK.out.2.1).mono ?_; rintro e w1 ⟨rfl, b1'⟩; have b1 : Below wr.heap.size wr w1 := bel_nx (by first | exact Below.refl _ _ | exact (Below.refl _ _).drew | exact (Below.refl _ _).drew.drew) b1'; clear b1')
   all_goals (
    have B1 := bel_nx HK.out.1 b1
    clear HK b1 d09 e09 d19 e19 d29 e29 d39 e39 d49 e49 d59 e59
    go_wp2
    go_roundw
    case rel => exact ⟨k + 1, by omega, by go_num, B1⟩
    case measure => simp [intOf]; omega)
  have hi : ¬ (k : Int) < (n' : Int) := by omega
  go_wp2
  go_ret
  exact ⟨rfl, hbl⟩
theorem eqPart_t (X : VP) (a1 : Option Addr) (l1 c1 : Nat) (a2 : Option Addr) (l2 c2 : Nat) (a1' : Option Addr) (c1' : Nat) (a2' : Option Addr) (c2' : Nat) (w : World) (r1 : Rd w 0 (intsT X.q.ws) (.slice a1 l1 c1)) (r2 : Rd w 0 (boolsT X.q.bs) (.slice a2 l2 c2)) (r1' : Rd w 0 (intsT X.q.ws) (.slice a1' l1 c1')) (r2' : Rd w 0 (boolsT X.q.bs) (.slice a2' l2 c2')) (hz : szT 8 (trs (pT X)) <= 1048576) :
 Calls Try.prog 88 #[.agg (pL X a1 l1 c1 a2 l2 c2).toArray, .agg (pL X a1' l1 c1' a2' l2 c2').toArray] w fun e w' => e = .returned (.bool true) /\ Below w.heap.size w w' := by
 obtain ⟨W, hW⟩ : ∃ W, W = (w.alloc (.cells (pL X a1 l1 c1 a2 l2 c2).toArray 180)).alloc (.cells (pL X a1' l1 c1' a2' l2 c2').toArray 180) := ⟨_, rfl⟩
 have HZ : Hid (szT 6 (trs (qT X.q)) <= 1048576) := by
  rw [szT_p] at hz
  show szT 6 (trs (qT X.q)) <= 1048576
  try simp only [szT_q, szT_a, szT_p, szT_d, szT_t, true_and]
  omega
 have HR : Hid (Rd w 0 (intsT X.q.ws) (.slice a1 l1 c1) /\ Rd w 0 (boolsT X.q.bs) (.slice a2 l2 c2) /\ Rd w 0 (intsT X.q.ws) (.slice a1' l1 c1') /\ Rd w 0 (boolsT X.q.bs) (.slice a2' l2 c2')) := ⟨r1, r2, r1', r2'⟩
 have G0 : Hid (Below w.heap.size w W /\ Blk W w.heap.size 180 (pL X a1 l1 c1 a2 l2 c2).toArray /\ Blk W (w.heap.size + 1) 180 (pL X a1' l1 c1' a2' l2 c2').toArray) := ⟨by rw [hW]; exact bel_nx (bel_alloc _ _) (bel_alloc _ _), by rw [hW]; exact (Blk.new w _ _).below (bel_alloc _ _), by rw [hW]; have := Blk.new (w.alloc (.cells (pL X a1 l1 c1 a2 l2 c2).toArray 180)) (pL X a1' l1 c1' a2' l2 c2').toArray 180; simpa using this⟩
 clear hz r1 r2 r1' r2'
 go_enter Try.func88, Try.ntmps88
 go_upto_region 1 with fail
 rw [<- hW]
 clear hW
 obtain ⟨⟨y0, y1, y2, y3, y4, y5, y6, y7⟩, yf⟩ := G0.out.2.1.tc8
 obtain ⟨⟨z0, z1, z2, z3, z4, z5, z6, z7⟩, zf⟩ := G0.out.2.2.tc8
 clear yf zf
 go_wp2_with fail
 refine (eqReq_t X.q a1 l1 c1 a2 l2 c2 a1' c1' a2' c2' _ (HR.out.1.below G0.out.1) (HR.out.2.1.below G0.out.1) (HR.out.2.2.1.below G0.out.1) (HR.out.2.2.2.below G0.out.1) HZ.out).mono ?_
 rintro e w1 ⟨rfl, hb1⟩
 have G1 : Hid (Below w.heap.size w w1 /\ Blk w1 w.heap.size 180 (pL X a1 l1 c1 a2 l2 c2).toArray /\ Blk w1 (w.heap.size + 1) 180 (pL X a1' l1 c1' a2' l2 c2').toArray) := ⟨bel_nx G0.out.1 hb1, G0.out.2.1.below hb1, G0.out.2.2.below hb1⟩
 clear hb1 y0 y1 y2 y3 y4 y5 y6 y7 z0 z1 z2 z3 z4 z5 z6 z7
 go_wp2
 go_ret
 exact ⟨rfl, G1.out.1⟩
theorem eqPartS_t (n : Nat) (f : Nat -> VP) (a : Option Addr) (n' cap : Nat) (a' : Option Addr) (cap' : Nat) (w : World) (hs : Rd w 0 (.list 8 n (fun k => trs (pT (f k)))) (.slice a n' cap)) (hs' : Rd w 0 (.list 8 n (fun k => trs (pT (f k)))) (.slice a' n' cap')) (hz : (Tr.list 8 n (fun k => trs (pT (f k)))).sz <= 1048576) :
 Calls Try.prog 67 #[.slice a n' cap, .slice a' n' cap'] w fun e w' => e = .returned (.bool true) /\ Below w.heap.size w w' := by
 obtain ⟨a9, c9, h9, -, hn⟩ := hs.shape
 simp only [Value.slice.injEq] at h9
 obtain ⟨-, rfl, -⟩ := h9
 clear a9 c9 hn
 have hn1 : n' <= 1048576 := by rw [Tr.sz_list] at hz; omega
 have HZ : Hid (∀ k, k < n' -> szT 8 (trs (pT (f k))) <= 1048576) := by
  show ∀ k, k < n' -> szT 8 (trs (pT (f k))) <= 1048576
  intro k hk
  rw [Tr.sz_list] at hz
  have := sumN_at (fun k => szT 8 (trs (pT (f k)))) hk
  omega
 have HS : Hid (Rd w 0 (.list 8 n' (fun k => trs (pT (f k)))) (.slice a n' cap) /\ Rd w 0 (.list 8 n' (fun k => trs (pT (f k)))) (.slice a' n' cap')) := ⟨hs, hs'⟩
 clear hs hs' hz
 go_enter Try.func67, Try.ntmps67
 go_wp2
 go_loopw [5] (fun i wr => ∃ z : Nat, z <= n' /\ i = .int .i64 z /\ Below w.heap.size w wr) (fun i _ => n' - (intOf i).toNat)
 case atStart => exact ⟨0, Nat.zero_le _, rfl, Below.refl _ _⟩
 case round =>
  obtain ⟨k, hk, rfl, hbl⟩ := hrel
  by_cases hlt : k < n'
  ·have hi : (k : Int) < (n' : Int) := by omega
   obtain ⟨b, off, vs, rfl, _, hb0, hlen, hr, hrd⟩ := (HS.out.1.below hbl).at hlt
   obtain ⟨a1, c1, a2, c2, rfl, r1, r2⟩ := VP.cells hrd hlen
   clear hlen hrd hb0
   obtain ⟨b', off', vs, rfl, _, hb0, hlen, hr', hrd⟩ := (HS.out.2.below hbl).at hlt
   obtain ⟨a1', c1', a2', c2', rfl, r1', r2'⟩ := VP.cells hrd hlen
   clear hlen hrd hb0
   have d09 : wr.cell? ⟨b, off + k * 8, none⟩ = _ := hr 0 _ rfl
   have e09 : wr.cell? ⟨b', off' + k * 8, none⟩ = _ := hr' 0 _ rfl
   have d19 : wr.cell? ⟨b, off + k * 8 + 1, none⟩ = _ := hr 1 _ rfl
   have e19 : wr.cell? ⟨b', off' + k * 8 + 1, none⟩ = _ := hr' 1 _ rfl
   have d29 : wr.cell? ⟨b, off + k * 8 + 2, none⟩ = _ := hr 2 _ rfl
   have e29 : wr.cell? ⟨b', off' + k * 8 + 2, none⟩ = _ := hr' 2 _ rfl
   have d39 : wr.cell? ⟨b, off + k * 8 + 3, none⟩ = _ := hr 3 _ rfl
   have e39 : wr.cell? ⟨b', off' + k * 8 + 3, none⟩ = _ := hr' 3 _ rfl
   have d49 : wr.cell? ⟨b, off + k * 8 + 4, none⟩ = _ := hr 4 _ rfl
   have e49 : wr.cell? ⟨b', off' + k * 8 + 4, none⟩ = _ := hr' 4 _ rfl
   have d59 : wr.cell? ⟨b, off + k * 8 + 5, none⟩ = _ := hr 5 _ rfl
   have e59 : wr.cell? ⟨b', off' + k * 8 + 5, none⟩ = _ := hr' 5 _ rfl
   have d69 : wr.cell? ⟨b, off + k * 8 + 6, none⟩ = _ := hr 6 _ rfl
   have e69 : wr.cell? ⟨b', off' + k * 8 + 6, none⟩ = _ := hr' 6 _ rfl
   have d79 : wr.cell? ⟨b, off + k * 8 + 7, none⟩ = _ := hr 7 _ rfl
   have e79 : wr.cell? ⟨b', off' + k * 8 + 7, none⟩ = _ := hr' 7 _ rfl
   have HK : Hid (Below w.heap.size w wr /\ szT 8 (trs (pT (f k))) <= 1048576 /\ Rd wr 0 (intsT (f k).q.ws) (.slice a1 ((f k).q.ws.length) c1) /\ Rd wr 0 (boolsT (f k).q.bs) (.slice a2 ((f k).q.bs.length) c2) /\ Rd wr 0 (intsT (f k).q.ws) (.slice a1' ((f k).q.ws.length) c1') /\ Rd wr 0 (boolsT (f k).q.bs) (.slice a2' ((f k).q.bs.length) c2')) := ⟨hbl, HZ.out k hlt, r1, r2, r1', r2'⟩
   clear r1 r2 r1' r2' hr hr' hbl
   go_wp2_with fail
   go_region_with (go_at_call 88; refine (eqPart_t (f k) a1 ((f k).q.ws.length) c1 a2 ((f k).q.bs.length) c2 a1' c1' a2' c2' _ (HK.out.2.2.1.below (by first | exact Below.refl _ _ | exact (Below.refl _ _).drew | exact (Below.refl _ _).drew.drew)) (HK.out.2.2.2.1.below (by first | exact Below.refl _ _ | exact (Below.refl _ _).drew | exact (Below.refl _ _).drew.drew)) (HK.out.2.2.2.2.1.below (by first | exact Below.refl _ _ | exact (Below.refl _ _).drew | exact (Below.refl _ _).drew.drew)) (HK.out.2.2.2.2.2.below (by first | exact Below.refl _ _ | exact (Below.refl _ _).drew | exact (Below.refl _ _).drew.drew)) HK.out.2.1).mono ?_; rintro e w1 ⟨rfl, b1'⟩; have b1 : Below wr.heap.size wr w1 := bel_nx (by first | exact Below.refl _ _ | exact (Below.refl _ _).drew | exact (Below.refl _ _).drew.drew) b1'; clear b1')
   all_goals (
    have B1 := bel_nx HK.out.1 b1
    clear HK b1 d09 e09 d19 e19 d29 e29 d39 e39 d49 e49 d59 e59 d69 e69 d79 e79
    go_wp2
    go_roundw
    case rel => exact ⟨k + 1, by omega, by go_num, B1⟩
    case measure => simp [intOf]; omega)
  have hi : ¬ (k : Int) < (n' : Int) := by omega
  go_wp2
  go_ret
  exact ⟨rfl, hbl⟩
theorem eqPend_t (X : VD) (a1 : Option Addr) (l1 c1 : Nat) (a2 : Option Addr) (l2 c2 : Nat) (a3 : Option Addr) (l3 c3 : Nat) (a4 : Option Addr) (l4 c4 : Nat) (a5 : Option Addr) (l5 c5 : Nat) (a1' : Option Addr) (c1' : Nat) (a2' : Option Addr) (c2' : Nat) (a3' : Option Addr) (c3' : Nat) (a4' : Option Addr) (c4' : Nat) (a5' : Option Addr) (c5' : Nat) (w : World) (r1 : Rd w 0 (intsT X.q.ws) (.slice a1 l1 c1)) (r2 : Rd w 0 (boolsT X.q.bs) (.slice a2 l2 c2)) (r3 : Rd w 0 (.list 8 X.np (fun i => trs (pT (X.pt i)))) (.slice a3 l3 c3)) (r4 : Rd w 0 (boolsT X.hs) (.slice a4 l4 c4)) (r5 : Rd w 0 (.list 6 X.nt (fun i => trs (aT (X.tl i)))) (.slice a5 l5 c5)) (r1' : Rd w 0 (intsT X.q.ws) (.slice a1' l1 c1')) (r2' : Rd w 0 (boolsT X.q.bs) (.slice a2' l2 c2')) (r3' : Rd w 0 (.list 8 X.np (fun i => trs (pT (X.pt i)))) (.slice a3' l3 c3')) (r4' : Rd w 0 (boolsT X.hs) (.slice a4' l4 c4')) (r5' : Rd w 0 (.list 6 X.nt (fun i => trs (aT (X.tl i)))) (.slice a5' l5 c5')) (hz : szT 13 (trs (dT X)) <= 1048576) :
 Calls Try.prog 83 #[.agg (dL X a1 l1 c1 a2 l2 c2 a3 l3 c3 a4 l4 c4 a5 l5 c5).toArray, .agg (dL X a1' l1 c1' a2' l2 c2' a3' l3 c3' a4' l4 c4' a5' l5 c5').toArray] w fun e w' => e = .returned (.bool true) /\ Below w.heap.size w w' := by
 obtain ⟨W, hW⟩ : ∃ W, W = (w.alloc (.cells (dL X a1 l1 c1 a2 l2 c2 a3 l3 c3 a4 l4 c4 a5 l5 c5).toArray 173)).alloc (.cells (dL X a1' l1 c1' a2' l2 c2' a3' l3 c3' a4' l4 c4' a5' l5 c5').toArray 173) := ⟨_, rfl⟩
 have HZ : Hid (szT 6 (trs (qT X.q)) <= 1048576 /\ (Tr.list 8 X.np (fun i => trs (pT (X.pt i)))).sz <= 1048576 /\ X.hs.length <= 1048576 /\ (Tr.list 6 X.nt (fun i => trs (aT (X.tl i)))).sz <= 1048576) := by
  rw [szT_d] at hz
  show szT 6 (trs (qT X.q)) <= 1048576 /\ (Tr.list 8 X.np (fun i => trs (pT (X.pt i)))).sz <= 1048576 /\ X.hs.length <= 1048576 /\ (Tr.list 6 X.nt (fun i => trs (aT (X.tl i)))).sz <= 1048576
  try simp only [szT_q, szT_a, szT_p, szT_d, szT_t, true_and]
  omega
 have HR : Hid (Rd w 0 (intsT X.q.ws) (.slice a1 l1 c1) /\ Rd w 0 (boolsT X.q.bs) (.slice a2 l2 c2) /\ Rd w 0 (.list 8 X.np (fun i => trs (pT (X.pt i)))) (.slice a3 l3 c3) /\ Rd w 0 (boolsT X.hs) (.slice a4 l4 c4) /\ Rd w 0 (.list 6 X.nt (fun i => trs (aT (X.tl i)))) (.slice a5 l5 c5) /\ Rd w 0 (intsT X.q.ws) (.slice a1' l1 c1') /\ Rd w 0 (boolsT X.q.bs) (.slice a2' l2 c2') /\ Rd w 0 (.list 8 X.np (fun i => trs (pT (X.pt i)))) (.slice a3' l3 c3') /\ Rd w 0 (boolsT X.hs) (.slice a4' l4 c4') /\ Rd w 0 (.list 6 X.nt (fun i => trs (aT (X.tl i)))) (.slice a5' l5 c5')) := ⟨r1, r2, r3, r4, r5, r1', r2', r3', r4', r5'⟩
 have G0 : Hid (Below w.heap.size w W /\ Blk W w.heap.size 173 (dL X a1 l1 c1 a2 l2 c2 a3 l3 c3 a4 l4 c4 a5 l5 c5).toArray /\ Blk W (w.heap.size + 1) 173 (dL X a1' l1 c1' a2' l2 c2' a3' l3 c3' a4' l4 c4' a5' l5 c5').toArray) := ⟨by rw [hW]; exact bel_nx (bel_alloc _ _) (bel_alloc _ _), by rw [hW]; exact (Blk.new w _ _).below (bel_alloc _ _), by rw [hW]; have := Blk.new (w.alloc (.cells (dL X a1 l1 c1 a2 l2 c2 a3 l3 c3 a4 l4 c4 a5 l5 c5).toArray 173)) (dL X a1' l1 c1' a2' l2 c2' a3' l3 c3' a4' l4 c4' a5' l5 c5').toArray 173; simpa using this⟩
 clear hz r1 r2 r3 r4 r5 r1' r2' r3' r4' r5'
 go_enter Try.func83, Try.ntmps83
 go_upto_region 1 with fail
 rw [<- hW]
 clear hW
 obtain ⟨⟨y0, y1, y2, y3, y4, y5, y6, y7, y8, y9, y10, y11, y12⟩, yf⟩ := G0.out.2.1.tc13
 obtain ⟨⟨z0, z1, z2, z3, z4, z5, z6, z7, z8, z9, z10, z11, z12⟩, zf⟩ := G0.out.2.2.tc13
 clear yf zf
 go_wp2_with fail
 refine (eqReq_t X.q a1 l1 c1 a2 l2 c2 a1' c1' a2' c2' _ (HR.out.1.below G0.out.1) (HR.out.2.1.below G0.out.1) (HR.out.2.2.2.2.2.1.below G0.out.1) (HR.out.2.2.2.2.2.2.1.below G0.out.1) HZ.out.1).mono ?_
 rintro e w1 ⟨rfl, hb1⟩
 have G1 : Hid (Below w.heap.size w w1 /\ Blk w1 w.heap.size 173 (dL X a1 l1 c1 a2 l2 c2 a3 l3 c3 a4 l4 c4 a5 l5 c5).toArray /\ Blk w1 (w.heap.size + 1) 173 (dL X a1' l1 c1' a2' l2 c2' a3' l3 c3' a4' l4 c4' a5' l5 c5').toArray) := ⟨bel_nx G0.out.1 hb1, G0.out.2.1.below hb1, G0.out.2.2.below hb1⟩
 clear hb1 y0 y1 y2 y3 y4 y5 y6 y7 y8 y9 y10 y11 y12 z0 z1 z2 z3 z4 z5 z6 z7 z8 z9 z10 z11 z12
 obtain ⟨⟨y0, y1, y2, y3, y4, y5, y6, y7, y8, y9, y10, y11, y12⟩, yf⟩ := G1.out.2.1.tc13
 obtain ⟨⟨z0, z1, z2, z3, z4, z5, z6, z7, z8, z9, z10, z11, z12⟩, zf⟩ := G1.out.2.2.tc13
 clear yf zf
 go_wp2_with fail
 refine (eqPartS_t X.np X.pt a3 l3 c3 a3' c3' _ (HR.out.2.2.1.below G1.out.1) (HR.out.2.2.2.2.2.2.2.1.below G1.out.1) HZ.out.2.1).mono ?_
 rintro e w2 ⟨rfl, hb2⟩
 have G2 : Hid (Below w.heap.size w w2 /\ Blk w2 w.heap.size 173 (dL X a1 l1 c1 a2 l2 c2 a3 l3 c3 a4 l4 c4 a5 l5 c5).toArray /\ Blk w2 (w.heap.size + 1) 173 (dL X a1' l1 c1' a2' l2 c2' a3' l3 c3' a4' l4 c4' a5' l5 c5').toArray) := ⟨bel_nx G1.out.1 hb2, G1.out.2.1.below hb2, G1.out.2.2.below hb2⟩
 clear hb2 y0 y1 y2 y3 y4 y5 y6 y7 y8 y9 y10 y11 y12 z0 z1 z2 z3 z4 z5 z6 z7 z8 z9 z10 z11 z12
 obtain ⟨⟨y0, y1, y2, y3, y4, y5, y6, y7, y8, y9, y10, y11, y12⟩, yf⟩ := G2.out.2.1.tc13
 obtain ⟨⟨z0, z1, z2, z3, z4, z5, z6, z7, z8, z9, z10, z11, z12⟩, zf⟩ := G2.out.2.2.tc13
 clear yf zf
 go_wp2_with fail
 refine (eqBoolS_t X.hs a4 l4 c4 a4' c4' _ (HR.out.2.2.2.1.below G2.out.1) (HR.out.2.2.2.2.2.2.2.2.1.below G2.out.1) HZ.out.2.2.1).mono ?_
 rintro e w3 ⟨rfl, hb3⟩
 have G3 : Hid (Below w.heap.size w w3 /\ Blk w3 w.heap.size 173 (dL X a1 l1 c1 a2 l2 c2 a3 l3 c3 a4 l4 c4 a5 l5 c5).toArray /\ Blk w3 (w.heap.size + 1) 173 (dL X a1' l1 c1' a2' l2 c2' a3' l3 c3' a4' l4 c4' a5' l5 c5').toArray) := ⟨bel_nx G2.out.1 hb3, G2.out.2.1.below hb3, G2.out.2.2.below hb3⟩
 clear hb3 y0 y1 y2 y3 y4 y5 y6 y7 y8 y9 y10 y11 y12 z0 z1 z2 z3 z4 z5 z6 z7 z8 z9 z10 z11 z12
 obtain ⟨⟨y0, y1, y2, y3, y4, y5, y6, y7, y8, y9, y10, y11, y12⟩, yf⟩ := G3.out.2.1.tc13
 obtain ⟨⟨z0, z1, z2, z3, z4, z5, z6, z7, z8, z9, z10, z11, z12⟩, zf⟩ := G3.out.2.2.tc13
 clear yf zf
 go_wp2_with fail
 refine (eqRespS_t X.nt X.tl a5 l5 c5 a5' c5' _ (HR.out.2.2.2.2.1.below G3.out.1) (HR.out.2.2.2.2.2.2.2.2.2.below G3.out.1) HZ.out.2.2.2).mono ?_
 rintro e w4 ⟨rfl, hb4⟩
 have G4 : Hid (Below w.heap.size w w4 /\ Blk w4 w.heap.size 173 (dL X a1 l1 c1 a2 l2 c2 a3 l3 c3 a4 l4 c4 a5 l5 c5).toArray /\ Blk w4 (w.heap.size + 1) 173 (dL X a1' l1 c1' a2' l2 c2' a3' l3 c3' a4' l4 c4' a5' l5 c5').toArray) := ⟨bel_nx G3.out.1 hb4, G3.out.2.1.below hb4, G3.out.2.2.below hb4⟩
 clear hb4 y0 y1 y2 y3 y4 y5 y6 y7 y8 y9 y10 y11 y12 z0 z1 z2 z3 z4 z5 z6 z7 z8 z9 z10 z11 z12
 go_wp2
 go_ret
 exact ⟨rfl, G4.out.1⟩
theorem eqPendS_t (n : Nat) (f : Nat -> VD) (a : Option Addr) (n' cap : Nat) (a' : Option Addr) (cap' : Nat) (w : World) (hs : Rd w 0 (.list 13 n (fun k => trs (dT (f k)))) (.slice a n' cap)) (hs' : Rd w 0 (.list 13 n (fun k => trs (dT (f k)))) (.slice a' n' cap')) (hz : (Tr.list 13 n (fun k => trs (dT (f k)))).sz <= 1048576) :
 Calls Try.prog 62 #[.slice a n' cap, .slice a' n' cap'] w fun e w' => e = .returned (.bool true) /\ Below w.heap.size w w' := by
 obtain ⟨a9, c9, h9, -, hn⟩ := hs.shape
 simp only [Value.slice.injEq] at h9
 obtain ⟨-, rfl, -⟩ := h9
 clear a9 c9 hn
 have hn1 : n' <= 1048576 := by rw [Tr.sz_list] at hz; omega
 have HZ : Hid (∀ k, k < n' -> szT 13 (trs (dT (f k))) <= 1048576) := by
  show ∀ k, k < n' -> szT 13 (trs (dT (f k))) <= 1048576
  intro k hk
  rw [Tr.sz_list] at hz
  have := sumN_at (fun k => szT 13 (trs (dT (f k)))) hk
  omega
 have HS : Hid (Rd w 0 (.list 13 n' (fun k => trs (dT (f k)))) (.slice a n' cap) /\ Rd w 0 (.list 13 n' (fun k => trs (dT (f k)))) (.slice a' n' cap')) := ⟨hs, hs'⟩
 clear hs hs' hz
 go_enter Try.func62, Try.ntmps62
 go_wp2
 go_loopw [5] (fun i wr => ∃ z : Nat, z <= n' /\ i = .int .i64 z /\ Below w.heap.size w wr) (fun i _ => n' - (intOf i).toNat)
 case atStart => exact ⟨0, Nat.zero_le _, rfl, Below.refl _ _⟩
 case round =>
  obtain ⟨k, hk, rfl, hbl⟩ := hrel
  by_cases hlt : k < n'
  ·have hi : (k : Int) < (n' : Int) := by omega
   obtain ⟨b, off, vs, rfl, _, hb0, hlen, hr, hrd⟩ := (HS.out.1.below hbl).at hlt
   obtain ⟨a1, c1, a2, c2, a3, c3, a4, c4, a5, c5, rfl, r1, r2, r3, r4, r5⟩ := VD.cells hrd hlen
   clear hlen hrd hb0
   obtain ⟨b', off', vs, rfl, _, hb0, hlen, hr', hrd⟩ := (HS.out.2.below hbl).at hlt
   obtain ⟨a1', c1', a2', c2', a3', c3', a4', c4', a5', c5', rfl, r1', r2', r3', r4', r5'⟩ := VD.cells hrd hlen
   clear hlen hrd hb0
   have d09 : wr.cell? ⟨b, off + k * 13, none⟩ = _ := hr 0 _ rfl
   have e09 : wr.cell? ⟨b', off' + k * 13, none⟩ = _ := hr' 0 _ rfl
   have d19 : wr.cell? ⟨b, off + k * 13 + 1, none⟩ = _ := hr 1 _ rfl
   have e19 : wr.cell? ⟨b', off' + k * 13 + 1, none⟩ = _ := hr' 1 _ rfl
   have d29 : wr.cell? ⟨b, off + k * 13 + 2, none⟩ = _ := hr 2 _ rfl
   have e29 : wr.cell? ⟨b', off' + k * 13 + 2, none⟩ = _ := hr' 2 _ rfl
   have d39 : wr.cell? ⟨b, off + k * 13 + 3, none⟩ = _ := hr 3 _ rfl
   have e39 : wr.cell? ⟨b', off' + k * 13 + 3, none⟩ = _ := hr' 3 _ rfl
   have d49 : wr.cell? ⟨b, off + k * 13 + 4, none⟩ = _ := hr 4 _ rfl
   have e49 : wr.cell? ⟨b', off' + k * 13 + 4, none⟩ = _ := hr' 4 _ rfl
   have d59 : wr.cell? ⟨b, off + k * 13 + 5, none⟩ = _ := hr 5 _ rfl
   have e59 : wr.cell? ⟨b', off' + k * 13 + 5, none⟩ = _ := hr' 5 _ rfl
   have d69 : wr.cell? ⟨b, off + k * 13 + 6, none⟩ = _ := hr 6 _ rfl
   have e69 : wr.cell? ⟨b', off' + k * 13 + 6, none⟩ = _ := hr' 6 _ rfl
   have d79 : wr.cell? ⟨b, off + k * 13 + 7, none⟩ = _ := hr 7 _ rfl
   have e79 : wr.cell? ⟨b', off' + k * 13 + 7, none⟩ = _ := hr' 7 _ rfl
   have d89 : wr.cell? ⟨b, off + k * 13 + 8, none⟩ = _ := hr 8 _ rfl
   have e89 : wr.cell? ⟨b', off' + k * 13 + 8, none⟩ = _ := hr' 8 _ rfl
   have d99 : wr.cell? ⟨b, off + k * 13 + 9, none⟩ = _ := hr 9 _ rfl
   have e99 : wr.cell? ⟨b', off' + k * 13 + 9, none⟩ = _ := hr' 9 _ rfl
   have d109 : wr.cell? ⟨b, off + k * 13 + 10, none⟩ = _ := hr 10 _ rfl
   have e109 : wr.cell? ⟨b', off' + k * 13 + 10, none⟩ = _ := hr' 10 _ rfl
   have d119 : wr.cell? ⟨b, off + k * 13 + 11, none⟩ = _ := hr 11 _ rfl
   have e119 : wr.cell? ⟨b', off' + k * 13 + 11, none⟩ = _ := hr' 11 _ rfl
   have d129 : wr.cell? ⟨b, off + k * 13 + 12, none⟩ = _ := hr 12 _ rfl
   have e129 : wr.cell? ⟨b', off' + k * 13 + 12, none⟩ = _ := hr' 12 _ rfl
   have HK : Hid (Below w.heap.size w wr /\ szT 13 (trs (dT (f k))) <= 1048576 /\ Rd wr 0 (intsT (f k).q.ws) (.slice a1 ((f k).q.ws.length) c1) /\ Rd wr 0 (boolsT (f k).q.bs) (.slice a2 ((f k).q.bs.length) c2) /\ Rd wr 0 (.list 8 (f k).np (fun i => trs (pT ((f k).pt i)))) (.slice a3 ((f k).np) c3) /\ Rd wr 0 (boolsT (f k).hs) (.slice a4 ((f k).hs.length) c4) /\ Rd wr 0 (.list 6 (f k).nt (fun i => trs (aT ((f k).tl i)))) (.slice a5 ((f k).nt) c5) /\ Rd wr 0 (intsT (f k).q.ws) (.slice a1' ((f k).q.ws.length) c1') /\ Rd wr 0 (boolsT (f k).q.bs) (.slice a2' ((f k).q.bs.length) c2') /\ Rd wr 0 (.list 8 (f k).np (fun i => trs (pT ((f k).pt i)))) (.slice a3' ((f k).np) c3') /\ Rd wr 0 (boolsT (f k).hs) (.slice a4' ((f k).hs.length) c4') /\ Rd wr 0 (.list 6 (f k).nt (fun i => trs (aT ((f k).tl i)))) (.slice a5' ((f k).nt) c5')) := ⟨hbl, HZ.out k hlt, r1, r2, r3, r4, r5, r1', r2', r3', r4', r5'⟩
   clear r1 r2 r3 r4 r5 r1' r2' r3' r4' r5' hr hr' hbl
   go_wp2_with fail
   go_region_with (go_at_call 83; refine (eqPend_t (f k) a1 ((f k).q.ws.length) c1 a2 ((f k).q.bs.length) c2 a3 ((f k).np) c3 a4 ((f k).hs.length) c4 a5 ((f k).nt) c5 a1' c1' a2' c2' a3' c3' a4' c4' a5' c5' _ (HK.out.2.2.1.below (by first | exact Below.refl _ _ | exact (Below.refl _ _).drew | exact (Below.refl _ _).drew.drew)) (HK.out.2.2.2.1.below (by first | exact Below.refl _ _ | exact (Below.refl _ _).drew | exact (Below.refl _ _).drew.drew)) (HK.out.2.2.2.2.1.below (by first | exact Below.refl _ _ | exact (Below.refl _ _).drew | exact (Below.refl _ _).drew.drew)) (HK.out.2.2.2.2.2.1.below (by first | exact Below.refl _ _ | exact (Below.refl _ _).drew | exact (Below.refl _ _).drew.drew)) (HK.out.2.2.2.2.2.2.1.below (by first | exact Below.refl _ _ | exact (Below.refl _ _).drew | exact (Below.refl _ _).drew.drew)) (HK.out.2.2.2.2.2.2.2.1.below (by first | exact Below.refl _ _ | exact (Below.refl _ _).drew | exact (Below.refl _ _).drew.drew)) (HK.out.2.2.2.2.2.2.2.2.1.below (by first | exact Below.refl _ _ | exact (Below.refl _ _).drew | exact (Below.refl _ _).drew.drew)) (HK.out.2.2.2.2.2.2.2.2.2.1.below (by first | exact Below.refl _ _ | exact (Below.refl _ _).drew | exact (Below.refl _ _).drew.drew)) (HK.out.2.2.2.2.2.2.2.2.2.2.1.below (by first | exact Below.refl _ _ | exact (Below.refl _ _).drew | exact (Below.refl _ _).drew.drew)) (HK.out.2.2.2.2.2.2.2.2.2.2.2.below (by first | exact Below.refl _ _ | exact (Below.refl _ _).drew | exact (Below.refl _ _).drew.drew)) HK.out.2.1).mono ?_; rintro e w1 ⟨rfl, b1'⟩; have b1 : Below wr.heap.size wr w1 := bel_nx (by first | exact Below.refl _ _ | exact (Below.refl _ _).drew | exact (Below.refl _ _).drew.drew) b1'; clear b1')
   all_goals (
    have B1 := bel_nx HK.out.1 b1
    clear HK b1 d09 e09 d19 e19 d29 e29 d39 e39 d49 e49 d59 e59 d69 e69 d79 e79 d89 e89 d99 e99 d109 e109 d119 e119 d129 e129
    go_wp2
    go_roundw
    case rel => exact ⟨k + 1, by omega, by go_num, B1⟩
    case measure => simp [intOf]; omega)
  have hi : ¬ (k : Int) < (n' : Int) := by omega
  go_wp2
  go_ret
  exact ⟨rfl, hbl⟩
theorem eqTable_t (X : VT) (a1 : Option Addr) (l1 c1 : Nat) (a1' : Option Addr) (c1' : Nat) (w : World) (r1 : Rd w 0 (.list 13 X.m (fun i => trs (dT (X.f i)))) (.slice a1 l1 c1)) (r1' : Rd w 0 (.list 13 X.m (fun i => trs (dT (X.f i)))) (.slice a1' l1 c1')) (hz : szT 2 (trs (tT X)) <= 1048576) :
 Calls Try.prog 39 #[.agg (tL X a1 l1 c1).toArray, .agg (tL X a1' l1 c1').toArray] w fun e w' => e = .returned (.bool true) /\ Below w.heap.size w w' := by
 obtain ⟨W, hW⟩ : ∃ W, W = (w.alloc (.cells (tL X a1 l1 c1).toArray 44)).alloc (.cells (tL X a1' l1 c1').toArray 44) := ⟨_, rfl⟩
 have HZ : Hid ((Tr.list 13 X.m (fun i => trs (dT (X.f i)))).sz <= 1048576) := by
  rw [szT_t] at hz
  show (Tr.list 13 X.m (fun i => trs (dT (X.f i)))).sz <= 1048576
  try simp only [szT_q, szT_a, szT_p, szT_d, szT_t, true_and]
  omega
 have HR : Hid (Rd w 0 (.list 13 X.m (fun i => trs (dT (X.f i)))) (.slice a1 l1 c1) /\ Rd w 0 (.list 13 X.m (fun i => trs (dT (X.f i)))) (.slice a1' l1 c1')) := ⟨r1, r1'⟩
 have G0 : Hid (Below w.heap.size w W /\ Blk W w.heap.size 44 (tL X a1 l1 c1).toArray /\ Blk W (w.heap.size + 1) 44 (tL X a1' l1 c1').toArray) := ⟨by rw [hW]; exact bel_nx (bel_alloc _ _) (bel_alloc _ _), by rw [hW]; exact (Blk.new w _ _).below (bel_alloc _ _), by rw [hW]; have := Blk.new (w.alloc (.cells (tL X a1 l1 c1).toArray 44)) (tL X a1' l1 c1').toArray 44; simpa using this⟩
 clear hz r1 r1'
 go_enter Try.func39, Try.ntmps39
 go_upto_region 1 with fail
 rw [<- hW]
 clear hW
 obtain ⟨⟨y0, y1⟩, yf⟩ := G0.out.2.1.tc2
 obtain ⟨⟨z0, z1⟩, zf⟩ := G0.out.2.2.tc2
 clear yf zf
 go_wp2_with fail
 refine (eqPendS_t X.m X.f a1 l1 c1 a1' c1' _ (HR.out.1.below G0.out.1) (HR.out.2.below G0.out.1) HZ.out).mono ?_
 rintro e w1 ⟨rfl, hb1⟩
 have G1 : Hid (Below w.heap.size w w1 /\ Blk w1 w.heap.size 44 (tL X a1 l1 c1).toArray /\ Blk w1 (w.heap.size + 1) 44 (tL X a1' l1 c1').toArray) := ⟨bel_nx G0.out.1 hb1, G0.out.2.1.below hb1, G0.out.2.2.below hb1⟩
 clear hb1 y0 y1 z0 z1
 go_wp2
 go_ret
 exact ⟨rfl, G1.out.1⟩
end Go.Proofs.Ytplaoagcedgdfaa
namespace Go.Proofs.Ytplaoagcedgdfaa
open Go.RowKit Go.Joins
inductive Sk where
 | leaf
 | row (g off s n : Nat) (K : Nat -> Nat -> Sk)
def Sk.bl : Sk -> Nat -> Prop
 | .leaf, _ => False
 | .row g _ s n K, b => b = g \/ ∃ k j, k < n /\ j < s /\ (K k j).bl b
def Sk.ok : Sk -> Prop
 | .leaf => True
 | .row g _ s n K => (∀ k j, k < n -> j < s -> (K k j).ok /\ ¬ (K k j).bl g) /\ ∀ k j k' j', k < n -> j < s -> k' < n -> j' < s -> (k ≠ k' \/ j ≠ j') -> ∀ b, (K k j).bl b -> ¬ (K k' j').bl b
def Fit (w : World) : Tr -> Sk -> Value -> Prop
 | .leaf u, K, v => K = .leaf /\ v = u
 | .list s n f, .leaf, v => n = 0 /\ ∃ a c, v = .slice a 0 c
 | .list s n f, .row g off s' n' K, v => s' = s /\ n' = n /\ ∃ c, v = .slice (some ⟨g, off, none⟩) n c /\ n <= c /\ n <= maxLen /\ g < w.heap.size /\ (∀ j, w.frozen? ⟨g, j, none⟩ = false) /\
  ∀ k j, k < n -> j < s -> ∃ u, w.cell? ⟨g, off + k * s + j, none⟩ = some u /\ Fit w (f k j) (K k j) u
structure Cg (w w' : World) (S : Nat -> Prop) : Prop where
 os : w'.os = w.os
 tape : w'.tape = w.tape
 output : w'.output = w.output
 size : w.heap.size <= w'.heap.size
 block : ∀ g, g < w.heap.size -> ¬ S g -> w'.heap[g]? = w.heap[g]?
def atZ (z : Nat) (L : List Tr) (T0 : Nat -> Nat -> Tr) : Nat -> Nat -> Tr := fun i => if i = z then trs L else T0 i
end Go.Proofs.Ytplaoagcedgdfaa
namespace Go.Proofs.Ytplaoagcedgdfaa
open Go.RowKit Go.Joins
def ctVQ (X : VQ) : Nat := 1 + 1 + 1 + X.ws.length + X.bs.length + 1
def nmVQ (k : Nat) (X : VQ) : VQ := ⟨((k : Nat) : Int), ((k + 1 : Nat) : Int), ((k + 1 + 1 : Nat) : Int), marksI (k + 1 + 1 + 1) X.ws.length, marksB (k + 1 + 1 + 1 + X.ws.length) X.bs.length, ((k + 1 + 1 + 1 + X.ws.length + X.bs.length : Nat) : Int)⟩
def ctVA (X : VA) : Nat := 1 + 1 + 1 + 1 + X.ws.length + X.bs.length
def nmVA (k : Nat) (X : VA) : VA := ⟨((k : Nat) : Int), ((k + 1 : Nat) : Int), ((k + 1 + 1 : Nat) : Int), ((k + 1 + 1 + 1 : Nat) : Int), marksI (k + 1 + 1 + 1 + 1) X.ws.length, marksB (k + 1 + 1 + 1 + 1 + X.ws.length) X.bs.length⟩
def ctVP (X : VP) : Nat := 1 + 1 + ctVQ X.q
def nmVP (k : Nat) (X : VP) : VP := ⟨((k : Nat) : Int), ((k + 1 : Nat) : Int), nmVQ (k + 1 + 1) X.q⟩
def ctVD (X : VD) : Nat := 1 + 1 + 1 + 1 + ctVQ X.q + sumN X.np (fun i => ctVP (X.pt i)) + X.hs.length + sumN X.nt (fun i => ctVA (X.tl i))
def nmVD (k : Nat) (X : VD) : VD := ⟨((k : Nat) : Int), ((k + 1 : Nat) : Int), ((k + 1 + 1 : Nat) : Int), ((k + 1 + 1 + 1 : Nat) : Int), nmVQ (k + 1 + 1 + 1 + 1) X.q, X.np, fun i => nmVP (k + 1 + 1 + 1 + 1 + ctVQ X.q + sumN i (fun i => ctVP (X.pt i))) (X.pt i), marksB (k + 1 + 1 + 1 + 1 + ctVQ X.q + sumN X.np (fun i => ctVP (X.pt i))) X.hs.length, X.nt, fun i => nmVA (k + 1 + 1 + 1 + 1 + ctVQ X.q + sumN X.np (fun i => ctVP (X.pt i)) + X.hs.length + sumN i (fun i => ctVA (X.tl i))) (X.tl i)⟩
def ctVT (X : VT) : Nat := 1 + sumN X.m (fun i => ctVD (X.f i))
def nmVT (k : Nat) (X : VT) : VT := ⟨((k : Nat) : Int), X.m, fun i => nmVD (k + 1 + sumN i (fun i => ctVD (X.f i))) (X.f i)⟩
end Go.Proofs.Ytplaoagcedgdfaa
namespace Go.Proofs.Ytplaoagcedgdfaa
open Go.RowKit Go.Joins
def OwnS (w : World) (lo : Nat) (t : Tr) (v : Value) : Prop := ∃ K, Fit w t K v /\ K.ok /\ ∀ b, K.bl b -> lo <= b
def Own1 (w : World) (lo hi : Nat) (ts : List Tr) (vs : List Value) : Prop :=
 ∃ K : Nat -> Sk, vs.length = ts.length /\ (∀ i v, vs[i]? = some v -> Fit w (trs ts i) (K i) v) /\ (∀ i, i < ts.length -> (K i).ok /\ ∀ b, (K i).bl b -> lo <= b /\ b < hi) /\ ∀ i i', i < ts.length -> i' < ts.length -> i ≠ i' -> ∀ b, (K i).bl b -> ¬ (K i').bl b
def LsI (w : World) (g : Nat) (t : TypeId) (s n : Nat) (f : Nat -> List Tr) (k : Nat) : Prop :=
 ∃ (F : Nat -> List Value) (β : Nat -> Nat), RowS w g t s n F /\ g < β 0 /\ (∀ j, β j <= β (j + 1)) /\ β k <= w.heap.size /\ ∀ j, j < k -> (F j).length = s /\ Own1 w (β j) (β (j + 1)) (f j) (F j)
end Go.Proofs.Ytplaoagcedgdfaa
namespace Go.Proofs.Ytplaoagcedgdfaa
open Go.RowKit Go.Joins
end Go.Proofs.Ytplaoagcedgdfaa
namespace Go.Proofs.Ytplaoagcedgdfaa
open Go.RowKit Go.Joins
instance inhRuX : Inhabited Ru := ⟨⟨0, 0, 0, 0, 0, 0, 0⟩⟩
def xrT (X : Ru) : List Tr := [.leaf (.int .i64 X.u), .leaf (.int .i64 X.s), .leaf (.int .i64 X.lo), .leaf (.int .i64 X.hi), .leaf (.int .i64 X.p), .leaf (.int .i64 X.t), .leaf (.int .i64 X.sh)]
theorem Ru.cells {w : World} {lo : Nat} {X : Ru} {vs : List Value} (h : RdL w lo (trs (xrT X)) vs) (hl : vs.length = 7) : vs = rul X := by
 match vs, hl with
 | [v0, v1, v2, v3, v4, v5, v6], _ =>
  have e0 : v0 = .int .i64 X.u := RdL.get h (j := 0) rfl rfl
  have e1 : v1 = .int .i64 X.s := RdL.get h (j := 1) rfl rfl
  have e2 : v2 = .int .i64 X.lo := RdL.get h (j := 2) rfl rfl
  have e3 : v3 = .int .i64 X.hi := RdL.get h (j := 3) rfl rfl
  have e4 : v4 = .int .i64 X.p := RdL.get h (j := 4) rfl rfl
  have e5 : v5 = .int .i64 X.t := RdL.get h (j := 5) rfl rfl
  have e6 : v6 = .int .i64 X.sh := RdL.get h (j := 6) rfl rfl
  subst e0 e1 e2 e3 e4 e5 e6
  rfl
theorem szT_xr (X : Ru) : szT 7 (trs (xrT X)) = 0 := by
 simp [szT, sumN, trs, xrT, Tr.sz_leaf]
theorem sum0 (n : Nat) (g : Nat -> Nat) (h : ∀ k, g k = 0) : sumN n g = 0 := by
 induction n with
 | zero => rfl
 | succ n ih => simp only [sumN, ih, h]
theorem Rd.slu {w : World} {lo n m c : Nat} {f : Nat -> Ru} {a : Option Addr} (h : Rd w lo (.list 7 n (fun i => trs (xrT (f i)))) (.slice a m c)) : m = n /\ SlU w a n f := by
 obtain ⟨a', c', h1, h2, h3, h4⟩ := h
 simp only [Value.slice.injEq] at h1
 obtain ⟨rfl, rfl, rfl⟩ := h1
 refine ⟨rfl, ?_⟩
 rcases h4 with h4 | ⟨g, off, F, ha, hlo, hgs, hc⟩
 ·exact .inl h4
 refine .inr ⟨g, off, ha, hgs, fun k hk j hj => ?_⟩
 obtain ⟨q1, q2⟩ := hc k hk
 have e : F k = rul (f k) := Ru.cells (w := w) (lo := lo) (fun j v hv => (q2 j v hv).2) q1
 obtain ⟨v, hv⟩ : ∃ v, (F k)[j]? = some v := ⟨(F k)[j]'(by omega), by simp⟩
 show _ = (rul (f k))[j]?
 rw [(q2 j v hv).1, <- e, hv]
structure VC where
 wt : Int
 tr : Int
 n : Nat
 f : Nat -> Ru
instance : Inhabited VC := ⟨⟨0, 0, 0, fun _ => default⟩⟩
def xcT (X : VC) : List Tr := [.leaf (.int .i64 X.wt), .leaf (.int .i64 X.tr), .list 7 X.n (fun i => trs (xrT (X.f i)))]
abbrev xcL (X : VC) (a1 : Option Addr) (l1 c1 : Nat) : List Value := [.int .i64 X.wt, .int .i64 X.tr, .slice a1 l1 c1]
theorem szT_xc (X : VC) : szT 3 (trs (xcT X)) = (Tr.list 7 X.n (fun i => trs (xrT (X.f i)))).sz := by
 simp [szT, sumN, trs, xcT, Tr.sz_leaf, intsT_sz, boolsT_sz]
structure VL where
 id : Int
 pa : Int
 un : Int
 q : VQ
instance : Inhabited VL := ⟨⟨0, 0, 0, default⟩⟩
def xlT (X : VL) : List Tr := [.leaf (.int .i64 X.id), .leaf (.int .i64 X.pa), .leaf (.int .i64 X.un), .leaf (.int .i64 X.q.kd), .leaf (.int .i64 X.q.pl), .leaf (.int .i64 X.q.n), intsT X.q.ws, boolsT X.q.bs, .leaf (.int .i64 X.q.wa)]
abbrev xlL (X : VL) (a1 : Option Addr) (l1 c1 : Nat) (a2 : Option Addr) (l2 c2 : Nat) : List Value := [.int .i64 X.id, .int .i64 X.pa, .int .i64 X.un, .int .i64 X.q.kd, .int .i64 X.q.pl, .int .i64 X.q.n, .slice a1 l1 c1, .slice a2 l2 c2, .int .i64 X.q.wa]
theorem VL.cells {w : World} {lo : Nat} {X : VL} {vs : List Value} (h : RdL w lo (trs (xlT X)) vs) (hl : vs.length = 9) : ∃ a1 c1 a2 c2, vs = xlL X a1 (X.q.ws.length) c1 a2 (X.q.bs.length) c2 /\ Rd w lo (intsT X.q.ws) (.slice a1 (X.q.ws.length) c1) /\ Rd w lo (boolsT X.q.bs) (.slice a2 (X.q.bs.length) c2) := by
 match vs, hl with
 | [v0, v1, v2, v3, v4, v5, v6, v7, v8], _ =>
  have e0 : v0 = .int .i64 X.id := RdL.get h (j := 0) rfl rfl
  have e1 : v1 = .int .i64 X.pa := RdL.get h (j := 1) rfl rfl
  have e2 : v2 = .int .i64 X.un := RdL.get h (j := 2) rfl rfl
  have e3 : v3 = .int .i64 X.q.kd := RdL.get h (j := 3) rfl rfl
  have e4 : v4 = .int .i64 X.q.pl := RdL.get h (j := 4) rfl rfl
  have e5 : v5 = .int .i64 X.q.n := RdL.get h (j := 5) rfl rfl
  have r1 : Rd w lo (intsT X.q.ws) v6 := RdL.get h (j := 6) rfl rfl
  obtain ⟨a1, c1, e6, _⟩ := r1.shape
  have r2 : Rd w lo (boolsT X.q.bs) v7 := RdL.get h (j := 7) rfl rfl
  obtain ⟨a2, c2, e7, _⟩ := r2.shape
  have e8 : v8 = .int .i64 X.q.wa := RdL.get h (j := 8) rfl rfl
  subst e0 e1 e2 e3 e4 e5 e6 e7 e8
  exact ⟨a1, c1, a2, c2, rfl, r1, r2⟩
theorem VL.back {w : World} {lo : Nat} {X : VL} {a1 : Option Addr} {l1 c1 : Nat} {a2 : Option Addr} {l2 c2 : Nat} (r1 : Rd w lo (intsT X.q.ws) (.slice a1 l1 c1)) (r2 : Rd w lo (boolsT X.q.bs) (.slice a2 l2 c2)) : RdL w lo (trs (xlT X)) (xlL X a1 l1 c1 a2 l2 c2) := by
 refine RdL.mk (fun j v t hv ht => ?_) (by simp [xlT])
 match j, hv, ht with
 | 0, hv, ht =>
  obtain rfl := Option.some.inj (show some _ = some v from hv)
  obtain rfl := Option.some.inj (show some _ = some t from ht)
  exact rfl
 | 1, hv, ht =>
  obtain rfl := Option.some.inj (show some _ = some v from hv)
  obtain rfl := Option.some.inj (show some _ = some t from ht)
  exact rfl
 | 2, hv, ht =>
  obtain rfl := Option.some.inj (show some _ = some v from hv)
  obtain rfl := Option.some.inj (show some _ = some t from ht)
  exact rfl
 | 3, hv, ht =>
  obtain rfl := Option.some.inj (show some _ = some v from hv)
  obtain rfl := Option.some.inj (show some _ = some t from ht)
  exact rfl
 | 4, hv, ht =>
  obtain rfl := Option.some.inj (show some _ = some v from hv)
  obtain rfl := Option.some.inj (show some _ = some t from ht)
  exact rfl
 | 5, hv, ht =>
  obtain rfl := Option.some.inj (show some _ = some v from hv)
  obtain rfl := Option.some.inj (show some _ = some t from ht)
  exact rfl
 | 6, hv, ht =>
  obtain rfl := Option.some.inj (show some _ = some v from hv)
  obtain rfl := Option.some.inj (show some _ = some t from ht)
  exact r1
 | 7, hv, ht =>
  obtain rfl := Option.some.inj (show some _ = some v from hv)
  obtain rfl := Option.some.inj (show some _ = some t from ht)
  exact r2
 | 8, hv, ht =>
  obtain rfl := Option.some.inj (show some _ = some v from hv)
  obtain rfl := Option.some.inj (show some _ = some t from ht)
  exact rfl
 | j + 9, hv, ht => simp at hv
theorem szT_xl (X : VL) : szT 9 (trs (xlT X)) = X.q.ws.length + X.q.bs.length := by
 simp [szT, sumN, trs, xlT, Tr.sz_leaf, intsT_sz, boolsT_sz]
structure VN where
 nq : Nat
 qf : Nat -> VL
 bz : Bool
 c : VL
 nu : Int
 du : Int
 le : Int
 nx : Int
 wt : Int
 tr : Int
instance : Inhabited VN := ⟨⟨0, fun _ => default, false, default, 0, 0, 0, 0, 0, 0⟩⟩
def xnT (X : VN) : List Tr := [.list 9 X.nq (fun i => trs (xlT (X.qf i))), .leaf (.bool X.bz), .leaf (.int .i64 X.c.id), .leaf (.int .i64 X.c.pa), .leaf (.int .i64 X.c.un), .leaf (.int .i64 X.c.q.kd), .leaf (.int .i64 X.c.q.pl), .leaf (.int .i64 X.c.q.n), intsT X.c.q.ws, boolsT X.c.q.bs, .leaf (.int .i64 X.c.q.wa), .leaf (.int .i64 X.nu), .leaf (.int .i64 X.du), .leaf (.int .i64 X.le), .leaf (.int .i64 X.nx), .leaf (.int .i64 X.wt), .leaf (.int .i64 X.tr)]
abbrev xnL (X : VN) (a1 : Option Addr) (l1 c1 : Nat) (a2 : Option Addr) (l2 c2 : Nat) (a3 : Option Addr) (l3 c3 : Nat) : List Value := [.slice a1 l1 c1, .bool X.bz, .int .i64 X.c.id, .int .i64 X.c.pa, .int .i64 X.c.un, .int .i64 X.c.q.kd, .int .i64 X.c.q.pl, .int .i64 X.c.q.n, .slice a2 l2 c2, .slice a3 l3 c3, .int .i64 X.c.q.wa, .int .i64 X.nu, .int .i64 X.du, .int .i64 X.le, .int .i64 X.nx, .int .i64 X.wt, .int .i64 X.tr]
theorem VN.cells {w : World} {lo : Nat} {X : VN} {vs : List Value} (h : RdL w lo (trs (xnT X)) vs) (hl : vs.length = 17) : ∃ a1 c1 a2 c2 a3 c3, vs = xnL X a1 (X.nq) c1 a2 (X.c.q.ws.length) c2 a3 (X.c.q.bs.length) c3 /\ Rd w lo (.list 9 X.nq (fun i => trs (xlT (X.qf i)))) (.slice a1 (X.nq) c1) /\ Rd w lo (intsT X.c.q.ws) (.slice a2 (X.c.q.ws.length) c2) /\ Rd w lo (boolsT X.c.q.bs) (.slice a3 (X.c.q.bs.length) c3) := by
 match vs, hl with
 | [v0, v1, v2, v3, v4, v5, v6, v7, v8, v9, v10, v11, v12, v13, v14, v15, v16], _ =>
  have r1 : Rd w lo (.list 9 X.nq (fun i => trs (xlT (X.qf i)))) v0 := RdL.get h (j := 0) rfl rfl
  obtain ⟨a1, c1, e0, _⟩ := r1.shape
  have e1 : v1 = .bool X.bz := RdL.get h (j := 1) rfl rfl
  have e2 : v2 = .int .i64 X.c.id := RdL.get h (j := 2) rfl rfl
  have e3 : v3 = .int .i64 X.c.pa := RdL.get h (j := 3) rfl rfl
  have e4 : v4 = .int .i64 X.c.un := RdL.get h (j := 4) rfl rfl
  have e5 : v5 = .int .i64 X.c.q.kd := RdL.get h (j := 5) rfl rfl
  have e6 : v6 = .int .i64 X.c.q.pl := RdL.get h (j := 6) rfl rfl
  have e7 : v7 = .int .i64 X.c.q.n := RdL.get h (j := 7) rfl rfl
  have r2 : Rd w lo (intsT X.c.q.ws) v8 := RdL.get h (j := 8) rfl rfl
  obtain ⟨a2, c2, e8, _⟩ := r2.shape
  have r3 : Rd w lo (boolsT X.c.q.bs) v9 := RdL.get h (j := 9) rfl rfl
  obtain ⟨a3, c3, e9, _⟩ := r3.shape
  have e10 : v10 = .int .i64 X.c.q.wa := RdL.get h (j := 10) rfl rfl
  have e11 : v11 = .int .i64 X.nu := RdL.get h (j := 11) rfl rfl
  have e12 : v12 = .int .i64 X.du := RdL.get h (j := 12) rfl rfl
  have e13 : v13 = .int .i64 X.le := RdL.get h (j := 13) rfl rfl
  have e14 : v14 = .int .i64 X.nx := RdL.get h (j := 14) rfl rfl
  have e15 : v15 = .int .i64 X.wt := RdL.get h (j := 15) rfl rfl
  have e16 : v16 = .int .i64 X.tr := RdL.get h (j := 16) rfl rfl
  subst e0 e1 e2 e3 e4 e5 e6 e7 e8 e9 e10 e11 e12 e13 e14 e15 e16
  exact ⟨a1, c1, a2, c2, a3, c3, rfl, r1, r2, r3⟩
theorem VN.back {w : World} {lo : Nat} {X : VN} {a1 : Option Addr} {l1 c1 : Nat} {a2 : Option Addr} {l2 c2 : Nat} {a3 : Option Addr} {l3 c3 : Nat} (r1 : Rd w lo (.list 9 X.nq (fun i => trs (xlT (X.qf i)))) (.slice a1 l1 c1)) (r2 : Rd w lo (intsT X.c.q.ws) (.slice a2 l2 c2)) (r3 : Rd w lo (boolsT X.c.q.bs) (.slice a3 l3 c3)) : RdL w lo (trs (xnT X)) (xnL X a1 l1 c1 a2 l2 c2 a3 l3 c3) := by
 refine RdL.mk (fun j v t hv ht => ?_) (by simp [xnT])
 match j, hv, ht with
 | 0, hv, ht =>
  obtain rfl := Option.some.inj (show some _ = some v from hv)
  obtain rfl := Option.some.inj (show some _ = some t from ht)
  exact r1
 | 1, hv, ht =>
  obtain rfl := Option.some.inj (show some _ = some v from hv)
  obtain rfl := Option.some.inj (show some _ = some t from ht)
  exact rfl
 | 2, hv, ht =>
  obtain rfl := Option.some.inj (show some _ = some v from hv)
  obtain rfl := Option.some.inj (show some _ = some t from ht)
  exact rfl
 | 3, hv, ht =>
  obtain rfl := Option.some.inj (show some _ = some v from hv)
  obtain rfl := Option.some.inj (show some _ = some t from ht)
  exact rfl
 | 4, hv, ht =>
  obtain rfl := Option.some.inj (show some _ = some v from hv)
  obtain rfl := Option.some.inj (show some _ = some t from ht)
  exact rfl
 | 5, hv, ht =>
  obtain rfl := Option.some.inj (show some _ = some v from hv)
  obtain rfl := Option.some.inj (show some _ = some t from ht)
  exact rfl
 | 6, hv, ht =>
  obtain rfl := Option.some.inj (show some _ = some v from hv)
  obtain rfl := Option.some.inj (show some _ = some t from ht)
  exact rfl
 | 7, hv, ht =>
  obtain rfl := Option.some.inj (show some _ = some v from hv)
  obtain rfl := Option.some.inj (show some _ = some t from ht)
  exact rfl
 | 8, hv, ht =>
  obtain rfl := Option.some.inj (show some _ = some v from hv)
  obtain rfl := Option.some.inj (show some _ = some t from ht)
  exact r2
 | 9, hv, ht =>
  obtain rfl := Option.some.inj (show some _ = some v from hv)
  obtain rfl := Option.some.inj (show some _ = some t from ht)
  exact r3
 | 10, hv, ht =>
  obtain rfl := Option.some.inj (show some _ = some v from hv)
  obtain rfl := Option.some.inj (show some _ = some t from ht)
  exact rfl
 | 11, hv, ht =>
  obtain rfl := Option.some.inj (show some _ = some v from hv)
  obtain rfl := Option.some.inj (show some _ = some t from ht)
  exact rfl
 | 12, hv, ht =>
  obtain rfl := Option.some.inj (show some _ = some v from hv)
  obtain rfl := Option.some.inj (show some _ = some t from ht)
  exact rfl
 | 13, hv, ht =>
  obtain rfl := Option.some.inj (show some _ = some v from hv)
  obtain rfl := Option.some.inj (show some _ = some t from ht)
  exact rfl
 | 14, hv, ht =>
  obtain rfl := Option.some.inj (show some _ = some v from hv)
  obtain rfl := Option.some.inj (show some _ = some t from ht)
  exact rfl
 | 15, hv, ht =>
  obtain rfl := Option.some.inj (show some _ = some v from hv)
  obtain rfl := Option.some.inj (show some _ = some t from ht)
  exact rfl
 | 16, hv, ht =>
  obtain rfl := Option.some.inj (show some _ = some v from hv)
  obtain rfl := Option.some.inj (show some _ = some t from ht)
  exact rfl
 | j + 17, hv, ht => simp at hv
theorem szT_xn (X : VN) : szT 17 (trs (xnT X)) = (Tr.list 9 X.nq (fun i => trs (xlT (X.qf i)))).sz + X.c.q.ws.length + X.c.q.bs.length := by
 simp [szT, sumN, trs, xnT, Tr.sz_leaf, intsT_sz, boolsT_sz]
structure VF where
 nw : Int
 set : VC
 op : VT
 nl : Nat
 lf : Nat -> VN
 sk : Int
 re : Int
 fa : Int
 se : Int
instance : Inhabited VF := ⟨⟨0, default, default, 0, fun _ => default, 0, 0, 0, 0⟩⟩
def xfT (X : VF) : List Tr := [.leaf (.int .i64 X.nw), .leaf (.int .i64 X.set.wt), .leaf (.int .i64 X.set.tr), .list 7 X.set.n (fun i => trs (xrT (X.set.f i))), .leaf (.int .i64 X.op.nx), .list 13 X.op.m (fun i => trs (dT (X.op.f i))), .list 17 X.nl (fun i => trs (xnT (X.lf i))), .leaf (.int .i64 X.sk), .leaf (.int .i64 X.re), .leaf (.int .i64 X.fa), .leaf (.int .i64 X.se)]
abbrev xfL (X : VF) (a1 : Option Addr) (l1 c1 : Nat) (a2 : Option Addr) (l2 c2 : Nat) (a3 : Option Addr) (l3 c3 : Nat) : List Value := [.int .i64 X.nw, .int .i64 X.set.wt, .int .i64 X.set.tr, .slice a1 l1 c1, .int .i64 X.op.nx, .slice a2 l2 c2, .slice a3 l3 c3, .int .i64 X.sk, .int .i64 X.re, .int .i64 X.fa, .int .i64 X.se]
theorem szT_xf (X : VF) : szT 11 (trs (xfT X)) = (Tr.list 7 X.set.n (fun i => trs (xrT (X.set.f i)))).sz + (Tr.list 13 X.op.m (fun i => trs (dT (X.op.f i)))).sz + (Tr.list 17 X.nl (fun i => trs (xnT (X.lf i)))).sz := by
 simp [szT, sumN, trs, xfT, Tr.sz_leaf, intsT_sz, boolsT_sz]
end Go.Proofs.Ytplaoagcedgdfaa
