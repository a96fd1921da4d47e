/- Texts that the proof needs, joined: Tr9 MkT OpN RgE. -/
import Derived.Test.YtlhjiiifmfgnoaaGreatV2
import Derived.Test.YtlhjiiifmfgnoaaGreatV20
import Derived.Test.YtlhjiiifmfgnoaaGreatV3
import Derived.Test.YtlhjiiifmfgnoaaGreatV19
import Derived.Test.YtlhjiiifmfgnoaaGreatV18
set_option linter.unusedVariables false
set_option linter.unusedSimpArgs false
set_option maxHeartbeats 4000000
set_option maxRecDepth 20000
namespace Go.Proofs.YtlhjiiifmfgnoaaGreat
open Go.RowKit Go.Joins
theorem eqBoolS_u (ws : List Bool) (a : Option Addr) (l c : Nat) (a' : Option Addr) (c' : Nat) (w : World) (r : Rd w 0 (boolsT ws) (.slice a l c)) (r' : Rd w 0 (boolsT ws) (.slice a' l c')) (hz : ws.length <= 2000000) :
 Calls Tryz.prog 39 #[.slice a l c, .slice a' l c'] w fun e w' => e = .returned (.bool true) /\ Below w.heap.size w w' := by
 obtain ⟨a9, c9, h9, -, hm, hs⟩ := r.bools
 simp only [Value.slice.injEq] at h9
 obtain ⟨rfl, rfl, rfl⟩ := h9
 obtain ⟨a9, c9, h9, -, -, hs'⟩ := r'.bools
 simp only [Value.slice.injEq] at h9
 obtain ⟨rfl, -, rfl⟩ := h9
 exact eqBoolS_ok _ _ _ _ _ _ ws w rfl rfl hs hs' (by omega)
theorem eqReq_u (X : VQ) (a1 : Option Addr) (l1 c1 : Nat) (a2 : Option Addr) (l2 c2 : Nat) (a1' : Option Addr) (c1' : Nat) (a2' : Option Addr) (c2' : Nat) (w : World) (r1 : Rd w 0 (intsT X.ws) (.slice a1 l1 c1)) (r2 : Rd w 0 (boolsT X.bs) (.slice a2 l2 c2)) (r1' : Rd w 0 (intsT X.ws) (.slice a1' l1 c1')) (r2' : Rd w 0 (boolsT X.bs) (.slice a2' l2 c2')) (hz : szT 6 (trs (qT X)) <= 2000000) :
 Calls Tryz.prog 13 #[.agg (qL X a1 l1 c1 a2 l2 c2).toArray, .agg (qL X a1' l1 c1' a2' l2 c2').toArray] w fun e w' => e = .returned (.bool true) /\ Below w.heap.size w w' := by
 rw [szT_q] at hz
 obtain ⟨a9, c9, h9, -, hm1, hs1⟩ := r1.ints
 simp only [Value.slice.injEq] at h9
 obtain ⟨rfl, rfl, rfl⟩ := h9
 obtain ⟨a9, c9, h9, -, hm2, hs2⟩ := r2.bools
 simp only [Value.slice.injEq] at h9
 obtain ⟨rfl, rfl, rfl⟩ := h9
 obtain ⟨a9, c9, h9, -, -, hs1'⟩ := r1'.ints
 simp only [Value.slice.injEq] at h9
 obtain ⟨rfl, -, rfl⟩ := h9
 obtain ⟨a9, c9, h9, -, -, hs2'⟩ := r2'.bools
 simp only [Value.slice.injEq] at h9
 obtain ⟨rfl, -, rfl⟩ := h9
 exact eqReq_true X.kd X.pl X.n X.wa _ _ _ _ _ _ _ _ _ _ _ _ X.ws X.bs w rfl rfl rfl rfl hs1 hs2 hs1' hs2' (by omega) (by omega)
theorem eqResp_u (X : VA) (a1 : Option Addr) (l1 c1 : Nat) (a2 : Option Addr) (l2 c2 : Nat) (a1' : Option Addr) (c1' : Nat) (a2' : Option Addr) (c2' : Nat) (w : World) (r1 : Rd w 0 (intsT X.ws) (.slice a1 l1 c1)) (r2 : Rd w 0 (boolsT X.bs) (.slice a2 l2 c2)) (r1' : Rd w 0 (intsT X.ws) (.slice a1' l1 c1')) (r2' : Rd w 0 (boolsT X.bs) (.slice a2' l2 c2')) (hz : szT 6 (trs (aT X)) <= 2000000) :
 Calls Tryz.prog 110 #[.agg (aL X a1 l1 c1 a2 l2 c2).toArray, .agg (aL X a1' l1 c1' a2' l2 c2').toArray] w fun e w' => e = .returned (.bool true) /\ Below w.heap.size w w' := by
 rw [szT_a] at hz
 obtain ⟨a9, c9, h9, -, hm1, hs1⟩ := r1.ints
 simp only [Value.slice.injEq] at h9
 obtain ⟨rfl, rfl, rfl⟩ := h9
 obtain ⟨a9, c9, h9, -, hm2, hs2⟩ := r2.bools
 simp only [Value.slice.injEq] at h9
 obtain ⟨rfl, rfl, rfl⟩ := h9
 obtain ⟨a9, c9, h9, -, -, hs1'⟩ := r1'.ints
 simp only [Value.slice.injEq] at h9
 obtain ⟨rfl, -, rfl⟩ := h9
 obtain ⟨a9, c9, h9, -, -, hs2'⟩ := r2'.bools
 simp only [Value.slice.injEq] at h9
 obtain ⟨rfl, -, rfl⟩ := h9
 exact eqResp_true X.kd X.fl X.pl X.n _ _ _ _ _ _ _ _ _ _ _ _ X.ws X.bs w rfl rfl rfl rfl hs1 hs2 hs1' hs2' (by omega) (by omega)
theorem eqRespS_u (n : Nat) (f : Nat -> VA) (a : Option Addr) (n' cap : Nat) (a' : Option Addr) (cap' : Nat) (w : World) (hs : Rd w 0 (.list 6 n (fun k => trs (aT (f k)))) (.slice a n' cap)) (hs' : Rd w 0 (.list 6 n (fun k => trs (aT (f k)))) (.slice a' n' cap')) (hz : (Tr.list 6 n (fun k => trs (aT (f k)))).sz <= 2000000) :
 Calls Tryz.prog 86 #[.slice a n' cap, .slice a' n' cap'] w fun e w' => e = .returned (.bool true) /\ Below w.heap.size w w' := by
 obtain ⟨a9, c9, h9, -, hn⟩ := hs.shape
 simp only [Value.slice.injEq] at h9
 obtain ⟨-, rfl, -⟩ := h9
 clear a9 c9 hn
 have hn1 : n' <= 2000000 := by rw [Tr.sz_list] at hz; omega
 have HZ : Hid (∀ k, k < n' -> szT 6 (trs (aT (f k))) <= 2000000) := by
  show ∀ k, k < n' -> szT 6 (trs (aT (f k))) <= 2000000
  intro k hk
  rw [Tr.sz_list] at hz
  have := sumN_at (fun k => szT 6 (trs (aT (f k)))) hk
  omega
 have HS : Hid (Rd w 0 (.list 6 n' (fun k => trs (aT (f k)))) (.slice a n' cap) /\ Rd w 0 (.list 6 n' (fun k => trs (aT (f k)))) (.slice a' n' cap')) := ⟨hs, hs'⟩
 clear hs hs' hz
 go_enter Tryz.func86, Tryz.ntmps86
 go_wp2
 go_loopw [5] (fun i wr => ∃ z : Nat, z <= n' /\ i = .int .i64 z /\ Below w.heap.size w wr) (fun i _ => n' - (intOf i).toNat)
 case atStart => exact ⟨0, Nat.zero_le _, rfl, Below.refl _ _⟩
 case round =>
  obtain ⟨k, hk, rfl, hbl⟩ := hrel
  by_cases hlt : k < n'
  ·have hi : (k : Int) < (n' : Int) := by omega
   obtain ⟨b, off, vs, rfl, _, hb0, hlen, hr, hrd⟩ := (HS.out.1.below hbl).at hlt
   obtain ⟨a1, c1, a2, c2, rfl, r1, r2⟩ := VA.cells hrd hlen
   clear hlen hrd hb0
   obtain ⟨b', off', vs, rfl, _, hb0, hlen, hr', hrd⟩ := (HS.out.2.below hbl).at hlt
   obtain ⟨a1', c1', a2', c2', rfl, r1', r2'⟩ := VA.cells hrd hlen
   clear hlen hrd hb0
   have d09 : wr.cell? ⟨b, off + k * 6, none⟩ = _ := hr 0 _ rfl
   have e09 : wr.cell? ⟨b', off' + k * 6, none⟩ = _ := hr' 0 _ rfl
   have d19 : wr.cell? ⟨b, off + k * 6 + 1, none⟩ = _ := hr 1 _ rfl
   have e19 : wr.cell? ⟨b', off' + k * 6 + 1, none⟩ = _ := hr' 1 _ rfl
   have d29 : wr.cell? ⟨b, off + k * 6 + 2, none⟩ = _ := hr 2 _ rfl
   have e29 : wr.cell? ⟨b', off' + k * 6 + 2, none⟩ = _ := hr' 2 _ rfl
   have d39 : wr.cell? ⟨b, off + k * 6 + 3, none⟩ = _ := hr 3 _ rfl
   have e39 : wr.cell? ⟨b', off' + k * 6 + 3, none⟩ = _ := hr' 3 _ rfl
   have d49 : wr.cell? ⟨b, off + k * 6 + 4, none⟩ = _ := hr 4 _ rfl
   have e49 : wr.cell? ⟨b', off' + k * 6 + 4, none⟩ = _ := hr' 4 _ rfl
   have d59 : wr.cell? ⟨b, off + k * 6 + 5, none⟩ = _ := hr 5 _ rfl
   have e59 : wr.cell? ⟨b', off' + k * 6 + 5, none⟩ = _ := hr' 5 _ rfl
   have HK : Hid (Below w.heap.size w wr /\ szT 6 (trs (aT (f k))) <= 2000000 /\ Rd wr 0 (intsT (f k).ws) (.slice a1 ((f k).ws.length) c1) /\ Rd wr 0 (boolsT (f k).bs) (.slice a2 ((f k).bs.length) c2) /\ Rd wr 0 (intsT (f k).ws) (.slice a1' ((f k).ws.length) c1') /\ Rd wr 0 (boolsT (f k).bs) (.slice a2' ((f k).bs.length) c2')) := ⟨hbl, HZ.out k hlt, r1, r2, r1', r2'⟩
   clear r1 r2 r1' r2' hr hr' hbl
   go_wp2_with fail
   go_region_with (go_at_call 110; refine (eqResp_u (f k) a1 ((f k).ws.length) c1 a2 ((f k).bs.length) c2 a1' c1' a2' c2' _ (HK.out.2.2.1.below (by first | exact Below.refl _ _ | exact (Below.refl _ _).drew | exact (Below.refl _ _).drew.drew)) (HK.out.2.2.2.1.below (by first | exact Below.refl _ _ | exact (Below.refl _ _).drew | exact (Below.refl _ _).drew.drew)) (HK.out.2.2.2.2.1.below (by first | exact Below.refl _ _ | exact (Below.refl _ _).drew | exact (Below.refl _ _).drew.drew)) (HK.out.2.2.2.2.2.below (by first | exact Below.refl _ _ | exact (Below.refl _ _).drew | exact (Below.refl _ _).drew.drew)) HK.out.2.1).mono ?_; rintro e w1 ⟨rfl, b1'⟩; have b1 : Below wr.heap.size wr w1 := bel_nx (by first | exact Below.refl _ _ | exact (Below.refl _ _).drew | exact (Below.refl _ _).drew.drew) b1'; clear b1')
   all_goals (
    have B1 := bel_nx HK.out.1 b1
    clear HK b1 d09 e09 d19 e19 d29 e29 d39 e39 d49 e49 d59 e59
    go_wp2
    go_roundw
    case rel => exact ⟨k + 1, by omega, by go_num, B1⟩
    case measure => simp [intOf]; omega)
  have hi : ¬ (k : Int) < (n' : Int) := by omega
  go_wp2
  go_ret
  exact ⟨rfl, hbl⟩
theorem eqPart_u (X : VP) (a1 : Option Addr) (l1 c1 : Nat) (a2 : Option Addr) (l2 c2 : Nat) (a1' : Option Addr) (c1' : Nat) (a2' : Option Addr) (c2' : Nat) (w : World) (r1 : Rd w 0 (intsT X.q.ws) (.slice a1 l1 c1)) (r2 : Rd w 0 (boolsT X.q.bs) (.slice a2 l2 c2)) (r1' : Rd w 0 (intsT X.q.ws) (.slice a1' l1 c1')) (r2' : Rd w 0 (boolsT X.q.bs) (.slice a2' l2 c2')) (hz : szT 8 (trs (pT X)) <= 2000000) :
 Calls Tryz.prog 40 #[.agg (pL X a1 l1 c1 a2 l2 c2).toArray, .agg (pL X a1' l1 c1' a2' l2 c2').toArray] w fun e w' => e = .returned (.bool true) /\ Below w.heap.size w w' := by
 obtain ⟨W, hW⟩ : ∃ W, W = (w.alloc (.cells (pL X a1 l1 c1 a2 l2 c2).toArray 68)).alloc (.cells (pL X a1' l1 c1' a2' l2 c2').toArray 68) := ⟨_, rfl⟩
 have HZ : Hid (szT 6 (trs (qT X.q)) <= 2000000) := by
  rw [szT_p] at hz
  show szT 6 (trs (qT X.q)) <= 2000000
  try simp only [szT_q, szT_a, szT_p, szT_d, szT_t, true_and]
  omega
 have HR : Hid (Rd w 0 (intsT X.q.ws) (.slice a1 l1 c1) /\ Rd w 0 (boolsT X.q.bs) (.slice a2 l2 c2) /\ Rd w 0 (intsT X.q.ws) (.slice a1' l1 c1') /\ Rd w 0 (boolsT X.q.bs) (.slice a2' l2 c2')) := ⟨r1, r2, r1', r2'⟩
 have G0 : Hid (Below w.heap.size w W /\ Blk W w.heap.size 68 (pL X a1 l1 c1 a2 l2 c2).toArray /\ Blk W (w.heap.size + 1) 68 (pL X a1' l1 c1' a2' l2 c2').toArray) := ⟨by rw [hW]; exact bel_nx (bel_alloc _ _) (bel_alloc _ _), by rw [hW]; exact (Blk.new w _ _).below (bel_alloc _ _), by rw [hW]; have := Blk.new (w.alloc (.cells (pL X a1 l1 c1 a2 l2 c2).toArray 68)) (pL X a1' l1 c1' a2' l2 c2').toArray 68; simpa using this⟩
 clear hz r1 r2 r1' r2'
 go_enter Tryz.func40, Tryz.ntmps40
 go_upto_region 1 with fail
 rw [<- hW]
 clear hW
 obtain ⟨⟨y0, y1, y2, y3, y4, y5, y6, y7⟩, yf⟩ := G0.out.2.1.tc8
 obtain ⟨⟨z0, z1, z2, z3, z4, z5, z6, z7⟩, zf⟩ := G0.out.2.2.tc8
 clear yf zf
 go_wp2_with fail
 refine (eqReq_u X.q a1 l1 c1 a2 l2 c2 a1' c1' a2' c2' _ (HR.out.1.below G0.out.1) (HR.out.2.1.below G0.out.1) (HR.out.2.2.1.below G0.out.1) (HR.out.2.2.2.below G0.out.1) HZ.out).mono ?_
 rintro e w1 ⟨rfl, hb1⟩
 have G1 : Hid (Below w.heap.size w w1 /\ Blk w1 w.heap.size 68 (pL X a1 l1 c1 a2 l2 c2).toArray /\ Blk w1 (w.heap.size + 1) 68 (pL X a1' l1 c1' a2' l2 c2').toArray) := ⟨bel_nx G0.out.1 hb1, G0.out.2.1.below hb1, G0.out.2.2.below hb1⟩
 clear hb1 y0 y1 y2 y3 y4 y5 y6 y7 z0 z1 z2 z3 z4 z5 z6 z7
 go_wp2
 go_ret
 exact ⟨rfl, G1.out.1⟩
theorem eqPartS_u (n : Nat) (f : Nat -> VP) (a : Option Addr) (n' cap : Nat) (a' : Option Addr) (cap' : Nat) (w : World) (hs : Rd w 0 (.list 8 n (fun k => trs (pT (f k)))) (.slice a n' cap)) (hs' : Rd w 0 (.list 8 n (fun k => trs (pT (f k)))) (.slice a' n' cap')) (hz : (Tr.list 8 n (fun k => trs (pT (f k)))).sz <= 2000000) :
 Calls Tryz.prog 14 #[.slice a n' cap, .slice a' n' cap'] w fun e w' => e = .returned (.bool true) /\ Below w.heap.size w w' := by
 obtain ⟨a9, c9, h9, -, hn⟩ := hs.shape
 simp only [Value.slice.injEq] at h9
 obtain ⟨-, rfl, -⟩ := h9
 clear a9 c9 hn
 have hn1 : n' <= 2000000 := by rw [Tr.sz_list] at hz; omega
 have HZ : Hid (∀ k, k < n' -> szT 8 (trs (pT (f k))) <= 2000000) := by
  show ∀ k, k < n' -> szT 8 (trs (pT (f k))) <= 2000000
  intro k hk
  rw [Tr.sz_list] at hz
  have := sumN_at (fun k => szT 8 (trs (pT (f k)))) hk
  omega
 have HS : Hid (Rd w 0 (.list 8 n' (fun k => trs (pT (f k)))) (.slice a n' cap) /\ Rd w 0 (.list 8 n' (fun k => trs (pT (f k)))) (.slice a' n' cap')) := ⟨hs, hs'⟩
 clear hs hs' hz
 go_enter Tryz.func14, Tryz.ntmps14
 go_wp2
 go_loopw [5] (fun i wr => ∃ z : Nat, z <= n' /\ i = .int .i64 z /\ Below w.heap.size w wr) (fun i _ => n' - (intOf i).toNat)
 case atStart => exact ⟨0, Nat.zero_le _, rfl, Below.refl _ _⟩
 case round =>
  obtain ⟨k, hk, rfl, hbl⟩ := hrel
  by_cases hlt : k < n'
  ·have hi : (k : Int) < (n' : Int) := by omega
   obtain ⟨b, off, vs, rfl, _, hb0, hlen, hr, hrd⟩ := (HS.out.1.below hbl).at hlt
   obtain ⟨a1, c1, a2, c2, rfl, r1, r2⟩ := VP.cells hrd hlen
   clear hlen hrd hb0
   obtain ⟨b', off', vs, rfl, _, hb0, hlen, hr', hrd⟩ := (HS.out.2.below hbl).at hlt
   obtain ⟨a1', c1', a2', c2', rfl, r1', r2'⟩ := VP.cells hrd hlen
   clear hlen hrd hb0
   have d09 : wr.cell? ⟨b, off + k * 8, none⟩ = _ := hr 0 _ rfl
   have e09 : wr.cell? ⟨b', off' + k * 8, none⟩ = _ := hr' 0 _ rfl
   have d19 : wr.cell? ⟨b, off + k * 8 + 1, none⟩ = _ := hr 1 _ rfl
   have e19 : wr.cell? ⟨b', off' + k * 8 + 1, none⟩ = _ := hr' 1 _ rfl
   have d29 : wr.cell? ⟨b, off + k * 8 + 2, none⟩ = _ := hr 2 _ rfl
   have e29 : wr.cell? ⟨b', off' + k * 8 + 2, none⟩ = _ := hr' 2 _ rfl
   have d39 : wr.cell? ⟨b, off + k * 8 + 3, none⟩ = _ := hr 3 _ rfl
   have e39 : wr.cell? ⟨b', off' + k * 8 + 3, none⟩ = _ := hr' 3 _ rfl
   have d49 : wr.cell? ⟨b, off + k * 8 + 4, none⟩ = _ := hr 4 _ rfl
   have e49 : wr.cell? ⟨b', off' + k * 8 + 4, none⟩ = _ := hr' 4 _ rfl
   have d59 : wr.cell? ⟨b, off + k * 8 + 5, none⟩ = _ := hr 5 _ rfl
   have e59 : wr.cell? ⟨b', off' + k * 8 + 5, none⟩ = _ := hr' 5 _ rfl
   have d69 : wr.cell? ⟨b, off + k * 8 + 6, none⟩ = _ := hr 6 _ rfl
   have e69 : wr.cell? ⟨b', off' + k * 8 + 6, none⟩ = _ := hr' 6 _ rfl
   have d79 : wr.cell? ⟨b, off + k * 8 + 7, none⟩ = _ := hr 7 _ rfl
   have e79 : wr.cell? ⟨b', off' + k * 8 + 7, none⟩ = _ := hr' 7 _ rfl
   have HK : Hid (Below w.heap.size w wr /\ szT 8 (trs (pT (f k))) <= 2000000 /\ Rd wr 0 (intsT (f k).q.ws) (.slice a1 ((f k).q.ws.length) c1) /\ Rd wr 0 (boolsT (f k).q.bs) (.slice a2 ((f k).q.bs.length) c2) /\ Rd wr 0 (intsT (f k).q.ws) (.slice a1' ((f k).q.ws.length) c1') /\ Rd wr 0 (boolsT (f k).q.bs) (.slice a2' ((f k).q.bs.length) c2')) := ⟨hbl, HZ.out k hlt, r1, r2, r1', r2'⟩
   clear r1 r2 r1' r2' hr hr' hbl
   go_wp2_with fail
   go_region_with (go_at_call 40; refine (eqPart_u (f k) a1 ((f k).q.ws.length) c1 a2 ((f k).q.bs.length) c2 a1' c1' a2' c2' _ (HK.out.2.2.1.below (by first | exact Below.refl _ _ | exact (Below.refl _ _).drew | exact (Below.refl _ _).drew.drew)) (HK.out.2.2.2.1.below (by first | exact Below.refl _ _ | exact (Below.refl _ _).drew | exact (Below.refl _ _).drew.drew)) (HK.out.2.2.2.2.1.below (by first | exact Below.refl _ _ | exact (Below.refl _ _).drew | exact (Below.refl _ _).drew.drew)) (HK.out.2.2.2.2.2.below (by first | exact Below.refl _ _ | exact (Below.refl _ _).drew | exact (Below.refl _ _).drew.drew)) HK.out.2.1).mono ?_; rintro e w1 ⟨rfl, b1'⟩; have b1 : Below wr.heap.size wr w1 := bel_nx (by first | exact Below.refl _ _ | exact (Below.refl _ _).drew | exact (Below.refl _ _).drew.drew) b1'; clear b1')
   all_goals (
    have B1 := bel_nx HK.out.1 b1
    clear HK b1 d09 e09 d19 e19 d29 e29 d39 e39 d49 e49 d59 e59 d69 e69 d79 e79
    go_wp2
    go_roundw
    case rel => exact ⟨k + 1, by omega, by go_num, B1⟩
    case measure => simp [intOf]; omega)
  have hi : ¬ (k : Int) < (n' : Int) := by omega
  go_wp2
  go_ret
  exact ⟨rfl, hbl⟩
theorem eqPend_u (X : VD) (a1 : Option Addr) (l1 c1 : Nat) (a2 : Option Addr) (l2 c2 : Nat) (a3 : Option Addr) (l3 c3 : Nat) (a4 : Option Addr) (l4 c4 : Nat) (a5 : Option Addr) (l5 c5 : Nat) (a1' : Option Addr) (c1' : Nat) (a2' : Option Addr) (c2' : Nat) (a3' : Option Addr) (c3' : Nat) (a4' : Option Addr) (c4' : Nat) (a5' : Option Addr) (c5' : Nat) (w : World) (r1 : Rd w 0 (intsT X.q.ws) (.slice a1 l1 c1)) (r2 : Rd w 0 (boolsT X.q.bs) (.slice a2 l2 c2)) (r3 : Rd w 0 (.list 8 X.np (fun i => trs (pT (X.pt i)))) (.slice a3 l3 c3)) (r4 : Rd w 0 (boolsT X.hs) (.slice a4 l4 c4)) (r5 : Rd w 0 (.list 6 X.nt (fun i => trs (aT (X.tl i)))) (.slice a5 l5 c5)) (r1' : Rd w 0 (intsT X.q.ws) (.slice a1' l1 c1')) (r2' : Rd w 0 (boolsT X.q.bs) (.slice a2' l2 c2')) (r3' : Rd w 0 (.list 8 X.np (fun i => trs (pT (X.pt i)))) (.slice a3' l3 c3')) (r4' : Rd w 0 (boolsT X.hs) (.slice a4' l4 c4')) (r5' : Rd w 0 (.list 6 X.nt (fun i => trs (aT (X.tl i)))) (.slice a5' l5 c5')) (hz : szT 13 (trs (dT X)) <= 2000000) :
 Calls Tryz.prog 64 #[.agg (dL X a1 l1 c1 a2 l2 c2 a3 l3 c3 a4 l4 c4 a5 l5 c5).toArray, .agg (dL X a1' l1 c1' a2' l2 c2' a3' l3 c3' a4' l4 c4' a5' l5 c5').toArray] w fun e w' => e = .returned (.bool true) /\ Below w.heap.size w w' := by
 obtain ⟨W, hW⟩ : ∃ W, W = (w.alloc (.cells (dL X a1 l1 c1 a2 l2 c2 a3 l3 c3 a4 l4 c4 a5 l5 c5).toArray 61)).alloc (.cells (dL X a1' l1 c1' a2' l2 c2' a3' l3 c3' a4' l4 c4' a5' l5 c5').toArray 61) := ⟨_, rfl⟩
 have HZ : Hid (szT 6 (trs (qT X.q)) <= 2000000 /\ (Tr.list 8 X.np (fun i => trs (pT (X.pt i)))).sz <= 2000000 /\ X.hs.length <= 2000000 /\ (Tr.list 6 X.nt (fun i => trs (aT (X.tl i)))).sz <= 2000000) := by
  rw [szT_d] at hz
  show szT 6 (trs (qT X.q)) <= 2000000 /\ (Tr.list 8 X.np (fun i => trs (pT (X.pt i)))).sz <= 2000000 /\ X.hs.length <= 2000000 /\ (Tr.list 6 X.nt (fun i => trs (aT (X.tl i)))).sz <= 2000000
  try simp only [szT_q, szT_a, szT_p, szT_d, szT_t, true_and]
  omega
 have HR : Hid (Rd w 0 (intsT X.q.ws) (.slice a1 l1 c1) /\ Rd w 0 (boolsT X.q.bs) (.slice a2 l2 c2) /\ Rd w 0 (.list 8 X.np (fun i => trs (pT (X.pt i)))) (.slice a3 l3 c3) /\ Rd w 0 (boolsT X.hs) (.slice a4 l4 c4) /\ Rd w 0 (.list 6 X.nt (fun i => trs (aT (X.tl i)))) (.slice a5 l5 c5) /\ Rd w 0 (intsT X.q.ws) (.slice a1' l1 c1') /\ Rd w 0 (boolsT X.q.bs) (.slice a2' l2 c2') /\ Rd w 0 (.list 8 X.np (fun i => trs (pT (X.pt i)))) (.slice a3' l3 c3') /\ Rd w 0 (boolsT X.hs) (.slice a4' l4 c4') /\ Rd w 0 (.list 6 X.nt (fun i => trs (aT (X.tl i)))) (.slice a5' l5 c5')) := ⟨r1, r2, r3, r4, r5, r1', r2', r3', r4', r5'⟩
 have G0 : Hid (Below w.heap.size w W /\ Blk W w.heap.size 61 (dL X a1 l1 c1 a2 l2 c2 a3 l3 c3 a4 l4 c4 a5 l5 c5).toArray /\ Blk W (w.heap.size + 1) 61 (dL X a1' l1 c1' a2' l2 c2' a3' l3 c3' a4' l4 c4' a5' l5 c5').toArray) := ⟨by rw [hW]; exact bel_nx (bel_alloc _ _) (bel_alloc _ _), by rw [hW]; exact (Blk.new w _ _).below (bel_alloc _ _), by rw [hW]; have := Blk.new (w.alloc (.cells (dL X a1 l1 c1 a2 l2 c2 a3 l3 c3 a4 l4 c4 a5 l5 c5).toArray 61)) (dL X a1' l1 c1' a2' l2 c2' a3' l3 c3' a4' l4 c4' a5' l5 c5').toArray 61; simpa using this⟩
 clear hz r1 r2 r3 r4 r5 r1' r2' r3' r4' r5'
 go_enter Tryz.func64, Tryz.ntmps64
 go_upto_region 1 with fail
 rw [<- hW]
 clear hW
 obtain ⟨⟨y0, y1, y2, y3, y4, y5, y6, y7, y8, y9, y10, y11, y12⟩, yf⟩ := G0.out.2.1.tc13
 obtain ⟨⟨z0, z1, z2, z3, z4, z5, z6, z7, z8, z9, z10, z11, z12⟩, zf⟩ := G0.out.2.2.tc13
 clear yf zf
 go_wp2_with fail
 refine (eqReq_u X.q a1 l1 c1 a2 l2 c2 a1' c1' a2' c2' _ (HR.out.1.below G0.out.1) (HR.out.2.1.below G0.out.1) (HR.out.2.2.2.2.2.1.below G0.out.1) (HR.out.2.2.2.2.2.2.1.below G0.out.1) HZ.out.1).mono ?_
 rintro e w1 ⟨rfl, hb1⟩
 have G1 : Hid (Below w.heap.size w w1 /\ Blk w1 w.heap.size 61 (dL X a1 l1 c1 a2 l2 c2 a3 l3 c3 a4 l4 c4 a5 l5 c5).toArray /\ Blk w1 (w.heap.size + 1) 61 (dL X a1' l1 c1' a2' l2 c2' a3' l3 c3' a4' l4 c4' a5' l5 c5').toArray) := ⟨bel_nx G0.out.1 hb1, G0.out.2.1.below hb1, G0.out.2.2.below hb1⟩
 clear hb1 y0 y1 y2 y3 y4 y5 y6 y7 y8 y9 y10 y11 y12 z0 z1 z2 z3 z4 z5 z6 z7 z8 z9 z10 z11 z12
 obtain ⟨⟨y0, y1, y2, y3, y4, y5, y6, y7, y8, y9, y10, y11, y12⟩, yf⟩ := G1.out.2.1.tc13
 obtain ⟨⟨z0, z1, z2, z3, z4, z5, z6, z7, z8, z9, z10, z11, z12⟩, zf⟩ := G1.out.2.2.tc13
 clear yf zf
 go_wp2_with fail
 refine (eqPartS_u X.np X.pt a3 l3 c3 a3' c3' _ (HR.out.2.2.1.below G1.out.1) (HR.out.2.2.2.2.2.2.2.1.below G1.out.1) HZ.out.2.1).mono ?_
 rintro e w2 ⟨rfl, hb2⟩
 have G2 : Hid (Below w.heap.size w w2 /\ Blk w2 w.heap.size 61 (dL X a1 l1 c1 a2 l2 c2 a3 l3 c3 a4 l4 c4 a5 l5 c5).toArray /\ Blk w2 (w.heap.size + 1) 61 (dL X a1' l1 c1' a2' l2 c2' a3' l3 c3' a4' l4 c4' a5' l5 c5').toArray) := ⟨bel_nx G1.out.1 hb2, G1.out.2.1.below hb2, G1.out.2.2.below hb2⟩
 clear hb2 y0 y1 y2 y3 y4 y5 y6 y7 y8 y9 y10 y11 y12 z0 z1 z2 z3 z4 z5 z6 z7 z8 z9 z10 z11 z12
 obtain ⟨⟨y0, y1, y2, y3, y4, y5, y6, y7, y8, y9, y10, y11, y12⟩, yf⟩ := G2.out.2.1.tc13
 obtain ⟨⟨z0, z1, z2, z3, z4, z5, z6, z7, z8, z9, z10, z11, z12⟩, zf⟩ := G2.out.2.2.tc13
 clear yf zf
 go_wp2_with fail
 refine (eqBoolS_u X.hs a4 l4 c4 a4' c4' _ (HR.out.2.2.2.1.below G2.out.1) (HR.out.2.2.2.2.2.2.2.2.1.below G2.out.1) HZ.out.2.2.1).mono ?_
 rintro e w3 ⟨rfl, hb3⟩
 have G3 : Hid (Below w.heap.size w w3 /\ Blk w3 w.heap.size 61 (dL X a1 l1 c1 a2 l2 c2 a3 l3 c3 a4 l4 c4 a5 l5 c5).toArray /\ Blk w3 (w.heap.size + 1) 61 (dL X a1' l1 c1' a2' l2 c2' a3' l3 c3' a4' l4 c4' a5' l5 c5').toArray) := ⟨bel_nx G2.out.1 hb3, G2.out.2.1.below hb3, G2.out.2.2.below hb3⟩
 clear hb3 y0 y1 y2 y3 y4 y5 y6 y7 y8 y9 y10 y11 y12 z0 z1 z2 z3 z4 z5 z6 z7 z8 z9 z10 z11 z12
 obtain ⟨⟨y0, y1, y2, y3, y4, y5, y6, y7, y8, y9, y10, y11, y12⟩, yf⟩ := G3.out.2.1.tc13
 obtain ⟨⟨z0, z1, z2, z3, z4, z5, z6, z7, z8, z9, z10, z11, z12⟩, zf⟩ := G3.out.2.2.tc13
 clear yf zf
 go_wp2_with fail
 refine (eqRespS_u X.nt X.tl a5 l5 c5 a5' c5' _ (HR.out.2.2.2.2.1.below G3.out.1) (HR.out.2.2.2.2.2.2.2.2.2.below G3.out.1) HZ.out.2.2.2).mono ?_
 rintro e w4 ⟨rfl, hb4⟩
 have G4 : Hid (Below w.heap.size w w4 /\ Blk w4 w.heap.size 61 (dL X a1 l1 c1 a2 l2 c2 a3 l3 c3 a4 l4 c4 a5 l5 c5).toArray /\ Blk w4 (w.heap.size + 1) 61 (dL X a1' l1 c1' a2' l2 c2' a3' l3 c3' a4' l4 c4' a5' l5 c5').toArray) := ⟨bel_nx G3.out.1 hb4, G3.out.2.1.below hb4, G3.out.2.2.below hb4⟩
 clear hb4 y0 y1 y2 y3 y4 y5 y6 y7 y8 y9 y10 y11 y12 z0 z1 z2 z3 z4 z5 z6 z7 z8 z9 z10 z11 z12
 go_wp2
 go_ret
 exact ⟨rfl, G4.out.1⟩
theorem eqPendS_u (n : Nat) (f : Nat -> VD) (a : Option Addr) (n' cap : Nat) (a' : Option Addr) (cap' : Nat) (w : World) (hs : Rd w 0 (.list 13 n (fun k => trs (dT (f k)))) (.slice a n' cap)) (hs' : Rd w 0 (.list 13 n (fun k => trs (dT (f k)))) (.slice a' n' cap')) (hz : (Tr.list 13 n (fun k => trs (dT (f k)))).sz <= 2000000) :
 Calls Tryz.prog 37 #[.slice a n' cap, .slice a' n' cap'] w fun e w' => e = .returned (.bool true) /\ Below w.heap.size w w' := by
 obtain ⟨a9, c9, h9, -, hn⟩ := hs.shape
 simp only [Value.slice.injEq] at h9
 obtain ⟨-, rfl, -⟩ := h9
 clear a9 c9 hn
 have hn1 : n' <= 2000000 := by rw [Tr.sz_list] at hz; omega
 have HZ : Hid (∀ k, k < n' -> szT 13 (trs (dT (f k))) <= 2000000) := by
  show ∀ k, k < n' -> szT 13 (trs (dT (f k))) <= 2000000
  intro k hk
  rw [Tr.sz_list] at hz
  have := sumN_at (fun k => szT 13 (trs (dT (f k)))) hk
  omega
 have HS : Hid (Rd w 0 (.list 13 n' (fun k => trs (dT (f k)))) (.slice a n' cap) /\ Rd w 0 (.list 13 n' (fun k => trs (dT (f k)))) (.slice a' n' cap')) := ⟨hs, hs'⟩
 clear hs hs' hz
 go_enter Tryz.func37, Tryz.ntmps37
 go_wp2
 go_loopw [5] (fun i wr => ∃ z : Nat, z <= n' /\ i = .int .i64 z /\ Below w.heap.size w wr) (fun i _ => n' - (intOf i).toNat)
 case atStart => exact ⟨0, Nat.zero_le _, rfl, Below.refl _ _⟩
 case round =>
  obtain ⟨k, hk, rfl, hbl⟩ := hrel
  by_cases hlt : k < n'
  ·have hi : (k : Int) < (n' : Int) := by omega
   obtain ⟨b, off, vs, rfl, _, hb0, hlen, hr, hrd⟩ := (HS.out.1.below hbl).at hlt
   obtain ⟨a1, c1, a2, c2, a3, c3, a4, c4, a5, c5, rfl, r1, r2, r3, r4, r5⟩ := VD.cells hrd hlen
   clear hlen hrd hb0
   obtain ⟨b', off', vs, rfl, _, hb0, hlen, hr', hrd⟩ := (HS.out.2.below hbl).at hlt
   obtain ⟨a1', c1', a2', c2', a3', c3', a4', c4', a5', c5', rfl, r1', r2', r3', r4', r5'⟩ := VD.cells hrd hlen
   clear hlen hrd hb0
   have d09 : wr.cell? ⟨b, off + k * 13, none⟩ = _ := hr 0 _ rfl
   have e09 : wr.cell? ⟨b', off' + k * 13, none⟩ = _ := hr' 0 _ rfl
   have d19 : wr.cell? ⟨b, off + k * 13 + 1, none⟩ = _ := hr 1 _ rfl
   have e19 : wr.cell? ⟨b', off' + k * 13 + 1, none⟩ = _ := hr' 1 _ rfl
   have d29 : wr.cell? ⟨b, off + k * 13 + 2, none⟩ = _ := hr 2 _ rfl
   have e29 : wr.cell? ⟨b', off' + k * 13 + 2, none⟩ = _ := hr' 2 _ rfl
   have d39 : wr.cell? ⟨b, off + k * 13 + 3, none⟩ = _ := hr 3 _ rfl
   have e39 : wr.cell? ⟨b', off' + k * 13 + 3, none⟩ = _ := hr' 3 _ rfl
   have d49 : wr.cell? ⟨b, off + k * 13 + 4, none⟩ = _ := hr 4 _ rfl
   have e49 : wr.cell? ⟨b', off' + k * 13 + 4, none⟩ = _ := hr' 4 _ rfl
   have d59 : wr.cell? ⟨b, off + k * 13 + 5, none⟩ = _ := hr 5 _ rfl
   have e59 : wr.cell? ⟨b', off' + k * 13 + 5, none⟩ = _ := hr' 5 _ rfl
   have d69 : wr.cell? ⟨b, off + k * 13 + 6, none⟩ = _ := hr 6 _ rfl
   have e69 : wr.cell? ⟨b', off' + k * 13 + 6, none⟩ = _ := hr' 6 _ rfl
   have d79 : wr.cell? ⟨b, off + k * 13 + 7, none⟩ = _ := hr 7 _ rfl
   have e79 : wr.cell? ⟨b', off' + k * 13 + 7, none⟩ = _ := hr' 7 _ rfl
   have d89 : wr.cell? ⟨b, off + k * 13 + 8, none⟩ = _ := hr 8 _ rfl
   have e89 : wr.cell? ⟨b', off' + k * 13 + 8, none⟩ = _ := hr' 8 _ rfl
   have d99 : wr.cell? ⟨b, off + k * 13 + 9, none⟩ = _ := hr 9 _ rfl
   have e99 : wr.cell? ⟨b', off' + k * 13 + 9, none⟩ = _ := hr' 9 _ rfl
   have d109 : wr.cell? ⟨b, off + k * 13 + 10, none⟩ = _ := hr 10 _ rfl
   have e109 : wr.cell? ⟨b', off' + k * 13 + 10, none⟩ = _ := hr' 10 _ rfl
   have d119 : wr.cell? ⟨b, off + k * 13 + 11, none⟩ = _ := hr 11 _ rfl
   have e119 : wr.cell? ⟨b', off' + k * 13 + 11, none⟩ = _ := hr' 11 _ rfl
   have d129 : wr.cell? ⟨b, off + k * 13 + 12, none⟩ = _ := hr 12 _ rfl
   have e129 : wr.cell? ⟨b', off' + k * 13 + 12, none⟩ = _ := hr' 12 _ rfl
   have HK : Hid (Below w.heap.size w wr /\ szT 13 (trs (dT (f k))) <= 2000000 /\ Rd wr 0 (intsT (f k).q.ws) (.slice a1 ((f k).q.ws.length) c1) /\ Rd wr 0 (boolsT (f k).q.bs) (.slice a2 ((f k).q.bs.length) c2) /\ Rd wr 0 (.list 8 (f k).np (fun i => trs (pT ((f k).pt i)))) (.slice a3 ((f k).np) c3) /\ Rd wr 0 (boolsT (f k).hs) (.slice a4 ((f k).hs.length) c4) /\ Rd wr 0 (.list 6 (f k).nt (fun i => trs (aT ((f k).tl i)))) (.slice a5 ((f k).nt) c5) /\ Rd wr 0 (intsT (f k).q.ws) (.slice a1' ((f k).q.ws.length) c1') /\ Rd wr 0 (boolsT (f k).q.bs) (.slice a2' ((f k).q.bs.length) c2') /\ Rd wr 0 (.list 8 (f k).np (fun i => trs (pT ((f k).pt i)))) (.slice a3' ((f k).np) c3') /\ Rd wr 0 (boolsT (f k).hs) (.slice a4' ((f k).hs.length) c4') /\ Rd wr 0 (.list 6 (f k).nt (fun i => trs (aT ((f k).tl i)))) (.slice a5' ((f k).nt) c5')) := ⟨hbl, HZ.out k hlt, r1, r2, r3, r4, r5, r1', r2', r3', r4', r5'⟩
   clear r1 r2 r3 r4 r5 r1' r2' r3' r4' r5' hr hr' hbl
   go_wp2_with fail
   go_region_with (go_at_call 64; refine (eqPend_u (f k) a1 ((f k).q.ws.length) c1 a2 ((f k).q.bs.length) c2 a3 ((f k).np) c3 a4 ((f k).hs.length) c4 a5 ((f k).nt) c5 a1' c1' a2' c2' a3' c3' a4' c4' a5' c5' _ (HK.out.2.2.1.below (by first | exact Below.refl _ _ | exact (Below.refl _ _).drew | exact (Below.refl _ _).drew.drew)) (HK.out.2.2.2.1.below (by first | exact Below.refl _ _ | exact (Below.refl _ _).drew | exact (Below.refl _ _).drew.drew)) (HK.out.2.2.2.2.1.below (by first | exact Below.refl _ _ | exact (Below.refl _ _).drew | exact (Below.refl _ _).drew.drew)) (HK.out.2.2.2.2.2.1.below (by first | exact Below.refl _ _ | exact (Below.refl _ _).drew | exact (Below.refl _ _).drew.drew)) (HK.out.2.2.2.2.2.2.1.below (by first | exact Below.refl _ _ | exact (Below.refl _ _).drew | exact (Below.refl _ _).drew.drew)) (HK.out.2.2.2.2.2.2.2.1.below (by first | exact Below.refl _ _ | exact (Below.refl _ _).drew | exact (Below.refl _ _).drew.drew)) (HK.out.2.2.2.2.2.2.2.2.1.below (by first | exact Below.refl _ _ | exact (Below.refl _ _).drew | exact (Below.refl _ _).drew.drew)) (HK.out.2.2.2.2.2.2.2.2.2.1.below (by first | exact Below.refl _ _ | exact (Below.refl _ _).drew | exact (Below.refl _ _).drew.drew)) (HK.out.2.2.2.2.2.2.2.2.2.2.1.below (by first | exact Below.refl _ _ | exact (Below.refl _ _).drew | exact (Below.refl _ _).drew.drew)) (HK.out.2.2.2.2.2.2.2.2.2.2.2.below (by first | exact Below.refl _ _ | exact (Below.refl _ _).drew | exact (Below.refl _ _).drew.drew)) HK.out.2.1).mono ?_; rintro e w1 ⟨rfl, b1'⟩; have b1 : Below wr.heap.size wr w1 := bel_nx (by first | exact Below.refl _ _ | exact (Below.refl _ _).drew | exact (Below.refl _ _).drew.drew) b1'; clear b1')
   all_goals (
    have B1 := bel_nx HK.out.1 b1
    clear HK b1 d09 e09 d19 e19 d29 e29 d39 e39 d49 e49 d59 e59 d69 e69 d79 e79 d89 e89 d99 e99 d109 e109 d119 e119 d129 e129
    go_wp2
    go_roundw
    case rel => exact ⟨k + 1, by omega, by go_num, B1⟩
    case measure => simp [intOf]; omega)
  have hi : ¬ (k : Int) < (n' : Int) := by omega
  go_wp2
  go_ret
  exact ⟨rfl, hbl⟩
theorem eqTable_u (X : VT) (a1 : Option Addr) (l1 c1 : Nat) (a1' : Option Addr) (c1' : Nat) (w : World) (r1 : Rd w 0 (.list 13 X.m (fun i => trs (dT (X.f i)))) (.slice a1 l1 c1)) (r1' : Rd w 0 (.list 13 X.m (fun i => trs (dT (X.f i)))) (.slice a1' l1 c1')) (hz : szT 2 (trs (tT X)) <= 2000000) :
 Calls Tryz.prog 12 #[.agg (tL X a1 l1 c1).toArray, .agg (tL X a1' l1 c1').toArray] w fun e w' => e = .returned (.bool true) /\ Below w.heap.size w w' := by
 obtain ⟨W, hW⟩ : ∃ W, W = (w.alloc (.cells (tL X a1 l1 c1).toArray 35)).alloc (.cells (tL X a1' l1 c1').toArray 35) := ⟨_, rfl⟩
 have HZ : Hid ((Tr.list 13 X.m (fun i => trs (dT (X.f i)))).sz <= 2000000) := by
  rw [szT_t] at hz
  show (Tr.list 13 X.m (fun i => trs (dT (X.f i)))).sz <= 2000000
  try simp only [szT_q, szT_a, szT_p, szT_d, szT_t, true_and]
  omega
 have HR : Hid (Rd w 0 (.list 13 X.m (fun i => trs (dT (X.f i)))) (.slice a1 l1 c1) /\ Rd w 0 (.list 13 X.m (fun i => trs (dT (X.f i)))) (.slice a1' l1 c1')) := ⟨r1, r1'⟩
 have G0 : Hid (Below w.heap.size w W /\ Blk W w.heap.size 35 (tL X a1 l1 c1).toArray /\ Blk W (w.heap.size + 1) 35 (tL X a1' l1 c1').toArray) := ⟨by rw [hW]; exact bel_nx (bel_alloc _ _) (bel_alloc _ _), by rw [hW]; exact (Blk.new w _ _).below (bel_alloc _ _), by rw [hW]; have := Blk.new (w.alloc (.cells (tL X a1 l1 c1).toArray 35)) (tL X a1' l1 c1').toArray 35; simpa using this⟩
 clear hz r1 r1'
 go_enter Tryz.func12, Tryz.ntmps12
 go_upto_region 1 with fail
 rw [<- hW]
 clear hW
 obtain ⟨⟨y0, y1⟩, yf⟩ := G0.out.2.1.tc2
 obtain ⟨⟨z0, z1⟩, zf⟩ := G0.out.2.2.tc2
 clear yf zf
 go_wp2_with fail
 refine (eqPendS_u X.m X.f a1 l1 c1 a1' c1' _ (HR.out.1.below G0.out.1) (HR.out.2.below G0.out.1) HZ.out).mono ?_
 rintro e w1 ⟨rfl, hb1⟩
 have G1 : Hid (Below w.heap.size w w1 /\ Blk w1 w.heap.size 35 (tL X a1 l1 c1).toArray /\ Blk w1 (w.heap.size + 1) 35 (tL X a1' l1 c1').toArray) := ⟨bel_nx G0.out.1 hb1, G0.out.2.1.below hb1, G0.out.2.2.below hb1⟩
 clear hb1 y0 y1 z0 z1
 go_wp2
 go_ret
 exact ⟨rfl, G1.out.1⟩
end Go.Proofs.YtlhjiiifmfgnoaaGreat
namespace Go.Proofs.YtlhjiiifmfgnoaaGreat
open Go.RowKit Go.Joins
theorem Own1.rd0 {w : World} {lo hi : Nat} {ts : List Tr} {vs : List Value} (h : Own1 w lo hi ts vs) (i : Nat) (v : Value) (hv : vs[i]? = some v) : Rd w 0 (trs ts i) v := by
 obtain ⟨K, h1, h2, h3, h4⟩ := h
 exact (h2 i v hv).rd (fun b _ => Nat.zero_le b)
def csVQ (X : VQ) : Nat := X.ws.length + X.bs.length
def nsVQ (k : Nat) (X : VQ) : VQ := ⟨X.kd, X.pl, X.n, marksI (k) X.ws.length, marksB (k + X.ws.length) X.bs.length, X.wa⟩
def csVT (X : VT) : Nat := sumN X.m (fun i => ctVD (X.f i))
def nsVT (k : Nat) (X : VT) : VT := ⟨X.nx, X.m, fun i => nmVD (k + sumN i (fun i => ctVD (X.f i))) (X.f i)⟩
theorem markReq_f (X : VQ) (a1 : Option Addr) (l1 c1 : Nat) (a2 : Option Addr) (l2 c2 : Nat) (s : Nat) (x : Int) (K1 K2 : Sk) (w : World) (hx : x = ((s : Nat) : Int)) (f1 : Fit w (intsT X.ws) K1 (.slice a1 l1 c1)) (f2 : Fit w (boolsT X.bs) K2 (.slice a2 l2 c2)) (o1 : K1.ok) (o2 : K2.ok) (d12 : ∀ b, K1.bl b -> ¬ K2.bl b) (d21 : ∀ b, K2.bl b -> ¬ K1.bl b) (hB : s + csVQ X <= 1125899906842624) :
 Calls Tryz.prog 16 #[.agg (qL X a1 l1 c1 a2 l2 c2).toArray, .int .i64 x] w fun e w' => e = .returned (.int .i64 ((s + csVQ X : Nat) : Int)) /\ Fit w' (intsT (marksI (s) X.ws.length)) K1 (.slice a1 l1 c1) /\ Fit w' (boolsT (marksB (s + X.ws.length) X.bs.length)) K2 (.slice a2 l2 c2) /\ Cg w w' (fun b => K1.bl b \/ K2.bl b) := by
 subst hx
 obtain ⟨W, hW⟩ : ∃ W, W = w.alloc (.cells (qL X a1 l1 c1 a2 l2 c2).toArray 39) := ⟨_, rfl⟩
 have bW : Below w.heap.size w W := by rw [hW]; exact bel_alloc _ _
 have HN : Hid ((∀ b, K1.bl b -> b < w.heap.size) /\ (∀ b, K2.bl b -> b < w.heap.size) /\ True) := ⟨fun b hb => f1.lt hb, fun b hb => f2.lt hb, trivial⟩
 have G0 : Hid (Fit W (intsT X.ws) K1 (.slice a1 l1 c1) /\ Fit W (boolsT X.bs) K2 (.slice a2 l2 c2) /\ Cg w W (fun b => K1.bl b \/ K2.bl b) /\ Blk W w.heap.size 39 (qL X a1 l1 c1 a2 l2 c2).toArray /\ w.heap.size < W.heap.size) := ⟨f1.below bW, f2.below bW, Cg.ofBelow bW, by rw [hW]; exact Blk.new _ _ _, by rw [hW]; simp⟩
 have HC : Hid (csVQ X = X.ws.length + X.bs.length) := rfl
 clear f1 f2 bW
 go_enter Tryz.func16, Tryz.ntmps16
 go_upto_region 1 with fail
 rw [<- hW]
 clear hW
 obtain ⟨⟨y0, y1, y2, y3, y4, y5⟩, yf⟩ := G0.out.2.2.2.1.tc6
 clear yf
 go_wp2_with fail
 refine (markIntS_f X.ws a1 _ c1 (s) _ K1 _ (by first | rfl | (have := HC.out; omega)) G0.out.1 o1 (by have := HC.out; omega)).mono ?_
 rintro e w1 ⟨rfl, m1, cg⟩
 have G1 : Hid (Fit w1 (intsT (marksI (s) X.ws.length)) K1 (.slice a1 l1 c1) /\ Fit w1 (boolsT X.bs) K2 (.slice a2 l2 c2) /\ Cg w w1 (fun b => K1.bl b \/ K2.bl b) /\ Blk w1 w.heap.size 39 (qL X a1 l1 c1 a2 l2 c2).toArray /\ w.heap.size < w1.heap.size) := ⟨m1, G0.out.2.1.cg cg (fun b hb hb9 => d21 b hb hb9), G0.out.2.2.1.trans (cg.mono (fun b hb => by simp [hb])), (cg.block w.heap.size G0.out.2.2.2.2 (fun q => by have h9 := HN.out; first | exact absurd (h9.1 w.heap.size q) (Nat.lt_irrefl _) | (rcases q with q | q <;> first | exact absurd (h9.1 w.heap.size q) (Nat.lt_irrefl _) | exact absurd (h9.2.1 w.heap.size q) (Nat.lt_irrefl _) | exact absurd (h9.2.2.1 w.heap.size q) (Nat.lt_irrefl _)))).trans G0.out.2.2.2.1, Nat.lt_of_lt_of_le G0.out.2.2.2.2 cg.size⟩
 obtain ⟨k1, hk1⟩ : ∃ k1 : Nat, k1 = s + X.ws.length := ⟨_, rfl⟩
 rw [<- hk1]
 have HK1 : Hid (k1 = s + X.ws.length) := hk1
 clear hk1 cg m1 G0 y0 y1 y2 y3 y4 y5
 obtain ⟨⟨y0, y1, y2, y3, y4, y5⟩, yf⟩ := G1.out.2.2.2.1.tc6
 clear yf
 go_wp2_with fail
 refine (markBoolS_f X.bs a2 _ c2 (s + X.ws.length) _ K2 _ (by first | rfl | (have := HC.out; have := HK1.out; omega)) G1.out.2.1 o2 (by have := HC.out; omega)).mono ?_
 rintro e w2 ⟨rfl, m2, cg⟩
 have G2 : Hid (Fit w2 (intsT (marksI (s) X.ws.length)) K1 (.slice a1 l1 c1) /\ Fit w2 (boolsT (marksB (s + X.ws.length) X.bs.length)) K2 (.slice a2 l2 c2) /\ Cg w w2 (fun b => K1.bl b \/ K2.bl b) /\ Blk w2 w.heap.size 39 (qL X a1 l1 c1 a2 l2 c2).toArray /\ w.heap.size < w2.heap.size) := ⟨G1.out.1.cg cg (fun b hb hb9 => d12 b hb hb9), m2, G1.out.2.2.1.trans (cg.mono (fun b hb => by simp [hb])), (cg.block w.heap.size G1.out.2.2.2.2 (fun q => by have h9 := HN.out; first | exact absurd (h9.2.1 w.heap.size q) (Nat.lt_irrefl _) | (rcases q with q | q <;> first | exact absurd (h9.1 w.heap.size q) (Nat.lt_irrefl _) | exact absurd (h9.2.1 w.heap.size q) (Nat.lt_irrefl _) | exact absurd (h9.2.2.1 w.heap.size q) (Nat.lt_irrefl _)))).trans G1.out.2.2.2.1, Nat.lt_of_lt_of_le G1.out.2.2.2.2 cg.size⟩
 obtain ⟨k2, hk2⟩ : ∃ k2 : Nat, k2 = s + X.ws.length + X.bs.length := ⟨_, rfl⟩
 rw [<- hk2]
 have HK2 : Hid (k2 = s + X.ws.length + X.bs.length) := hk2
 clear hk2 cg m2 G1 y0 y1 y2 y3 y4 y5
 have HE : Hid (((k2 : Nat) : Int) = ((s + csVQ X : Nat) : Int)) := by show _ = _; have := HC.out; have := HK2.out; omega
 go_wp2
 go_ret
 exact ⟨congrArg (fun z => Ending.returned (Value.int .i64 z)) HE.out, G2.out.1, G2.out.2.1, G2.out.2.2.1⟩
theorem markTable_f (X : VT) (a1 : Option Addr) (l1 c1 : Nat) (s : Nat) (x : Int) (K1 : Sk) (w : World) (hx : x = ((s : Nat) : Int)) (f1 : Fit w (.list 13 X.m (fun i => trs (dT (X.f i)))) K1 (.slice a1 l1 c1)) (o1 : K1.ok)  (hB : s + csVT X <= 1125899906842624) :
 Calls Tryz.prog 15 #[.agg (tL X a1 l1 c1).toArray, .int .i64 x] w fun e w' => e = .returned (.int .i64 ((s + csVT X : Nat) : Int)) /\ Fit w' (.list 13 X.m (fun i => trs (dT (nmVD (s + sumN i (fun i => ctVD (X.f i))) (X.f i))))) K1 (.slice a1 l1 c1) /\ Cg w w' (fun b => K1.bl b) := by
 subst hx
 obtain ⟨W, hW⟩ : ∃ W, W = w.alloc (.cells (tL X a1 l1 c1).toArray 35) := ⟨_, rfl⟩
 have bW : Below w.heap.size w W := by rw [hW]; exact bel_alloc _ _
 have HN : Hid ((∀ b, K1.bl b -> b < w.heap.size) /\ True) := ⟨fun b hb => f1.lt hb, trivial⟩
 have G0 : Hid (Fit W (.list 13 X.m (fun i => trs (dT (X.f i)))) K1 (.slice a1 l1 c1) /\ Cg w W (fun b => K1.bl b) /\ Blk W w.heap.size 35 (tL X a1 l1 c1).toArray /\ w.heap.size < W.heap.size) := ⟨f1.below bW, Cg.ofBelow bW, by rw [hW]; exact Blk.new _ _ _, by rw [hW]; simp⟩
 have HC : Hid (csVT X = sumN X.m (fun i => ctVD (X.f i))) := rfl
 clear f1 bW
 go_enter Tryz.func15, Tryz.ntmps15
 go_upto_region 1 with fail
 rw [<- hW]
 clear hW
 obtain ⟨⟨y0, y1⟩, yf⟩ := G0.out.2.2.1.tc2
 clear yf
 go_wp2_with fail
 refine (markPendS_f X.m X.f a1 _ c1 (s) _ K1 _ (by first | rfl | (have := HC.out; omega)) G0.out.1 o1 (by have := HC.out; omega)).mono ?_
 rintro e w1 ⟨rfl, m1, cg⟩
 have G1 : Hid (Fit w1 (.list 13 X.m (fun i => trs (dT (nmVD (s + sumN i (fun i => ctVD (X.f i))) (X.f i))))) K1 (.slice a1 l1 c1) /\ Cg w w1 (fun b => K1.bl b) /\ Blk w1 w.heap.size 35 (tL X a1 l1 c1).toArray /\ w.heap.size < w1.heap.size) := ⟨m1, G0.out.2.1.trans (cg.mono (fun b hb => by simp [hb])), (cg.block w.heap.size G0.out.2.2.2 (fun q => by have h9 := HN.out; first | exact absurd (h9.1 w.heap.size q) (Nat.lt_irrefl _) | (rcases q with q | q <;> first | exact absurd (h9.1 w.heap.size q) (Nat.lt_irrefl _) | exact absurd (h9.2.1 w.heap.size q) (Nat.lt_irrefl _) | exact absurd (h9.2.2.1 w.heap.size q) (Nat.lt_irrefl _)))).trans G0.out.2.2.1, Nat.lt_of_lt_of_le G0.out.2.2.2 cg.size⟩
 obtain ⟨k1, hk1⟩ : ∃ k1 : Nat, k1 = s + sumN X.m (fun i => ctVD (X.f i)) := ⟨_, rfl⟩
 rw [<- hk1]
 have HK1 : Hid (k1 = s + sumN X.m (fun i => ctVD (X.f i))) := hk1
 clear hk1 cg m1 G0 y0 y1
 have HE : Hid (((k1 : Nat) : Int) = ((s + csVT X : Nat) : Int)) := by show _ = _; have := HC.out; have := HK1.out; omega
 go_wp2
 go_ret
 exact ⟨congrArg (fun z => Ending.returned (Value.int .i64 z)) HE.out, G1.out.1, G1.out.2.1⟩
theorem heldTable_f (X : VT) (a1 : Option Addr) (l1 c1 : Nat) (s : Nat) (x : Int) (w : World) (hx : x = ((s : Nat) : Int)) (r1 : Rd w 0 (.list 13 X.m (fun i => trs (dT (nmVD (s + sumN i (fun i => ctVD (X.f i))) (X.f i))))) (.slice a1 l1 c1)) (hB : s + csVT X <= 1125899906842624) :
 Calls Tryz.prog 18 #[.agg (tL X a1 l1 c1).toArray, .int .i64 x] w fun e w' => e = .returned (.int .i64 ((s + csVT X : Nat) : Int)) /\ Below w.heap.size w w' := by
 subst hx
 obtain ⟨W, hW⟩ : ∃ W, W = w.alloc (.cells (tL X a1 l1 c1).toArray 35) := ⟨_, rfl⟩
 have G0 : Hid (Below w.heap.size w W /\ Blk W w.heap.size 35 (tL X a1 l1 c1).toArray) := ⟨by rw [hW]; exact bel_alloc _ _, by rw [hW]; exact Blk.new _ _ _⟩
 have HR : Hid (Rd w 0 (.list 13 X.m (fun i => trs (dT (nmVD (s + sumN i (fun i => ctVD (X.f i))) (X.f i))))) (.slice a1 l1 c1) /\ True) := ⟨r1, trivial⟩
 have HC : Hid (csVT X = sumN X.m (fun i => ctVD (X.f i))) := rfl
 clear r1
 go_enter Tryz.func18, Tryz.ntmps18
 go_upto_region 1 with fail
 rw [<- hW]
 clear hW
 obtain ⟨⟨y0, y1⟩, yf⟩ := G0.out.2.tc2
 clear yf
 go_wp2_with fail
 refine (heldPendS_f X.m X.f a1 _ c1 (s) _ _ (by first | rfl | (have := HC.out; omega)) (HR.out.1.below G0.out.1) (by have := HC.out; omega)).mono ?_
 rintro e w1 ⟨rfl, hw9⟩
 have b9 : Below W.heap.size W w1 := by rw [hw9]; exact Below.refl _ _
 clear hw9
 have G1 : Hid (Below w.heap.size w w1 /\ Blk w1 w.heap.size 35 (tL X a1 l1 c1).toArray) := ⟨bel_nx G0.out.1 b9, G0.out.2.below b9⟩
 obtain ⟨k1, hk1⟩ : ∃ k1 : Nat, k1 = s + sumN X.m (fun i => ctVD (X.f i)) := ⟨_, rfl⟩
 rw [<- hk1]
 have HK1 : Hid (k1 = s + sumN X.m (fun i => ctVD (X.f i))) := hk1
 have nn1 : ¬ ((k1 : Int) < 0) := by omega
 clear hk1 b9 G0 y0 y1
 have HE : Hid (((k1 : Nat) : Int) = ((s + csVT X : Nat) : Int)) := by show _ = _; have := HC.out; have := HK1.out; omega
 go_wp2
 go_ret
 exact ⟨congrArg (fun z => Ending.returned (Value.int .i64 z)) HE.out, G1.out.1⟩
theorem markReq_o (X : VQ) (a1 : Option Addr) (l1 c1 : Nat) (a2 : Option Addr) (l2 c2 : Nat) (s lo hi : Nat) (x : Int) (w : World) (hx : x = ((s : Nat) : Int)) (h : Own1 w lo hi (qT X) (qL X a1 l1 c1 a2 l2 c2)) (hB : s + csVQ X <= 1125899906842624) :
 Calls Tryz.prog 16 #[.agg (qL X a1 l1 c1 a2 l2 c2).toArray, .int .i64 x] w fun e w' => e = .returned (.int .i64 ((s + csVQ X : Nat) : Int)) /\ Own1 w' lo hi (qT (nsVQ s X)) (qL X a1 l1 c1 a2 l2 c2) /\ Cg w w' (fun b => lo <= b /\ b < hi) := by
 obtain ⟨K, h1, h2, h3, h4⟩ := h
 refine (markReq_f X a1 _ c1 a2 _ c2 s x (K 3) (K 4) w hx (h2 3 _ rfl) (h2 4 _ rfl) (h3 3 (show 3 < (qT X).length by simp [qT])).1 (h3 4 (show 4 < (qT X).length by simp [qT])).1 (h4 3 4 (show 3 < (qT X).length by simp [qT]) (show 4 < (qT X).length by simp [qT]) (by decide)) (h4 4 3 (show 4 < (qT X).length by simp [qT]) (show 3 < (qT X).length by simp [qT]) (by decide)) hB).mono ?_
 rintro e w' ⟨rfl, m1, m2, cg⟩
 refine ⟨rfl, ⟨K, rfl, fun i v hv => ?_, h3, h4⟩, cg.mono (fun b hb => ?_)⟩
 ·match i, hv with
  | 0, hv => have q := h2 0 v hv; exact q
  | 1, hv => have q := h2 1 v hv; exact q
  | 2, hv => have q := h2 2 v hv; exact q
  | 3, hv => obtain rfl := Option.some.inj (show some _ = some v from hv); exact m1
  | 4, hv => obtain rfl := Option.some.inj (show some _ = some v from hv); exact m2
  | 5, hv => have q := h2 5 v hv; exact q
  | i + 6, hv => simp at hv
 rcases hb with hb | hb
 ·exact (h3 3 (show 3 < (qT X).length by simp [qT])).2 b hb
 exact (h3 4 (show 4 < (qT X).length by simp [qT])).2 b hb
theorem markTable_o (X : VT) (a1 : Option Addr) (l1 c1 : Nat) (s lo hi : Nat) (x : Int) (w : World) (hx : x = ((s : Nat) : Int)) (h : Own1 w lo hi (tT X) (tL X a1 l1 c1)) (hB : s + csVT X <= 1125899906842624) :
 Calls Tryz.prog 15 #[.agg (tL X a1 l1 c1).toArray, .int .i64 x] w fun e w' => e = .returned (.int .i64 ((s + csVT X : Nat) : Int)) /\ Own1 w' lo hi (tT (nsVT s X)) (tL X a1 l1 c1) /\ Cg w w' (fun b => lo <= b /\ b < hi) := by
 obtain ⟨K, h1, h2, h3, h4⟩ := h
 refine (markTable_f X a1 _ c1 s x (K 1) w hx (h2 1 _ rfl) (h3 1 (show 1 < (tT X).length by simp [tT])).1  hB).mono ?_
 rintro e w' ⟨rfl, m1, cg⟩
 refine ⟨rfl, ⟨K, rfl, fun i v hv => ?_, h3, h4⟩, cg.mono (fun b hb => ?_)⟩
 ·match i, hv with
  | 0, hv => have q := h2 0 v hv; exact q
  | 1, hv => obtain rfl := Option.some.inj (show some _ = some v from hv); exact m1
  | i + 2, hv => simp at hv
 exact (h3 1 (show 1 < (tT X).length by simp [tT])).2 b hb
theorem heldTable_o (X : VT) (a1 : Option Addr) (l1 c1 : Nat) (s lo hi : Nat) (x : Int) (w : World) (hx : x = ((s : Nat) : Int)) (h : Own1 w lo hi (tT (nsVT s X)) (tL X a1 l1 c1)) (hB : s + csVT X <= 1125899906842624) :
 Calls Tryz.prog 18 #[.agg (tL X a1 l1 c1).toArray, .int .i64 x] w fun e w' => e = .returned (.int .i64 ((s + csVT X : Nat) : Int)) /\ Below w.heap.size w w' :=
 heldTable_f X a1 _ c1 s x w hx ((h.rd0 1 _ rfl)) hB
theorem eqTable_o (X : VT) (a1 : Option Addr) (l1 c1 : Nat) (a1' : Option Addr) (c1' : Nat) (lo hi : Nat) (w : World) (h : Own1 w lo hi (tT X) (tL X a1 l1 c1)) (r1' : Rd w 0 (.list 13 X.m (fun i => trs (dT (X.f i)))) (.slice a1' l1 c1')) (hz : szT 2 (trs (tT X)) <= 2000000) :
 Calls Tryz.prog 12 #[.agg (tL X a1 l1 c1).toArray, .agg (tL X a1' l1 c1').toArray] w fun e w' => e = .returned (.bool true) /\ Below w.heap.size w w' :=
 eqTable_u X a1 l1 c1 a1' c1' w (h.rd0 1 _ rfl) r1' hz
end Go.Proofs.YtlhjiiifmfgnoaaGreat
namespace Go.Proofs.YtlhjiiifmfgnoaaGreat
open Go.RowKit Go.Joins
theorem sumN_lin {g h : Nat -> Nat} {c d : Nat} (hc : ∀ k, g k <= c + d * h k) : ∀ n, sumN n g <= c * n + d * sumN n h
 | 0 => by simp [sumN]
 | n + 1 => by
  have h1 := sumN_lin hc n
  have h2 := hc n
  simp only [sumN, Nat.mul_add, Nat.mul_one]
  omega
theorem sumN_congr {g h : Nat -> Nat} : ∀ {n : Nat}, (∀ k, k < n -> g k = h k) -> sumN n g = sumN n h
 | 0, _ => rfl
 | n + 1, hc => by
  simp only [sumN]
  rw [sumN_congr (fun k hk => hc k (by omega)), hc n (by omega)]
theorem ctVP_sz (P : VP) : ctVP P <= 6 + 1 * szT 8 (trs (pT P)) := by rw [szT_p]; simp only [ctVP, ctVQ]; omega
theorem ctVA_sz (A : VA) : ctVA A <= 4 + 1 * szT 6 (trs (aT A)) := by rw [szT_a]; simp only [ctVA]; omega
theorem ctVD_sz (D : VD) : ctVD D <= 8 + 7 * szT 13 (trs (dT D)) := by
 have h1 := sumN_lin (g := fun i => ctVP (D.pt i)) (h := fun i => szT 8 (trs (pT (D.pt i)))) (fun k => ctVP_sz (D.pt k)) D.np
 have h2 := sumN_lin (g := fun i => ctVA (D.tl i)) (h := fun i => szT 6 (trs (aT (D.tl i)))) (fun k => ctVA_sz (D.tl k)) D.nt
 rw [szT_d, Tr.sz_list, Tr.sz_list]
 simp only [ctVD, ctVQ]
 omega
theorem csVT_sz (X : VT) : csVT X <= 8 * szT 2 (trs (tT X)) := by
 have h1 := sumN_lin (g := fun i => ctVD (X.f i)) (h := fun i => szT 13 (trs (dT (X.f i)))) (fun k => ctVD_sz (X.f k)) X.m
 rw [szT_t, Tr.sz_list]
 simp only [csVT]
 omega
theorem nwD_szE (X : VT) (so ta un : Int) (Q : VQ) (np : Nat) (g : Nat -> VP) : szT 13 (trs (dT (nwD X so ta un Q np g))) = szT 6 (trs (qT Q)) + (Tr.list 8 np (fun i => trs (pT (g i)))).sz + 2 * np := by
 have h0 : sumN np (fun _ => szT 6 (trs (aT rz))) = 0 := by
  have : szT 6 (trs (aT rz)) = 0 := by rw [szT_a]; rfl
  rw [this]; exact sumN_zero np
 rw [szT_d, szT_q]
 show Q.ws.length + Q.bs.length + (Tr.list 8 np (fun i => trs (pT (g i)))).sz + (List.replicate np false).length + (Tr.list 6 np (fun _ => trs (aT rz))).sz = _
 rw [Tr.sz_list 6, h0, List.length_replicate]
 omega
theorem nwT_sz (X : VT) (D : VD) : szT 2 (trs (tT (nwT X D))) = szT 2 (trs (tT X)) + 1 + szT 13 (trs (dT D)) := by
 rw [szT_t, szT_t, Tr.sz_list, Tr.sz_list]
 show X.m + 1 + (sumN X.m (fun k => szT 13 (trs (dT (if k = X.m then D else X.f k)))) + szT 13 (trs (dT (if X.m = X.m then D else X.f X.m)))) = _
 rw [if_pos rfl, sumN_congr (h := fun k => szT 13 (trs (dT (X.f k)))) (fun k hk => by rw [if_neg (by omega)])]
 omega
theorem okO_np {X : VT} {so ta un : Int} {Q : VQ} {np : Nat} {g : Nat -> VP} (h : okO X (nwD X so ta un Q np g) = true) : np <= 8 := by
 unfold okO okPd at h
 simp only [Bool.and_eq_true, decide_eq_true_eq] at h
 have h9 : 1 <= np /\ np <= 8 := h.2.2.2.2.2.2.1
 exact h9.2
theorem opT_sz (X : VT) (so ta un : Int) (Q : VQ) (np : Nat) (g : Nat -> VP) (hz : szT 2 (trs (tT X)) + szT 6 (trs (qT Q)) + (Tr.list 8 np (fun i => trs (pT (g i)))).sz <= 1048576) :
 szT 2 (trs (tT (opT (okO X (nwD X so ta un Q np g)) X (nwD X so ta un Q np g)))) <= 2000000 /\ csVT (opT (okO X (nwD X so ta un Q np g)) X (nwD X so ta un Q np g)) <= 16000000 := by
 have h1 : szT 2 (trs (tT (opT (okO X (nwD X so ta un Q np g)) X (nwD X so ta un Q np g)))) <= 2000000 := by
  unfold opT
  split
  ·rename_i h
   have h8 := okO_np h
   rw [nwT_sz, nwD_szE]
   omega
  omega
 refine ⟨h1, Nat.le_trans (csVT_sz _) (by omega)⟩
end Go.Proofs.YtlhjiiifmfgnoaaGreat
namespace Go.Proofs.YtlhjiiifmfgnoaaGreat
open Go.RowKit
def floatB (md : Region.Mode) (ops : Array Oper) (S : Nat) (fl : Nat -> Bool) : Bool :=
 (dstOf ops S).isNone && (List.range ops.size).all (fun i => i == S || ((dstOf ops i).isSome && (fl i || reachB md ops ops.size S i)))
theorem wpAny_te {P : Program} {ops : Array Oper} {Q : Exit -> Act -> World -> Prop} {md : Region.Mode} {a0 : Act} {w0 : World} (S A dA : Nat) (fl : Nat -> Bool) (Rb : World -> Prop) (Bx : Nat -> World -> Prop) (E : Value -> World -> Prop) (Φ : Nat -> Value -> Option Nat -> World -> Prop) (Ψ : Nat -> Value -> Prop)
 (hordB : ordB md ops = true) (hB : dstC ops a0.tmps.size = true) (hS : S < ops.size) (hL : floatB md ops S fl = true) (hAS : A ≠ S) (hAf : fl A = false) (hSf : fl S = false) (hdA : dstOf ops A = some dA)
 (hRb : ∀ u u', Rb u -> Below u.heap.size u u' -> Rb u') (hBx : ∀ b u u', Bx b u -> Below u.heap.size u u' -> Bx b u') (hmono : ∀ i v ob u u', Φ i v ob u -> Below u.heap.size u u' -> Φ i v ob u') (hnew : ∀ i v u u' b, Φ i v none u -> u.heap.size <= b -> Below u.heap.size u u' -> Φ i v (some b) u') (hΨ : ∀ i v ob u, Φ i v ob u -> Ψ i v) (h0 : Rb w0)
 (hend : ∀ (vs : Nat -> Value) (σ : Nat -> Value) u, E (σ dA) u -> (∀ j d, j ≠ A -> j ≠ S -> dstOf ops j = some d -> Ψ j (σ d)) -> (∀ i d, dstOf ops i = some d -> vs i = σ d) -> Q .normal (putsL a0 0 ops.toList vs) u)
 (hbox : ∀ u o (ρ : Operand -> Value), Rb u -> ops[A]? = some o -> wantV ops o ρ = true /\ ∃ u', (execOp ρ o).run P u = .ok (.value (.pointer (some ⟨u.heap.size, 0, none⟩))) u' /\ Bx u.heap.size u' /\ u.heap.size < u'.heap.size /\ Below u.heap.size u u')
 (hstep : ∀ u i o (ρ : Operand -> Value) ob, fl i = false -> i ≠ A -> i ≠ S -> Rb u -> (∀ b, ob = some b -> b < u.heap.size) -> ops[i]? = some o -> (∀ s, isDst ops s = false -> ρ (.tmp s) = a0.eval (.tmp s)) -> (∀ v, ρ (.const v) = v) -> (∀ f, ρ (.func f) = .func (.func f) #[] #[]) ->
  (∀ e ∈ o.after, Region.binds md e = true -> e.on ≠ A -> fl e.on = false -> ∀ d, dstOf ops e.on = some d -> Φ e.on (ρ (.tmp d)) ob u) -> StpB P ops (fun i v u => Φ i v ob u) i o ρ u)
 (hfl : ∀ u i o (ρ : Operand -> Value), fl i = true -> ops[i]? = some o -> (∀ s, isDst ops s = false -> ρ (.tmp s) = a0.eval (.tmp s)) -> (∀ v, ρ (.const v) = v) ->
  (∀ e ∈ o.after, Region.binds md e = true -> e.on ≠ A -> ∀ d, dstOf ops e.on = some d -> Ψ e.on (ρ (.tmp d))) -> wantV ops o ρ = true /\ ∃ v, (execOp ρ o).run P u = .ok (.value v) u /\ Ψ i v)
 (hstore : ∀ u o (ρ : Operand -> Value) b, Rb u -> ops[S]? = some o -> (∀ s, isDst ops s = false -> ρ (.tmp s) = a0.eval (.tmp s)) -> (∀ v, ρ (.const v) = v) -> ρ (.tmp dA) = .pointer (some ⟨b, 0, none⟩) -> Bx b u ->
  (∀ j d, j ≠ A -> fl j = false -> dstOf ops j = some d -> Φ j (ρ (.tmp d)) (some b) u) -> wantV ops o ρ = true /\ ∃ u', (execOp ρ o).run P u = .ok .skip u' /\ E (.pointer (some ⟨b, 0, none⟩)) u')
 (fuel : Nat) (l : Array Bool) (hs : l.size = ops.size) (hc : l.toList.count false <= fuel) (hl : ∀ i, l.getD i false = false) : wpAny P md ops Q fuel l a0 w0 := by
 obtain ⟨hdS, hds⟩ : dstOf ops S = none /\ ∀ i, i < ops.size -> i ≠ S -> (dstOf ops i).isSome = true /\ (fl i = true \/ reachB md ops ops.size S i = true) := by
  unfold floatB at hL
  simp only [Bool.and_eq_true, List.all_eq_true, List.mem_range, Bool.or_eq_true, beq_iff_eq, Option.isNone_iff_eq_none] at hL
  exact ⟨hL.1, fun i h1 h2 => (hL.2 i h1).elim (fun h => absurd h h2) (fun h => h)⟩
 refine wpAny_valy (fun l σ u => (l S = true -> E (σ dA) u /\ ∀ j d, j ≠ A -> j ≠ S -> dstOf ops j = some d -> l j = true -> Ψ j (σ d)) /\ (l S = false -> Rb u /\ (∃ ob : Option Nat, (∀ b, ob = some b -> b < u.heap.size /\ Bx b u /\ σ dA = .pointer (some ⟨b, 0, none⟩)) /\ (l A = true -> ob ≠ none) /\ (l A = false -> ob = none) /\ ∀ j d, j ≠ A -> fl j = false -> dstOf ops j = some d -> l j = true -> Φ j (σ d) ob u) /\ ∀ j d, fl j = true -> dstOf ops j = some d -> l j = true -> Ψ j (σ d))) (fun _ _ => True) (fun _ _ _ => True) hordB hB (fun _ _ _ _ h _ => h) (fun _ => trivial) ⟨fun h => (by cases h), fun _ => ⟨h0, ⟨none, fun _ h => (by cases h), fun h => (by cases h), fun _ => rfl, fun _ _ _ _ _ h => (by cases h)⟩, fun _ _ _ _ h => (by cases h)⟩⟩ (fun vs σ u hR hvs _ => by
  have h9 := hR.1 (by simp [hS])
  exact hend vs σ u h9.1 (fun j d hjA hjS hd => h9.2 j d hjA hjS hd (by simp; exact dstOf_lt hd)) hvs) ?_ fuel l hs hc hl
 intro u i o ρ l hR ho hli hcl hρ hcn hf hdep hv
 have hi : i < ops.size := (Array.getElem?_eq_some_iff.1 ho).1
 have hold : ∀ j, j ≠ i -> updB l i j = l j := fun j hj => by unfold updB; rw [if_neg hj]
 have hii : updB l i i = true := by unfold updB; rw [if_pos rfl]
 by_cases eS : i = S
 ·subst eS
  have hod : o.dst = none := by simpa [dstOf, ho] using hdS
  obtain ⟨hb, ⟨ob, hob, hob1, hob2, hΦ⟩, hf9⟩ := hR.2 hli
  have hpre : ∀ j, j < ops.size -> j ≠ i -> fl j = false -> l j = true := fun j h1 h2 h3 => by
   rcases (hds j h1 h2).2 with h | h
   ·rw [h3] at h; cases h
   exact reachB_d hcl ho hdep (fun q => h2 q.symm) h
  have hlA := hpre A (dstOf_lt hdA) hAS hAf
  cases ob with
  | none => exact absurd rfl (hob1 hlA)
  | some b =>
   obtain ⟨q1, q2, q3⟩ := hob b rfl
   have q3' : ρ (.tmp dA) = .pointer (some ⟨b, 0, none⟩) := q3
   have hall : ∀ j d, j ≠ A -> fl j = false -> dstOf ops j = some d -> Φ j (ρ (.tmp d)) (some b) u := fun j d hjA hjf hd => hΦ j d hjA hjf hd (hpre j (dstOf_lt hd) (fun q => by rw [q, hdS] at hd; cases hd) hjf)
   obtain ⟨hw, u', hrun, hE⟩ := hstore u o ρ b hb ho hρ hcn q3' q2 hall
   refine .inl ⟨hw, .inr (.inr ⟨hod, u', hrun, ⟨fun _ => ?_, fun q => ?_⟩, trivial⟩)⟩
   ·rw [hod]
    refine ⟨by show E (ρ (.tmp dA)) u'; rw [q3']; exact hE, fun j d hjA hjS hd hl' => ?_⟩
    show Ψ j (ρ (.tmp d))
    rw [hold j hjS] at hl'
    cases h9 : fl j with
    | true => exact hf9 j d h9 hd hl'
    | false => exact hΨ _ _ _ _ (hall j d hjA h9 hd)
   rw [hii] at q; cases q
 obtain ⟨hsome, hcase⟩ := hds i hi eS
 obtain ⟨d, hd⟩ := Option.isSome_iff_exists.1 hsome
 have hod : o.dst = some d := by simpa [dstOf, ho] using hd
 have hone : ∀ j d', j ≠ i -> dstOf ops j = some d' -> ∀ v, updS (fun s => ρ (.tmp s)) o.dst v d' = ρ (.tmp d') := by
  intro j d' ej hj v
  have hne : d' ≠ d := fun q => ej ((dstC_of hB hi hd).2 j (dstOf_lt hj) (by rw [<- q]; exact hj))
  rw [hod]
  show (if d' = d then v else ρ (.tmp d')) = _
  rw [if_neg hne]
 have hself : ∀ v, updS (fun s => ρ (.tmp s)) o.dst v d = v := fun v => by
  rw [hod]; show (if d = d then v else _) = v; rw [if_pos rfl]
 have hS9 : updB l i S = l S := hold S (fun q => eS q.symm)
 by_cases efl : fl i = true
 ·have eA : i ≠ A := fun q => by rw [q, hAf] at efl; cases efl
  have hps : ∀ e ∈ o.after, Region.binds md e = true -> e.on ≠ A -> ∀ d, dstOf ops e.on = some d -> Ψ e.on (ρ (.tmp d)) := fun e9 he hbd hA9 d9 hd9 => by
   have hl9 := hdep e9 he hbd
   have hnS : e9.on ≠ S := fun q => by rw [q, hdS] at hd9; cases hd9
   cases h9 : l S with
   | true => exact (hR.1 h9).2 e9.on d9 hA9 hnS hd9 hl9
   | false =>
    obtain ⟨_, ⟨ob, _, _, _, hΦ⟩, hf9⟩ := hR.2 h9
    cases h8 : fl e9.on with
    | true => exact hf9 e9.on d9 h8 hd9 hl9
    | false => exact hΨ _ _ _ _ (hΦ e9.on d9 hA9 h8 hd9 hl9)
  obtain ⟨hw, v, hrun, hv9⟩ := hfl u i o ρ efl ho hρ hcn hps
  refine .inl ⟨hw, .inl ⟨v, u, hrun, trivial, ⟨fun q => ?_, fun q => ?_⟩, trivial⟩⟩
  ·rw [hS9] at q
   obtain ⟨h1, h2⟩ := hR.1 q
   refine ⟨by rw [hone A dA (fun q => eA q.symm) hdA]; exact h1, fun j d' hjA hjS hj hl' => ?_⟩
   by_cases ej : j = i
   ·subst ej; rw [hd] at hj; cases hj; rw [hself]; exact hv9
   rw [hold j ej] at hl'; rw [hone j d' ej hj]; exact h2 j d' hjA hjS hj hl'
  rw [hS9] at q
  obtain ⟨hb, ⟨ob, hob, hob1, hob2, hΦ⟩, hf9⟩ := hR.2 q
  refine ⟨hb, ⟨ob, fun b hb9 => ?_, by rw [hold A (fun q => eA q.symm)]; exact hob1, by rw [hold A (fun q => eA q.symm)]; exact hob2, fun j d' hjA hjf hj hl' => ?_⟩, fun j d' hjf hj hl' => ?_⟩
  ·rw [hone A dA (fun q => eA q.symm) hdA]; exact hob b hb9
  ·have ej : j ≠ i := fun q => by rw [q, efl] at hjf; cases hjf
   rw [hold j ej] at hl'; rw [hone j d' ej hj]; exact hΦ j d' hjA hjf hj hl'
  by_cases ej : j = i
  ·subst ej; rw [hd] at hj; cases hj; rw [hself]; exact hv9
  rw [hold j ej] at hl'; rw [hone j d' ej hj]; exact hf9 j d' hjf hj hl'
 have efl' : fl i = false := by simpa using efl
 have hrS : reachB md ops ops.size S i = true := hcase.resolve_left efl
 have hlS : l S = false := by
  cases h9 : l S with
  | false => rfl
  | true => have := reachB_l hcl _ S i hrS h9; rw [hli] at this; cases this
 obtain ⟨hb, ⟨ob, hob, hob1, hob2, hΦ⟩, hf9⟩ := hR.2 hlS
 have hno : ∀ (σ : Nat -> Value) (u' : World), updB l i S = true -> E (σ dA) u' /\ ∀ j d, j ≠ A -> j ≠ S -> dstOf ops j = some d -> updB l i j = true -> Ψ j (σ d) := fun σ u' q => (by rw [hS9, hlS] at q; cases q)
 by_cases eA : i = A
 ·subst eA
  rw [hdA] at hd
  cases hd
  have hn : ob = none := hob2 hli
  subst hn
  obtain ⟨hw, u', hrun, hbx, hsz, hbl⟩ := hbox u o ρ hb ho
  refine .inl ⟨hw, .inl ⟨_, u', hrun, trivial, ⟨hno _ _, fun _ => ⟨hRb u u' hb hbl, ⟨some u.heap.size, fun b hb9 => ?_, fun _ q => (by cases q), fun q => (by rw [hii] at q; cases q), fun j d' hjA hjf hj hl' => ?_⟩, fun j d' hjf hj hl' => ?_⟩⟩, trivial⟩⟩
  ·obtain rfl := Option.some.inj hb9
   exact ⟨hsz, hbx, hself _⟩
  ·rw [hold j hjA] at hl'
   rw [hone j d' hjA hj]
   exact hnew _ _ _ _ _ (hΦ j d' hjA hjf hj hl') (Nat.le_refl _) hbl
  have ej : j ≠ i := fun q => by rw [q, hAf] at hjf; cases hjf
  rw [hold j ej] at hl'; rw [hone j d' ej hj]; exact hf9 j d' hjf hj hl'
 have key : ∀ v u', Φ i v ob u' -> Below u.heap.size u u' -> (updB l i S = true -> E (updS (fun s => ρ (.tmp s)) o.dst v dA) u' /\ ∀ j d, j ≠ A -> j ≠ S -> dstOf ops j = some d -> updB l i j = true -> Ψ j (updS (fun s => ρ (.tmp s)) o.dst v d)) /\ (updB l i S = false -> Rb u' /\ (∃ ob : Option Nat, (∀ b, ob = some b -> b < u'.heap.size /\ Bx b u' /\ updS (fun s => ρ (.tmp s)) o.dst v dA = .pointer (some ⟨b, 0, none⟩)) /\ (updB l i A = true -> ob ≠ none) /\ (updB l i A = false -> ob = none) /\ ∀ j d, j ≠ A -> fl j = false -> dstOf ops j = some d -> updB l i j = true -> Φ j (updS (fun s => ρ (.tmp s)) o.dst v d) ob u') /\ ∀ j d, fl j = true -> dstOf ops j = some d -> updB l i j = true -> Ψ j (updS (fun s => ρ (.tmp s)) o.dst v d)) := by
  intro v u' h1 h2
  refine ⟨hno _ _, fun _ => ⟨hRb u u' hb h2, ⟨ob, fun b hb9 => ?_, by rw [hold A (fun q => eA q.symm)]; exact hob1, by rw [hold A (fun q => eA q.symm)]; exact hob2, fun j d' hjA hjf hj hl' => ?_⟩, fun j d' hjf hj hl' => ?_⟩⟩
  ·obtain ⟨q1, q2, q3⟩ := hob b hb9
   exact ⟨Nat.lt_of_lt_of_le q1 h2.size, hBx b u u' q2 h2, by rw [hone A dA (fun q => eA q.symm) hdA]; exact q3⟩
  ·by_cases ej : j = i
   ·subst ej; rw [hd] at hj; cases hj; rw [hself]; exact h1
   rw [hold j ej] at hl'; rw [hone j d' ej hj]; exact hmono _ _ _ _ _ (hΦ j d' hjA hjf hj hl') h2
  have ej : j ≠ i := fun q => by rw [q, efl'] at hjf; cases hjf
  rw [hold j ej] at hl'; rw [hone j d' ej hj]; exact hf9 j d' hjf hj hl'
 rcases hstep u i o ρ ob efl' eA eS hb (fun b hb9 => (hob b hb9).1) ho hρ hcn hf (fun e9 he hbd hA9 hf8 d9 hd9 => hΦ e9.on d9 hA9 hf8 hd9 (hdep e9 he hbd)) with ⟨hw, h9⟩ | ⟨hw, h9⟩
 ·refine .inl ⟨hw, ?_⟩
  rcases h9 with ⟨v, u', hr, h1, h2⟩ | ⟨f, args, hr, hcall⟩
  ·exact .inl ⟨v, u', hr, trivial, key v u' h1 h2, trivial⟩
  refine .inr (.inl ⟨f, args, hr, hcall.mono ?_⟩)
  rintro e9 u' ⟨v, he, h1, h2⟩
  exact ⟨v, he, trivial, key v u' h1 h2, trivial⟩
 exact .inr ⟨hw, trivial, key undef u h9 (Below.refl _ _)⟩
end Go.Proofs.YtlhjiiifmfgnoaaGreat
