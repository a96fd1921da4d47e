/- Texts that the proof needs, joined: Tr4 WaitingL. -/
import Derived.Test.YtfagbjffhjnmaaaY7
import Derived.Test.YtfagbjffhjnmaaaY14
import Derived.Test.YtfagbjffhjnmaaaY15
import Derived.Test.YtfagbjffhjnmaaaY2
namespace Go.Proofs.Ytfagbjffhjnmaaa
open Go.RowKit Go.Joins
set_option linter.unusedVariables false
set_option linter.unusedSimpArgs false
theorem eqBoolS_t (ws : List Bool) (a : Option Addr) (l c : Nat) (a' : Option Addr) (c' : Nat) (w : World) (r : Rd w 0 (boolsT ws) (.slice a l c)) (r' : Rd w 0 (boolsT ws) (.slice a' l c')) (hz : ws.length ≤ 1048576) :
    Calls Try.prog 52 #[.slice a l c, .slice a' l c'] w fun e w' => e = .returned (.bool true) ∧ Below w.heap.size w w' := by
  obtain ⟨a9, c9, h9, -, hm, hs⟩ := r.bools
  simp only [Value.slice.injEq] at h9
  obtain ⟨rfl, rfl, rfl⟩ := h9
  obtain ⟨a9, c9, h9, -, -, hs'⟩ := r'.bools
  simp only [Value.slice.injEq] at h9
  obtain ⟨rfl, -, rfl⟩ := h9
  exact eqBoolS_ok _ _ _ _ _ _ ws w rfl rfl hs hs' (by omega)
theorem eqReq_t (X : VQ) (a1 : Option Addr) (l1 c1 : Nat) (a2 : Option Addr) (l2 c2 : Nat) (a1' : Option Addr) (c1' : Nat) (a2' : Option Addr) (c2' : Nat) (w : World) (r1 : Rd w 0 (intsT X.ws) (.slice a1 l1 c1)) (r2 : Rd w 0 (boolsT X.bs) (.slice a2 l2 c2)) (r1' : Rd w 0 (intsT X.ws) (.slice a1' l1 c1')) (r2' : Rd w 0 (boolsT X.bs) (.slice a2' l2 c2')) (hz : szT 6 (trs (qT X)) ≤ 1048576) :
    Calls Try.prog 50 #[.agg (qL X a1 l1 c1 a2 l2 c2).toArray, .agg (qL X a1' l1 c1' a2' l2 c2').toArray] w fun e w' => e = .returned (.bool true) ∧ Below w.heap.size w w' := by
  rw [szT_q] at hz
  obtain ⟨a9, c9, h9, -, hm1, hs1⟩ := r1.ints
  simp only [Value.slice.injEq] at h9
  obtain ⟨rfl, rfl, rfl⟩ := h9
  obtain ⟨a9, c9, h9, -, hm2, hs2⟩ := r2.bools
  simp only [Value.slice.injEq] at h9
  obtain ⟨rfl, rfl, rfl⟩ := h9
  obtain ⟨a9, c9, h9, -, -, hs1'⟩ := r1'.ints
  simp only [Value.slice.injEq] at h9
  obtain ⟨rfl, -, rfl⟩ := h9
  obtain ⟨a9, c9, h9, -, -, hs2'⟩ := r2'.bools
  simp only [Value.slice.injEq] at h9
  obtain ⟨rfl, -, rfl⟩ := h9
  exact eqReq_true X.kd X.pl X.n X.wa _ _ _ _ _ _ _ _ _ _ _ _ X.ws X.bs w rfl rfl rfl rfl hs1 hs2 hs1' hs2' (by omega) (by omega)
theorem eqResp_t (X : VA) (a1 : Option Addr) (l1 c1 : Nat) (a2 : Option Addr) (l2 c2 : Nat) (a1' : Option Addr) (c1' : Nat) (a2' : Option Addr) (c2' : Nat) (w : World) (r1 : Rd w 0 (intsT X.ws) (.slice a1 l1 c1)) (r2 : Rd w 0 (boolsT X.bs) (.slice a2 l2 c2)) (r1' : Rd w 0 (intsT X.ws) (.slice a1' l1 c1')) (r2' : Rd w 0 (boolsT X.bs) (.slice a2' l2 c2')) (hz : szT 6 (trs (aT X)) ≤ 1048576) :
    Calls Try.prog 74 #[.agg (aL X a1 l1 c1 a2 l2 c2).toArray, .agg (aL X a1' l1 c1' a2' l2 c2').toArray] w fun e w' => e = .returned (.bool true) ∧ Below w.heap.size w w' := by
  rw [szT_a] at hz
  obtain ⟨a9, c9, h9, -, hm1, hs1⟩ := r1.ints
  simp only [Value.slice.injEq] at h9
  obtain ⟨rfl, rfl, rfl⟩ := h9
  obtain ⟨a9, c9, h9, -, hm2, hs2⟩ := r2.bools
  simp only [Value.slice.injEq] at h9
  obtain ⟨rfl, rfl, rfl⟩ := h9
  obtain ⟨a9, c9, h9, -, -, hs1'⟩ := r1'.ints
  simp only [Value.slice.injEq] at h9
  obtain ⟨rfl, -, rfl⟩ := h9
  obtain ⟨a9, c9, h9, -, -, hs2'⟩ := r2'.bools
  simp only [Value.slice.injEq] at h9
  obtain ⟨rfl, -, rfl⟩ := h9
  exact eqResp_true X.kd X.fl X.pl X.n _ _ _ _ _ _ _ _ _ _ _ _ X.ws X.bs w rfl rfl rfl rfl hs1 hs2 hs1' hs2' (by omega) (by omega)
set_option maxRecDepth 20000 in
set_option maxHeartbeats 4000000 in
theorem eqRespS_t (n : Nat) (f : Nat → VA) (a : Option Addr) (n' cap : Nat) (a' : Option Addr) (cap' : Nat) (w : World) (hs : Rd w 0 (.list 6 n (fun k => trs (aT (f k)))) (.slice a n' cap)) (hs' : Rd w 0 (.list 6 n (fun k => trs (aT (f k)))) (.slice a' n' cap')) (hz : (Tr.list 6 n (fun k => trs (aT (f k)))).sz ≤ 1048576) :
    Calls Try.prog 53 #[.slice a n' cap, .slice a' n' cap'] w fun e w' => e = .returned (.bool true) ∧ Below w.heap.size w w' := by
  obtain ⟨a9, c9, h9, -, hn⟩ := hs.shape
  simp only [Value.slice.injEq] at h9
  obtain ⟨-, rfl, -⟩ := h9
  clear a9 c9 hn
  have hn1 : n' ≤ 1048576 := by rw [Tr.sz_list] at hz; omega
  have HZ : Hid (∀ k, k < n' → szT 6 (trs (aT (f k))) ≤ 1048576) := by
    show ∀ k, k < n' → szT 6 (trs (aT (f k))) ≤ 1048576
    intro k hk
    rw [Tr.sz_list] at hz
    have := sumN_at (fun k => szT 6 (trs (aT (f k)))) hk
    omega
  have HS : Hid (Rd w 0 (.list 6 n' (fun k => trs (aT (f k)))) (.slice a n' cap) ∧ Rd w 0 (.list 6 n' (fun k => trs (aT (f k)))) (.slice a' n' cap')) := ⟨hs, hs'⟩
  clear hs hs' hz
  go_enter Try.func53, Try.ntmps53
  go_wp2
  go_loopw [5] (fun i wr => ∃ z : Nat, z ≤ n' ∧ i = .int .i64 z ∧ Below w.heap.size w wr) (fun i _ => n' - (intOf i).toNat)
  case atStart => exact ⟨0, Nat.zero_le _, rfl, Below.refl _ _⟩
  case round =>
    obtain ⟨k, hk, rfl, hbl⟩ := hrel
    by_cases hlt : k < n'
    · have hi : (k : Int) < (n' : Int) := by omega
      obtain ⟨b, off, vs, rfl, _, hb0, hlen, hr, hrd⟩ := (HS.out.1.below hbl).at hlt
      obtain ⟨a1, c1, a2, c2, rfl, r1, r2⟩ := VA.cells hrd hlen
      clear hlen hrd hb0
      obtain ⟨b', off', vs, rfl, _, hb0, hlen, hr', hrd⟩ := (HS.out.2.below hbl).at hlt
      obtain ⟨a1', c1', a2', c2', rfl, r1', r2'⟩ := VA.cells hrd hlen
      clear hlen hrd hb0
      have d09 : wr.cell? ⟨b, off + k * 6, none⟩ = _ := hr 0 _ rfl
      have e09 : wr.cell? ⟨b', off' + k * 6, none⟩ = _ := hr' 0 _ rfl
      have d19 : wr.cell? ⟨b, off + k * 6 + 1, none⟩ = _ := hr 1 _ rfl
      have e19 : wr.cell? ⟨b', off' + k * 6 + 1, none⟩ = _ := hr' 1 _ rfl
      have d29 : wr.cell? ⟨b, off + k * 6 + 2, none⟩ = _ := hr 2 _ rfl
      have e29 : wr.cell? ⟨b', off' + k * 6 + 2, none⟩ = _ := hr' 2 _ rfl
      have d39 : wr.cell? ⟨b, off + k * 6 + 3, none⟩ = _ := hr 3 _ rfl
      have e39 : wr.cell? ⟨b', off' + k * 6 + 3, none⟩ = _ := hr' 3 _ rfl
      have d49 : wr.cell? ⟨b, off + k * 6 + 4, none⟩ = _ := hr 4 _ rfl
      have e49 : wr.cell? ⟨b', off' + k * 6 + 4, none⟩ = _ := hr' 4 _ rfl
      have d59 : wr.cell? ⟨b, off + k * 6 + 5, none⟩ = _ := hr 5 _ rfl
      have e59 : wr.cell? ⟨b', off' + k * 6 + 5, none⟩ = _ := hr' 5 _ rfl
      have HK : Hid (Below w.heap.size w wr ∧ szT 6 (trs (aT (f k))) ≤ 1048576 ∧ Rd wr 0 (intsT (f k).ws) (.slice a1 ((f k).ws.length) c1) ∧ Rd wr 0 (boolsT (f k).bs) (.slice a2 ((f k).bs.length) c2) ∧ Rd wr 0 (intsT (f k).ws) (.slice a1' ((f k).ws.length) c1') ∧ Rd wr 0 (boolsT (f k).bs) (.slice a2' ((f k).bs.length) c2')) := ⟨hbl, HZ.out k hlt, r1, r2, r1', r2'⟩
      clear r1 r2 r1' r2' hr hr' hbl
      go_wp2_with fail
      go_region_with (go_at_call 74; refine (eqResp_t (f k) a1 ((f k).ws.length) c1 a2 ((f k).bs.length) c2 a1' c1' a2' c2' _ (HK.out.2.2.1.below (by first | exact Below.refl _ _ | exact (Below.refl _ _).drew | exact (Below.refl _ _).drew.drew)) (HK.out.2.2.2.1.below (by first | exact Below.refl _ _ | exact (Below.refl _ _).drew | exact (Below.refl _ _).drew.drew)) (HK.out.2.2.2.2.1.below (by first | exact Below.refl _ _ | exact (Below.refl _ _).drew | exact (Below.refl _ _).drew.drew)) (HK.out.2.2.2.2.2.below (by first | exact Below.refl _ _ | exact (Below.refl _ _).drew | exact (Below.refl _ _).drew.drew)) HK.out.2.1).mono ?_; rintro e w1 ⟨rfl, b1'⟩; have b1 : Below wr.heap.size wr w1 := bel_nx (by first | exact Below.refl _ _ | exact (Below.refl _ _).drew | exact (Below.refl _ _).drew.drew) b1'; clear b1')
      all_goals (
        have B1 := bel_nx HK.out.1 b1
        clear HK b1 d09 e09 d19 e19 d29 e29 d39 e39 d49 e49 d59 e59
        go_wp2
        go_roundw
        case rel => exact ⟨k + 1, by omega, by go_num, B1⟩
        case measure => simp [intOf]; omega)
    · have hi : ¬ (k : Int) < (n' : Int) := by omega
      go_wp2
      go_ret
      exact ⟨rfl, hbl⟩
set_option maxRecDepth 20000 in
set_option maxHeartbeats 4000000 in
theorem eqPart_t (X : VP) (a1 : Option Addr) (l1 c1 : Nat) (a2 : Option Addr) (l2 c2 : Nat) (a1' : Option Addr) (c1' : Nat) (a2' : Option Addr) (c2' : Nat) (w : World) (r1 : Rd w 0 (intsT X.q.ws) (.slice a1 l1 c1)) (r2 : Rd w 0 (boolsT X.q.bs) (.slice a2 l2 c2)) (r1' : Rd w 0 (intsT X.q.ws) (.slice a1' l1 c1')) (r2' : Rd w 0 (boolsT X.q.bs) (.slice a2' l2 c2')) (hz : szT 8 (trs (pT X)) ≤ 1048576) :
    Calls Try.prog 73 #[.agg (pL X a1 l1 c1 a2 l2 c2).toArray, .agg (pL X a1' l1 c1' a2' l2 c2').toArray] w fun e w' => e = .returned (.bool true) ∧ Below w.heap.size w w' := by
  obtain ⟨W, hW⟩ : ∃ W, W = (w.alloc (.cells (pL X a1 l1 c1 a2 l2 c2).toArray 60)).alloc (.cells (pL X a1' l1 c1' a2' l2 c2').toArray 60) := ⟨_, rfl⟩
  have HZ : Hid (szT 6 (trs (qT X.q)) ≤ 1048576) := by
    rw [szT_p] at hz
    show szT 6 (trs (qT X.q)) ≤ 1048576
    try simp only [szT_q, szT_a, szT_p, szT_d, szT_t, true_and]
    omega
  have HR : Hid (Rd w 0 (intsT X.q.ws) (.slice a1 l1 c1) ∧ Rd w 0 (boolsT X.q.bs) (.slice a2 l2 c2) ∧ Rd w 0 (intsT X.q.ws) (.slice a1' l1 c1') ∧ Rd w 0 (boolsT X.q.bs) (.slice a2' l2 c2')) := ⟨r1, r2, r1', r2'⟩
  have G0 : Hid (Below w.heap.size w W ∧ Blk W w.heap.size 60 (pL X a1 l1 c1 a2 l2 c2).toArray ∧ Blk W (w.heap.size + 1) 60 (pL X a1' l1 c1' a2' l2 c2').toArray) := ⟨by rw [hW]; exact bel_nx (bel_alloc _ _) (bel_alloc _ _), by rw [hW]; exact (Blk.new w _ _).below (bel_alloc _ _), by rw [hW]; have := Blk.new (w.alloc (.cells (pL X a1 l1 c1 a2 l2 c2).toArray 60)) (pL X a1' l1 c1' a2' l2 c2').toArray 60; simpa using this⟩
  clear hz r1 r2 r1' r2'
  go_enter Try.func73, Try.ntmps73
  go_upto_region 1 with fail
  rw [← hW]
  clear hW
  obtain ⟨⟨y0, y1, y2, y3, y4, y5, y6, y7⟩, yf⟩ := G0.out.2.1.tc8
  obtain ⟨⟨z0, z1, z2, z3, z4, z5, z6, z7⟩, zf⟩ := G0.out.2.2.tc8
  clear yf zf
  go_wp2_with fail
  refine (eqReq_t X.q a1 l1 c1 a2 l2 c2 a1' c1' a2' c2' _ (HR.out.1.below G0.out.1) (HR.out.2.1.below G0.out.1) (HR.out.2.2.1.below G0.out.1) (HR.out.2.2.2.below G0.out.1) HZ.out).mono ?_
  rintro e w1 ⟨rfl, hb1⟩
  have G1 : Hid (Below w.heap.size w w1 ∧ Blk w1 w.heap.size 60 (pL X a1 l1 c1 a2 l2 c2).toArray ∧ Blk w1 (w.heap.size + 1) 60 (pL X a1' l1 c1' a2' l2 c2').toArray) := ⟨bel_nx G0.out.1 hb1, G0.out.2.1.below hb1, G0.out.2.2.below hb1⟩
  clear hb1 y0 y1 y2 y3 y4 y5 y6 y7 z0 z1 z2 z3 z4 z5 z6 z7
  go_wp2
  go_ret
  exact ⟨rfl, G1.out.1⟩
set_option maxRecDepth 20000 in
set_option maxHeartbeats 4000000 in
theorem eqPartS_t (n : Nat) (f : Nat → VP) (a : Option Addr) (n' cap : Nat) (a' : Option Addr) (cap' : Nat) (w : World) (hs : Rd w 0 (.list 8 n (fun k => trs (pT (f k)))) (.slice a n' cap)) (hs' : Rd w 0 (.list 8 n (fun k => trs (pT (f k)))) (.slice a' n' cap')) (hz : (Tr.list 8 n (fun k => trs (pT (f k)))).sz ≤ 1048576) :
    Calls Try.prog 51 #[.slice a n' cap, .slice a' n' cap'] w fun e w' => e = .returned (.bool true) ∧ Below w.heap.size w w' := by
  obtain ⟨a9, c9, h9, -, hn⟩ := hs.shape
  simp only [Value.slice.injEq] at h9
  obtain ⟨-, rfl, -⟩ := h9
  clear a9 c9 hn
  have hn1 : n' ≤ 1048576 := by rw [Tr.sz_list] at hz; omega
  have HZ : Hid (∀ k, k < n' → szT 8 (trs (pT (f k))) ≤ 1048576) := by
    show ∀ k, k < n' → szT 8 (trs (pT (f k))) ≤ 1048576
    intro k hk
    rw [Tr.sz_list] at hz
    have := sumN_at (fun k => szT 8 (trs (pT (f k)))) hk
    omega
  have HS : Hid (Rd w 0 (.list 8 n' (fun k => trs (pT (f k)))) (.slice a n' cap) ∧ Rd w 0 (.list 8 n' (fun k => trs (pT (f k)))) (.slice a' n' cap')) := ⟨hs, hs'⟩
  clear hs hs' hz
  go_enter Try.func51, Try.ntmps51
  go_wp2
  go_loopw [5] (fun i wr => ∃ z : Nat, z ≤ n' ∧ i = .int .i64 z ∧ Below w.heap.size w wr) (fun i _ => n' - (intOf i).toNat)
  case atStart => exact ⟨0, Nat.zero_le _, rfl, Below.refl _ _⟩
  case round =>
    obtain ⟨k, hk, rfl, hbl⟩ := hrel
    by_cases hlt : k < n'
    · have hi : (k : Int) < (n' : Int) := by omega
      obtain ⟨b, off, vs, rfl, _, hb0, hlen, hr, hrd⟩ := (HS.out.1.below hbl).at hlt
      obtain ⟨a1, c1, a2, c2, rfl, r1, r2⟩ := VP.cells hrd hlen
      clear hlen hrd hb0
      obtain ⟨b', off', vs, rfl, _, hb0, hlen, hr', hrd⟩ := (HS.out.2.below hbl).at hlt
      obtain ⟨a1', c1', a2', c2', rfl, r1', r2'⟩ := VP.cells hrd hlen
      clear hlen hrd hb0
      have d09 : wr.cell? ⟨b, off + k * 8, none⟩ = _ := hr 0 _ rfl
      have e09 : wr.cell? ⟨b', off' + k * 8, none⟩ = _ := hr' 0 _ rfl
      have d19 : wr.cell? ⟨b, off + k * 8 + 1, none⟩ = _ := hr 1 _ rfl
      have e19 : wr.cell? ⟨b', off' + k * 8 + 1, none⟩ = _ := hr' 1 _ rfl
      have d29 : wr.cell? ⟨b, off + k * 8 + 2, none⟩ = _ := hr 2 _ rfl
      have e29 : wr.cell? ⟨b', off' + k * 8 + 2, none⟩ = _ := hr' 2 _ rfl
      have d39 : wr.cell? ⟨b, off + k * 8 + 3, none⟩ = _ := hr 3 _ rfl
      have e39 : wr.cell? ⟨b', off' + k * 8 + 3, none⟩ = _ := hr' 3 _ rfl
      have d49 : wr.cell? ⟨b, off + k * 8 + 4, none⟩ = _ := hr 4 _ rfl
      have e49 : wr.cell? ⟨b', off' + k * 8 + 4, none⟩ = _ := hr' 4 _ rfl
      have d59 : wr.cell? ⟨b, off + k * 8 + 5, none⟩ = _ := hr 5 _ rfl
      have e59 : wr.cell? ⟨b', off' + k * 8 + 5, none⟩ = _ := hr' 5 _ rfl
      have d69 : wr.cell? ⟨b, off + k * 8 + 6, none⟩ = _ := hr 6 _ rfl
      have e69 : wr.cell? ⟨b', off' + k * 8 + 6, none⟩ = _ := hr' 6 _ rfl
      have d79 : wr.cell? ⟨b, off + k * 8 + 7, none⟩ = _ := hr 7 _ rfl
      have e79 : wr.cell? ⟨b', off' + k * 8 + 7, none⟩ = _ := hr' 7 _ rfl
      have HK : Hid (Below w.heap.size w wr ∧ szT 8 (trs (pT (f k))) ≤ 1048576 ∧ Rd wr 0 (intsT (f k).q.ws) (.slice a1 ((f k).q.ws.length) c1) ∧ Rd wr 0 (boolsT (f k).q.bs) (.slice a2 ((f k).q.bs.length) c2) ∧ Rd wr 0 (intsT (f k).q.ws) (.slice a1' ((f k).q.ws.length) c1') ∧ Rd wr 0 (boolsT (f k).q.bs) (.slice a2' ((f k).q.bs.length) c2')) := ⟨hbl, HZ.out k hlt, r1, r2, r1', r2'⟩
      clear r1 r2 r1' r2' hr hr' hbl
      go_wp2_with fail
      go_region_with (go_at_call 73; refine (eqPart_t (f k) a1 ((f k).q.ws.length) c1 a2 ((f k).q.bs.length) c2 a1' c1' a2' c2' _ (HK.out.2.2.1.below (by first | exact Below.refl _ _ | exact (Below.refl _ _).drew | exact (Below.refl _ _).drew.drew)) (HK.out.2.2.2.1.below (by first | exact Below.refl _ _ | exact (Below.refl _ _).drew | exact (Below.refl _ _).drew.drew)) (HK.out.2.2.2.2.1.below (by first | exact Below.refl _ _ | exact (Below.refl _ _).drew | exact (Below.refl _ _).drew.drew)) (HK.out.2.2.2.2.2.below (by first | exact Below.refl _ _ | exact (Below.refl _ _).drew | exact (Below.refl _ _).drew.drew)) HK.out.2.1).mono ?_; rintro e w1 ⟨rfl, b1'⟩; have b1 : Below wr.heap.size wr w1 := bel_nx (by first | exact Below.refl _ _ | exact (Below.refl _ _).drew | exact (Below.refl _ _).drew.drew) b1'; clear b1')
      all_goals (
        have B1 := bel_nx HK.out.1 b1
        clear HK b1 d09 e09 d19 e19 d29 e29 d39 e39 d49 e49 d59 e59 d69 e69 d79 e79
        go_wp2
        go_roundw
        case rel => exact ⟨k + 1, by omega, by go_num, B1⟩
        case measure => simp [intOf]; omega)
    · have hi : ¬ (k : Int) < (n' : Int) := by omega
      go_wp2
      go_ret
      exact ⟨rfl, hbl⟩
set_option maxRecDepth 20000 in
set_option maxHeartbeats 4000000 in
theorem eqPend_t (X : VD) (a1 : Option Addr) (l1 c1 : Nat) (a2 : Option Addr) (l2 c2 : Nat) (a3 : Option Addr) (l3 c3 : Nat) (a4 : Option Addr) (l4 c4 : Nat) (a5 : Option Addr) (l5 c5 : Nat) (a1' : Option Addr) (c1' : Nat) (a2' : Option Addr) (c2' : Nat) (a3' : Option Addr) (c3' : Nat) (a4' : Option Addr) (c4' : Nat) (a5' : Option Addr) (c5' : Nat) (w : World) (r1 : Rd w 0 (intsT X.q.ws) (.slice a1 l1 c1)) (r2 : Rd w 0 (boolsT X.q.bs) (.slice a2 l2 c2)) (r3 : Rd w 0 (.list 8 X.np (fun i => trs (pT (X.pt i)))) (.slice a3 l3 c3)) (r4 : Rd w 0 (boolsT X.hs) (.slice a4 l4 c4)) (r5 : Rd w 0 (.list 6 X.nt (fun i => trs (aT (X.tl i)))) (.slice a5 l5 c5)) (r1' : Rd w 0 (intsT X.q.ws) (.slice a1' l1 c1')) (r2' : Rd w 0 (boolsT X.q.bs) (.slice a2' l2 c2')) (r3' : Rd w 0 (.list 8 X.np (fun i => trs (pT (X.pt i)))) (.slice a3' l3 c3')) (r4' : Rd w 0 (boolsT X.hs) (.slice a4' l4 c4')) (r5' : Rd w 0 (.list 6 X.nt (fun i => trs (aT (X.tl i)))) (.slice a5' l5 c5')) (hz : szT 13 (trs (dT X)) ≤ 1048576) :
    Calls Try.prog 29 #[.agg (dL X a1 l1 c1 a2 l2 c2 a3 l3 c3 a4 l4 c4 a5 l5 c5).toArray, .agg (dL X a1' l1 c1' a2' l2 c2' a3' l3 c3' a4' l4 c4' a5' l5 c5').toArray] w fun e w' => e = .returned (.bool true) ∧ Below w.heap.size w w' := by
  obtain ⟨W, hW⟩ : ∃ W, W = (w.alloc (.cells (dL X a1 l1 c1 a2 l2 c2 a3 l3 c3 a4 l4 c4 a5 l5 c5).toArray 44)).alloc (.cells (dL X a1' l1 c1' a2' l2 c2' a3' l3 c3' a4' l4 c4' a5' l5 c5').toArray 44) := ⟨_, rfl⟩
  have HZ : Hid (szT 6 (trs (qT X.q)) ≤ 1048576 ∧ (Tr.list 8 X.np (fun i => trs (pT (X.pt i)))).sz ≤ 1048576 ∧ X.hs.length ≤ 1048576 ∧ (Tr.list 6 X.nt (fun i => trs (aT (X.tl i)))).sz ≤ 1048576) := by
    rw [szT_d] at hz
    show szT 6 (trs (qT X.q)) ≤ 1048576 ∧ (Tr.list 8 X.np (fun i => trs (pT (X.pt i)))).sz ≤ 1048576 ∧ X.hs.length ≤ 1048576 ∧ (Tr.list 6 X.nt (fun i => trs (aT (X.tl i)))).sz ≤ 1048576
    try simp only [szT_q, szT_a, szT_p, szT_d, szT_t, true_and]
    omega
  have HR : Hid (Rd w 0 (intsT X.q.ws) (.slice a1 l1 c1) ∧ Rd w 0 (boolsT X.q.bs) (.slice a2 l2 c2) ∧ Rd w 0 (.list 8 X.np (fun i => trs (pT (X.pt i)))) (.slice a3 l3 c3) ∧ Rd w 0 (boolsT X.hs) (.slice a4 l4 c4) ∧ Rd w 0 (.list 6 X.nt (fun i => trs (aT (X.tl i)))) (.slice a5 l5 c5) ∧ Rd w 0 (intsT X.q.ws) (.slice a1' l1 c1') ∧ Rd w 0 (boolsT X.q.bs) (.slice a2' l2 c2') ∧ Rd w 0 (.list 8 X.np (fun i => trs (pT (X.pt i)))) (.slice a3' l3 c3') ∧ Rd w 0 (boolsT X.hs) (.slice a4' l4 c4') ∧ Rd w 0 (.list 6 X.nt (fun i => trs (aT (X.tl i)))) (.slice a5' l5 c5')) := ⟨r1, r2, r3, r4, r5, r1', r2', r3', r4', r5'⟩
  have G0 : Hid (Below w.heap.size w W ∧ Blk W w.heap.size 44 (dL X a1 l1 c1 a2 l2 c2 a3 l3 c3 a4 l4 c4 a5 l5 c5).toArray ∧ Blk W (w.heap.size + 1) 44 (dL X a1' l1 c1' a2' l2 c2' a3' l3 c3' a4' l4 c4' a5' l5 c5').toArray) := ⟨by rw [hW]; exact bel_nx (bel_alloc _ _) (bel_alloc _ _), by rw [hW]; exact (Blk.new w _ _).below (bel_alloc _ _), by rw [hW]; have := Blk.new (w.alloc (.cells (dL X a1 l1 c1 a2 l2 c2 a3 l3 c3 a4 l4 c4 a5 l5 c5).toArray 44)) (dL X a1' l1 c1' a2' l2 c2' a3' l3 c3' a4' l4 c4' a5' l5 c5').toArray 44; simpa using this⟩
  clear hz r1 r2 r3 r4 r5 r1' r2' r3' r4' r5'
  go_enter Try.func29, Try.ntmps29
  go_upto_region 1 with fail
  rw [← hW]
  clear hW
  obtain ⟨⟨y0, y1, y2, y3, y4, y5, y6, y7, y8, y9, y10, y11, y12⟩, yf⟩ := G0.out.2.1.tc13
  obtain ⟨⟨z0, z1, z2, z3, z4, z5, z6, z7, z8, z9, z10, z11, z12⟩, zf⟩ := G0.out.2.2.tc13
  clear yf zf
  go_wp2_with fail
  refine (eqReq_t X.q a1 l1 c1 a2 l2 c2 a1' c1' a2' c2' _ (HR.out.1.below G0.out.1) (HR.out.2.1.below G0.out.1) (HR.out.2.2.2.2.2.1.below G0.out.1) (HR.out.2.2.2.2.2.2.1.below G0.out.1) HZ.out.1).mono ?_
  rintro e w1 ⟨rfl, hb1⟩
  have G1 : Hid (Below w.heap.size w w1 ∧ Blk w1 w.heap.size 44 (dL X a1 l1 c1 a2 l2 c2 a3 l3 c3 a4 l4 c4 a5 l5 c5).toArray ∧ Blk w1 (w.heap.size + 1) 44 (dL X a1' l1 c1' a2' l2 c2' a3' l3 c3' a4' l4 c4' a5' l5 c5').toArray) := ⟨bel_nx G0.out.1 hb1, G0.out.2.1.below hb1, G0.out.2.2.below hb1⟩
  clear hb1 y0 y1 y2 y3 y4 y5 y6 y7 y8 y9 y10 y11 y12 z0 z1 z2 z3 z4 z5 z6 z7 z8 z9 z10 z11 z12
  obtain ⟨⟨y0, y1, y2, y3, y4, y5, y6, y7, y8, y9, y10, y11, y12⟩, yf⟩ := G1.out.2.1.tc13
  obtain ⟨⟨z0, z1, z2, z3, z4, z5, z6, z7, z8, z9, z10, z11, z12⟩, zf⟩ := G1.out.2.2.tc13
  clear yf zf
  go_wp2_with fail
  refine (eqPartS_t X.np X.pt a3 l3 c3 a3' c3' _ (HR.out.2.2.1.below G1.out.1) (HR.out.2.2.2.2.2.2.2.1.below G1.out.1) HZ.out.2.1).mono ?_
  rintro e w2 ⟨rfl, hb2⟩
  have G2 : Hid (Below w.heap.size w w2 ∧ Blk w2 w.heap.size 44 (dL X a1 l1 c1 a2 l2 c2 a3 l3 c3 a4 l4 c4 a5 l5 c5).toArray ∧ Blk w2 (w.heap.size + 1) 44 (dL X a1' l1 c1' a2' l2 c2' a3' l3 c3' a4' l4 c4' a5' l5 c5').toArray) := ⟨bel_nx G1.out.1 hb2, G1.out.2.1.below hb2, G1.out.2.2.below hb2⟩
  clear hb2 y0 y1 y2 y3 y4 y5 y6 y7 y8 y9 y10 y11 y12 z0 z1 z2 z3 z4 z5 z6 z7 z8 z9 z10 z11 z12
  obtain ⟨⟨y0, y1, y2, y3, y4, y5, y6, y7, y8, y9, y10, y11, y12⟩, yf⟩ := G2.out.2.1.tc13
  obtain ⟨⟨z0, z1, z2, z3, z4, z5, z6, z7, z8, z9, z10, z11, z12⟩, zf⟩ := G2.out.2.2.tc13
  clear yf zf
  go_wp2_with fail
  refine (eqBoolS_t X.hs a4 l4 c4 a4' c4' _ (HR.out.2.2.2.1.below G2.out.1) (HR.out.2.2.2.2.2.2.2.2.1.below G2.out.1) HZ.out.2.2.1).mono ?_
  rintro e w3 ⟨rfl, hb3⟩
  have G3 : Hid (Below w.heap.size w w3 ∧ Blk w3 w.heap.size 44 (dL X a1 l1 c1 a2 l2 c2 a3 l3 c3 a4 l4 c4 a5 l5 c5).toArray ∧ Blk w3 (w.heap.size + 1) 44 (dL X a1' l1 c1' a2' l2 c2' a3' l3 c3' a4' l4 c4' a5' l5 c5').toArray) := ⟨bel_nx G2.out.1 hb3, G2.out.2.1.below hb3, G2.out.2.2.below hb3⟩
  clear hb3 y0 y1 y2 y3 y4 y5 y6 y7 y8 y9 y10 y11 y12 z0 z1 z2 z3 z4 z5 z6 z7 z8 z9 z10 z11 z12
  obtain ⟨⟨y0, y1, y2, y3, y4, y5, y6, y7, y8, y9, y10, y11, y12⟩, yf⟩ := G3.out.2.1.tc13
  obtain ⟨⟨z0, z1, z2, z3, z4, z5, z6, z7, z8, z9, z10, z11, z12⟩, zf⟩ := G3.out.2.2.tc13
  clear yf zf
  go_wp2_with fail
  refine (eqRespS_t X.nt X.tl a5 l5 c5 a5' c5' _ (HR.out.2.2.2.2.1.below G3.out.1) (HR.out.2.2.2.2.2.2.2.2.2.below G3.out.1) HZ.out.2.2.2).mono ?_
  rintro e w4 ⟨rfl, hb4⟩
  have G4 : Hid (Below w.heap.size w w4 ∧ Blk w4 w.heap.size 44 (dL X a1 l1 c1 a2 l2 c2 a3 l3 c3 a4 l4 c4 a5 l5 c5).toArray ∧ Blk w4 (w.heap.size + 1) 44 (dL X a1' l1 c1' a2' l2 c2' a3' l3 c3' a4' l4 c4' a5' l5 c5').toArray) := ⟨bel_nx G3.out.1 hb4, G3.out.2.1.below hb4, G3.out.2.2.below hb4⟩
  clear hb4 y0 y1 y2 y3 y4 y5 y6 y7 y8 y9 y10 y11 y12 z0 z1 z2 z3 z4 z5 z6 z7 z8 z9 z10 z11 z12
  go_wp2
  go_ret
  exact ⟨rfl, G4.out.1⟩
set_option maxRecDepth 20000 in
set_option maxHeartbeats 4000000 in
theorem eqPendS_t (n : Nat) (f : Nat → VD) (a : Option Addr) (n' cap : Nat) (a' : Option Addr) (cap' : Nat) (w : World) (hs : Rd w 0 (.list 13 n (fun k => trs (dT (f k)))) (.slice a n' cap)) (hs' : Rd w 0 (.list 13 n (fun k => trs (dT (f k)))) (.slice a' n' cap')) (hz : (Tr.list 13 n (fun k => trs (dT (f k)))).sz ≤ 1048576) :
    Calls Try.prog 18 #[.slice a n' cap, .slice a' n' cap'] w fun e w' => e = .returned (.bool true) ∧ Below w.heap.size w w' := by
  obtain ⟨a9, c9, h9, -, hn⟩ := hs.shape
  simp only [Value.slice.injEq] at h9
  obtain ⟨-, rfl, -⟩ := h9
  clear a9 c9 hn
  have hn1 : n' ≤ 1048576 := by rw [Tr.sz_list] at hz; omega
  have HZ : Hid (∀ k, k < n' → szT 13 (trs (dT (f k))) ≤ 1048576) := by
    show ∀ k, k < n' → szT 13 (trs (dT (f k))) ≤ 1048576
    intro k hk
    rw [Tr.sz_list] at hz
    have := sumN_at (fun k => szT 13 (trs (dT (f k)))) hk
    omega
  have HS : Hid (Rd w 0 (.list 13 n' (fun k => trs (dT (f k)))) (.slice a n' cap) ∧ Rd w 0 (.list 13 n' (fun k => trs (dT (f k)))) (.slice a' n' cap')) := ⟨hs, hs'⟩
  clear hs hs' hz
  go_enter Try.func18, Try.ntmps18
  go_wp2
  go_loopw [5] (fun i wr => ∃ z : Nat, z ≤ n' ∧ i = .int .i64 z ∧ Below w.heap.size w wr) (fun i _ => n' - (intOf i).toNat)
  case atStart => exact ⟨0, Nat.zero_le _, rfl, Below.refl _ _⟩
  case round =>
    obtain ⟨k, hk, rfl, hbl⟩ := hrel
    by_cases hlt : k < n'
    · have hi : (k : Int) < (n' : Int) := by omega
      obtain ⟨b, off, vs, rfl, _, hb0, hlen, hr, hrd⟩ := (HS.out.1.below hbl).at hlt
      obtain ⟨a1, c1, a2, c2, a3, c3, a4, c4, a5, c5, rfl, r1, r2, r3, r4, r5⟩ := VD.cells hrd hlen
      clear hlen hrd hb0
      obtain ⟨b', off', vs, rfl, _, hb0, hlen, hr', hrd⟩ := (HS.out.2.below hbl).at hlt
      obtain ⟨a1', c1', a2', c2', a3', c3', a4', c4', a5', c5', rfl, r1', r2', r3', r4', r5'⟩ := VD.cells hrd hlen
      clear hlen hrd hb0
      have d09 : wr.cell? ⟨b, off + k * 13, none⟩ = _ := hr 0 _ rfl
      have e09 : wr.cell? ⟨b', off' + k * 13, none⟩ = _ := hr' 0 _ rfl
      have d19 : wr.cell? ⟨b, off + k * 13 + 1, none⟩ = _ := hr 1 _ rfl
      have e19 : wr.cell? ⟨b', off' + k * 13 + 1, none⟩ = _ := hr' 1 _ rfl
      have d29 : wr.cell? ⟨b, off + k * 13 + 2, none⟩ = _ := hr 2 _ rfl
      have e29 : wr.cell? ⟨b', off' + k * 13 + 2, none⟩ = _ := hr' 2 _ rfl
      have d39 : wr.cell? ⟨b, off + k * 13 + 3, none⟩ = _ := hr 3 _ rfl
      have e39 : wr.cell? ⟨b', off' + k * 13 + 3, none⟩ = _ := hr' 3 _ rfl
      have d49 : wr.cell? ⟨b, off + k * 13 + 4, none⟩ = _ := hr 4 _ rfl
      have e49 : wr.cell? ⟨b', off' + k * 13 + 4, none⟩ = _ := hr' 4 _ rfl
      have d59 : wr.cell? ⟨b, off + k * 13 + 5, none⟩ = _ := hr 5 _ rfl
      have e59 : wr.cell? ⟨b', off' + k * 13 + 5, none⟩ = _ := hr' 5 _ rfl
      have d69 : wr.cell? ⟨b, off + k * 13 + 6, none⟩ = _ := hr 6 _ rfl
      have e69 : wr.cell? ⟨b', off' + k * 13 + 6, none⟩ = _ := hr' 6 _ rfl
      have d79 : wr.cell? ⟨b, off + k * 13 + 7, none⟩ = _ := hr 7 _ rfl
      have e79 : wr.cell? ⟨b', off' + k * 13 + 7, none⟩ = _ := hr' 7 _ rfl
      have d89 : wr.cell? ⟨b, off + k * 13 + 8, none⟩ = _ := hr 8 _ rfl
      have e89 : wr.cell? ⟨b', off' + k * 13 + 8, none⟩ = _ := hr' 8 _ rfl
      have d99 : wr.cell? ⟨b, off + k * 13 + 9, none⟩ = _ := hr 9 _ rfl
      have e99 : wr.cell? ⟨b', off' + k * 13 + 9, none⟩ = _ := hr' 9 _ rfl
      have d109 : wr.cell? ⟨b, off + k * 13 + 10, none⟩ = _ := hr 10 _ rfl
      have e109 : wr.cell? ⟨b', off' + k * 13 + 10, none⟩ = _ := hr' 10 _ rfl
      have d119 : wr.cell? ⟨b, off + k * 13 + 11, none⟩ = _ := hr 11 _ rfl
      have e119 : wr.cell? ⟨b', off' + k * 13 + 11, none⟩ = _ := hr' 11 _ rfl
      have d129 : wr.cell? ⟨b, off + k * 13 + 12, none⟩ = _ := hr 12 _ rfl
      have e129 : wr.cell? ⟨b', off' + k * 13 + 12, none⟩ = _ := hr' 12 _ rfl
      have HK : Hid (Below w.heap.size w wr ∧ szT 13 (trs (dT (f k))) ≤ 1048576 ∧ Rd wr 0 (intsT (f k).q.ws) (.slice a1 ((f k).q.ws.length) c1) ∧ Rd wr 0 (boolsT (f k).q.bs) (.slice a2 ((f k).q.bs.length) c2) ∧ Rd wr 0 (.list 8 (f k).np (fun i => trs (pT ((f k).pt i)))) (.slice a3 ((f k).np) c3) ∧ Rd wr 0 (boolsT (f k).hs) (.slice a4 ((f k).hs.length) c4) ∧ Rd wr 0 (.list 6 (f k).nt (fun i => trs (aT ((f k).tl i)))) (.slice a5 ((f k).nt) c5) ∧ Rd wr 0 (intsT (f k).q.ws) (.slice a1' ((f k).q.ws.length) c1') ∧ Rd wr 0 (boolsT (f k).q.bs) (.slice a2' ((f k).q.bs.length) c2') ∧ Rd wr 0 (.list 8 (f k).np (fun i => trs (pT ((f k).pt i)))) (.slice a3' ((f k).np) c3') ∧ Rd wr 0 (boolsT (f k).hs) (.slice a4' ((f k).hs.length) c4') ∧ Rd wr 0 (.list 6 (f k).nt (fun i => trs (aT ((f k).tl i)))) (.slice a5' ((f k).nt) c5')) := ⟨hbl, HZ.out k hlt, r1, r2, r3, r4, r5, r1', r2', r3', r4', r5'⟩
      clear r1 r2 r3 r4 r5 r1' r2' r3' r4' r5' hr hr' hbl
      go_wp2_with fail
      go_region_with (go_at_call 29; refine (eqPend_t (f k) a1 ((f k).q.ws.length) c1 a2 ((f k).q.bs.length) c2 a3 ((f k).np) c3 a4 ((f k).hs.length) c4 a5 ((f k).nt) c5 a1' c1' a2' c2' a3' c3' a4' c4' a5' c5' _ (HK.out.2.2.1.below (by first | exact Below.refl _ _ | exact (Below.refl _ _).drew | exact (Below.refl _ _).drew.drew)) (HK.out.2.2.2.1.below (by first | exact Below.refl _ _ | exact (Below.refl _ _).drew | exact (Below.refl _ _).drew.drew)) (HK.out.2.2.2.2.1.below (by first | exact Below.refl _ _ | exact (Below.refl _ _).drew | exact (Below.refl _ _).drew.drew)) (HK.out.2.2.2.2.2.1.below (by first | exact Below.refl _ _ | exact (Below.refl _ _).drew | exact (Below.refl _ _).drew.drew)) (HK.out.2.2.2.2.2.2.1.below (by first | exact Below.refl _ _ | exact (Below.refl _ _).drew | exact (Below.refl _ _).drew.drew)) (HK.out.2.2.2.2.2.2.2.1.below (by first | exact Below.refl _ _ | exact (Below.refl _ _).drew | exact (Below.refl _ _).drew.drew)) (HK.out.2.2.2.2.2.2.2.2.1.below (by first | exact Below.refl _ _ | exact (Below.refl _ _).drew | exact (Below.refl _ _).drew.drew)) (HK.out.2.2.2.2.2.2.2.2.2.1.below (by first | exact Below.refl _ _ | exact (Below.refl _ _).drew | exact (Below.refl _ _).drew.drew)) (HK.out.2.2.2.2.2.2.2.2.2.2.1.below (by first | exact Below.refl _ _ | exact (Below.refl _ _).drew | exact (Below.refl _ _).drew.drew)) (HK.out.2.2.2.2.2.2.2.2.2.2.2.below (by first | exact Below.refl _ _ | exact (Below.refl _ _).drew | exact (Below.refl _ _).drew.drew)) HK.out.2.1).mono ?_; rintro e w1 ⟨rfl, b1'⟩; have b1 : Below wr.heap.size wr w1 := bel_nx (by first | exact Below.refl _ _ | exact (Below.refl _ _).drew | exact (Below.refl _ _).drew.drew) b1'; clear b1')
      all_goals (
        have B1 := bel_nx HK.out.1 b1
        clear HK b1 d09 e09 d19 e19 d29 e29 d39 e39 d49 e49 d59 e59 d69 e69 d79 e79 d89 e89 d99 e99 d109 e109 d119 e119 d129 e129
        go_wp2
        go_roundw
        case rel => exact ⟨k + 1, by omega, by go_num, B1⟩
        case measure => simp [intOf]; omega)
    · have hi : ¬ (k : Int) < (n' : Int) := by omega
      go_wp2
      go_ret
      exact ⟨rfl, hbl⟩
set_option maxRecDepth 20000 in
set_option maxHeartbeats 4000000 in
theorem eqTable_t (X : VT) (a1 : Option Addr) (l1 c1 : Nat) (a1' : Option Addr) (c1' : Nat) (w : World) (r1 : Rd w 0 (.list 13 X.m (fun i => trs (dT (X.f i)))) (.slice a1 l1 c1)) (r1' : Rd w 0 (.list 13 X.m (fun i => trs (dT (X.f i)))) (.slice a1' l1 c1')) (hz : szT 2 (trs (tT X)) ≤ 1048576) :
    Calls Try.prog 9 #[.agg (tL X a1 l1 c1).toArray, .agg (tL X a1' l1 c1').toArray] w fun e w' => e = .returned (.bool true) ∧ Below w.heap.size w w' := by
  obtain ⟨W, hW⟩ : ∃ W, W = (w.alloc (.cells (tL X a1 l1 c1).toArray 29)).alloc (.cells (tL X a1' l1 c1').toArray 29) := ⟨_, rfl⟩
  have HZ : Hid ((Tr.list 13 X.m (fun i => trs (dT (X.f i)))).sz ≤ 1048576) := by
    rw [szT_t] at hz
    show (Tr.list 13 X.m (fun i => trs (dT (X.f i)))).sz ≤ 1048576
    try simp only [szT_q, szT_a, szT_p, szT_d, szT_t, true_and]
    omega
  have HR : Hid (Rd w 0 (.list 13 X.m (fun i => trs (dT (X.f i)))) (.slice a1 l1 c1) ∧ Rd w 0 (.list 13 X.m (fun i => trs (dT (X.f i)))) (.slice a1' l1 c1')) := ⟨r1, r1'⟩
  have G0 : Hid (Below w.heap.size w W ∧ Blk W w.heap.size 29 (tL X a1 l1 c1).toArray ∧ Blk W (w.heap.size + 1) 29 (tL X a1' l1 c1').toArray) := ⟨by rw [hW]; exact bel_nx (bel_alloc _ _) (bel_alloc _ _), by rw [hW]; exact (Blk.new w _ _).below (bel_alloc _ _), by rw [hW]; have := Blk.new (w.alloc (.cells (tL X a1 l1 c1).toArray 29)) (tL X a1' l1 c1').toArray 29; simpa using this⟩
  clear hz r1 r1'
  go_enter Try.func9, Try.ntmps9
  go_upto_region 1 with fail
  rw [← hW]
  clear hW
  obtain ⟨⟨y0, y1⟩, yf⟩ := G0.out.2.1.tc2
  obtain ⟨⟨z0, z1⟩, zf⟩ := G0.out.2.2.tc2
  clear yf zf
  go_wp2_with fail
  refine (eqPendS_t X.m X.f a1 l1 c1 a1' c1' _ (HR.out.1.below G0.out.1) (HR.out.2.below G0.out.1) HZ.out).mono ?_
  rintro e w1 ⟨rfl, hb1⟩
  have G1 : Hid (Below w.heap.size w w1 ∧ Blk w1 w.heap.size 29 (tL X a1 l1 c1).toArray ∧ Blk w1 (w.heap.size + 1) 29 (tL X a1' l1 c1').toArray) := ⟨bel_nx G0.out.1 hb1, G0.out.2.1.below hb1, G0.out.2.2.below hb1⟩
  clear hb1 y0 y1 z0 z1
  go_wp2
  go_ret
  exact ⟨rfl, G1.out.1⟩
end Go.Proofs.Ytfagbjffhjnmaaa
namespace Go.Proofs.Ytfagbjffhjnmaaa
open Go.RowKit Go.Joins
set_option linter.unusedVariables false
set_option linter.unusedSimpArgs false
set_option maxRecDepth 20000 in
set_option maxHeartbeats 4000000 in
theorem waiting_big (X : VT) (a : Option Addr) (c : Nat) (w : World) (h : Rd w 0 (.list 13 X.m (fun i => trs (dT (X.f i)))) (.slice a X.m c)) (hz : ¬ szT 2 (trs (tT X)) ≤ 1048576) :
    Calls Try.prog 4 #[.agg (tL X a X.m c).toArray] w fun e w' => e = .returned (.bool true) ∧ Below w.heap.size w w' := by
  have HX : Hid (lfT 1048576 (szT 2 (trs (tT X))) = -1) := by show _ = _; unfold lfT; rw [if_neg hz]
  obtain ⟨W, hW⟩ : ∃ W, W = w.alloc (.cells (tL X a X.m c).toArray 24) := ⟨_, rfl⟩
  have b0 : Below w.heap.size w W := by rw [hW]; exact bel_alloc _ _
  have A0 : Blk W w.heap.size 24 (tL X a X.m c).toArray := by rw [hW]; exact Blk.new _ _ _
  have H0 : Hid (Below w.heap.size w W ∧ Rd W 0 (.list 13 X.m (fun i => trs (dT (X.f i)))) (.slice a X.m c)) := ⟨b0, h.below b0⟩
  obtain ⟨⟨y0, y1⟩, yf⟩ := A0.tc2
  clear yf A0 b0 h hz
  go_enter Try.func4, Try.ntmps4
  go_upto_region 1 with fail
  rw [← hW]
  clear hW
  go_wp2_with fail
  refine (szTable_t X a _ c 1048576 _ H0.out.2 (Nat.le_refl _)).mono ?_
  rintro e w1 ⟨rfl, b1⟩
  rw [HX.out]
  have B := bel_nx H0.out.1 b1
  clear b1 y0 y1
  go_wp2
  go_ret
  exact ⟨rfl, B⟩
set_option maxRecDepth 20000 in
set_option maxHeartbeats 4000000 in
theorem waiting_law (X : VT) (a : Option Addr) (c : Nat) (w : World) (h : Rd w 0 (.list 13 X.m (fun i => trs (dT (X.f i)))) (.slice a X.m c)) (hz : szT 2 (trs (tT X)) ≤ 1048576) :
    Calls Try.prog 4 #[.agg (tL X a X.m c).toArray] w fun e w' => e = .returned (.bool true) ∧ Below w.heap.size w w' := by
  obtain ⟨lf, hlf⟩ : ∃ lf, lf = lfT 1048576 (szT 2 (trs (tT X))) := ⟨_, rfl⟩
  have hnn : ¬ (lf < 0) := by rw [hlf]; unfold lfT; rw [if_pos hz]; omega
  obtain ⟨B, hB⟩ : ∃ B, B = w.heap.size := ⟨_, rfl⟩
  obtain ⟨W, hW⟩ : ∃ W, W = w.alloc (.cells (tL X a X.m c).toArray 24) := ⟨_, rfl⟩
  have b0 : Below w.heap.size w W := by rw [hW]; exact bel_alloc _ _
  have A0 : Blk W B 24 (tL X a X.m c).toArray := by rw [hW, hB]; exact Blk.new _ _ _
  have HH : Hid (Rd W 0 (.list 13 X.m (fun i => trs (dT (X.f i)))) (.slice a X.m c) ∧ szT 2 (trs (tT X)) ≤ 1048576 ∧ BdT X ∧ lf = lfT 1048576 (szT 2 (trs (tT X))) ∧ Below w.heap.size w W) := ⟨h.below b0, hz, VT.bd (by omega), hlf, b0⟩
  obtain ⟨ok, hok⟩ : ∃ ok, ok = (if okTb X then (wtT X X.m : Int) else 0) := ⟨_, rfl⟩
  have HO : Hid (ok = (if okTb X then (wtT X X.m : Int) else 0)) := hok
  have H0 : Hid (Below W.heap.size W W ∧ Blk W B 24 (tL X a X.m c).toArray) := ⟨Below.refl _ _, A0⟩
  obtain ⟨⟨y0, y1⟩, yf⟩ := A0.tc2
  clear yf A0 b0 h hz hlf hok
  go_enter Try.func4, Try.ntmps4
  go_upto_region 1 with fail
  rw [← hW, ← hB]
  clear hW hB
  go_wp2_with fail
  refine (szTable_t X a _ c 1048576 _ HH.out.1 (Nat.le_refl _)).mono ?_
  rintro e w1 ⟨rfl, b'⟩
  rw [← HH.out.2.2.2.1]
  have H1 : Hid (Below W.heap.size W w1 ∧ Blk w1 B 24 (tL X a X.m c).toArray) := ⟨b', H0.out.2.below b'⟩
  clear b' H0 y0 y1
  obtain ⟨⟨y0, y1⟩, yf⟩ := H1.out.2.tc2
  clear yf
  go_wp2_with fail
  refine (toTable_t X a _ c _ (HH.out.1.below H1.out.1) HH.out.2.1).mono ?_
  rintro e w2 ⟨g2, d2, rfl, R2, b'⟩
  have H2 : Hid (Below W.heap.size W w2 ∧ Blk w2 B 24 (tL X a X.m c).toArray ∧ TbR w2 X g2 d2) := ⟨bel_nx H1.out.1 b', H1.out.2.below b', R2.mono (Nat.zero_le _), HH.out.2.2.1⟩
  clear b' H1 R2 y0 y1
  go_wp2_with fail
  refine (specWaiting_any X g2 d2 _ H2.out.2.2).mono ?_
  rintro e w3 ⟨rfl, b'⟩
  rw [← HO.out]
  have H3 : Hid (Below W.heap.size W w3 ∧ Blk w3 B 24 (tL X a X.m c).toArray) := ⟨bel_nx H2.out.1 b', H2.out.2.1.below b'⟩
  clear b' H2
  obtain ⟨⟨y0, y1⟩, yf⟩ := H3.out.2.tc2
  clear yf
  go_wp2_with fail
  refine (toTable_t X a _ c _ (HH.out.1.below H3.out.1) HH.out.2.1).mono ?_
  rintro e w4 ⟨g4, d4, rfl, R4, b'⟩
  obtain ⟨D, hD⟩ : ∃ D, D = w4.heap.size := ⟨_, rfl⟩
  obtain ⟨W5, hW5⟩ : ∃ W5, W5 = w4.alloc (.cells #[.int .i64 X.nx, .slice g4 X.m d4] 29) := ⟨_, rfl⟩
  have H5 : Hid (Below W.heap.size W W5 ∧ Blk W5 B 24 (tL X a X.m c).toArray ∧ Blk W5 D 29 (tL X g4 X.m d4).toArray ∧ TbR W5 X g4 d4) := by
    have b5 : Below w4.heap.size w4 W5 := by rw [hW5]; exact bel_alloc w4 _
    have k5 : Blk W5 D 29 (tL X g4 X.m d4).toArray := by
      rw [hW5, hD]
      exact Blk.new w4 _ _
    exact ⟨bel_nx (bel_nx H3.out.1 b') b5, (H3.out.2.below b').below b5, k5, (R4.mono (Nat.zero_le _)).below b5, HH.out.2.2.1⟩
  clear b' H3 R4 y0 y1
  go_upto_region 7 with fail
  rw [← hW5, ← hD]
  clear hW5 hD
  obtain ⟨⟨y0, y1⟩, yf⟩ := H5.out.2.2.1.tc2
  clear yf
  go_wp2_with fail
  refine (implWaiting_any X g4 d4 _ H5.out.2.2.2).mono ?_
  rintro e w6 ⟨rfl, b'⟩
  rw [← HO.out]
  have H6 : Hid (Below W.heap.size W w6 ∧ Blk w6 B 24 (tL X a X.m c).toArray ∧ Blk w6 D 29 (tL X g4 X.m d4).toArray ∧ TbR w6 X g4 d4) := ⟨bel_nx H5.out.1 b', H5.out.2.1.below b', H5.out.2.2.1.below b', H5.out.2.2.2.below b'⟩
  clear b' H5 y0 y1
  have ebb : (ok == ok) = true := by simp
  have ebn : (ok != ok) = false := by simp
  go_upto_region 10 with fail
  clear ebb ebn
  refine wp_region_any (by kernel_rfl) ?_
  refine wpAny_vals (fun u => Below w6.heap.size w6 u) (fun i v u => match i with
    | 0 => v = .agg (tL X g4 X.m d4).toArray
    | 1 => v = .agg (tL X a X.m c).toArray
    | 2 => ∃ k d, v = .agg (tL X k X.m d).toArray ∧ Rd u 0 (.list 13 X.m (fun i => trs (dT (X.f i)))) (.slice k X.m d)
    | 3 => v = .bool true
    | 4 => v = .bool false
    | _ => True) (by kernel_rfl) (by kernel_rfl) ?_ (by first | exact Below.refl _ _ | exact (Below.refl _ _).drew) ?_ ?_ _ _ rfl (by decide) (fun i => by simp [Array.getD]; try (split <;> rfl))
  · intro i v u u' h hb
    match i with
    | 0 => exact h
    | 1 => exact h
    | 2 =>
      obtain ⟨k, d, e, hl⟩ := h
      exact ⟨k, d, e, hl.below hb⟩
    | 3 => exact h
    | 4 => exact h
    | _ + 5 => trivial
  · intro vs u hR hall
    have e4 : vs 4 = .bool false := hall 4 (by simp)
    simp only [putsL]
    rw [e4]
    clear hall e4
    have HB : Hid (Below w.heap.size w u) := bel_nx (bel_nx HH.out.2.2.2.2 H6.out.1) hR
    clear H6 hR
    go_wp2
    go_ret
    exact ⟨rfl, HB.out⟩
  · intro u i o ρ hR ho hρ hc hf hd
    have hi : i < 5 := by
      have := (Array.getElem?_eq_some_iff.1 ho).1
      simpa using this
    obtain rfl | rfl | rfl | rfl | rfl : i = 0 ∨ i = 1 ∨ i = 2 ∨ i = 3 ∨ i = 4 := by omega
    all_goals (simp only [List.getElem?_toArray, List.getElem?_cons_zero, List.getElem?_cons_succ, Option.some.injEq] at ho; subst ho)
    · have s5 : ρ (.tmp 5) = .pointer (some ⟨D, 0, none⟩) := (hρ 5 (by kernel_rfl)).trans rfl
      exact .inl ⟨rfl, .inl ⟨_, u, run_load_op rfl s5 (run_loadAt_mid u D 0 29 (tL X g4 X.m d4) _ (H6.out.2.2.1.below hR).rng Try.underlying29 rfl (by kernel_rfl)), rfl, hR, Below.refl _ _⟩⟩
    · have s1 : ρ (.tmp 1) = .pointer (some ⟨B, 0, none⟩) := (hρ 1 (by kernel_rfl)).trans rfl
      exact .inl ⟨rfl, .inl ⟨_, u, run_load_op rfl s1 (run_loadAt_mid u B 0 24 (tL X a X.m c) _ (H6.out.2.1.below hR).rng Try.underlying24 rfl (by kernel_rfl)), rfl, hR, Below.refl _ _⟩⟩
    · have h1 : ρ (.tmp 23) = .agg (tL X a X.m c).toArray := hd ⟨1, .data⟩ (by simp) rfl 23 rfl
      refine .inl ⟨rfl, .inr ⟨_, _, run_call_op rfl (hf _) (args := #[.agg (tL X a X.m c).toArray]) (by simp [h1]) (by kernel_rfl), ?_⟩⟩
      refine (toTable_t X a _ c _ (HH.out.1.below (bel_nx H6.out.1 hR)) HH.out.2.1).mono ?_
      rintro e u' ⟨k, d, he, P7, b'⟩
      exact ⟨_, he, ⟨k, d, rfl, P7.mono (Nat.zero_le _)⟩, bel_nx hR b', b'⟩
    · have h0 : ρ (.tmp 22) = .agg (tL X g4 X.m d4).toArray := hd ⟨0, .data⟩ (by simp) rfl 22 rfl
      obtain ⟨k, d, hv, hl⟩ : ∃ k d, ρ (.tmp 24) = .agg (tL X k X.m d).toArray ∧ Rd u 0 (.list 13 X.m (fun i => trs (dT (X.f i)))) (.slice k X.m d) := hd ⟨2, .data⟩ (by simp) rfl 24 rfl
      refine .inl ⟨rfl, .inr ⟨_, _, run_call_op rfl (hf _) (args := #[.agg (tL X g4 X.m d4).toArray, .agg (tL X k X.m d).toArray]) (by simp [h0, hv]) (by kernel_rfl), ?_⟩⟩
      refine (eqTable_t X g4 _ d4 k d _ (H6.out.2.2.2.1.below hR) hl HH.out.2.1).mono ?_
      rintro e u' ⟨he, b'⟩
      exact ⟨_, he, rfl, bel_nx hR b', b'⟩
    · have h3 : ρ (.tmp 25) = .bool true := hd ⟨3, .data⟩ (by simp) rfl 25 rfl
      exact .inl ⟨rfl, .inl ⟨.bool false, u, run_un_op rfl h3 (by go_simp), rfl, hR, Below.refl _ _⟩⟩
end Go.Proofs.Ytfagbjffhjnmaaa
