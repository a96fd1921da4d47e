/- Texts that the proof needs, joined: Tr2 Tr4 Tr8. -/
import Derived.Test.YtccffbbboodolaaV7
import Derived.Test.YtccffbbboodolaaV8
namespace Go.Proofs.Ytccffbbboodolaa
open Go.RowKit Go.Joins
set_option linter.unusedVariables false
set_option linter.unusedSimpArgs false
theorem Blk.tc2 {w : World} {g : Nat} {t : TypeId} {v0 v1 : Value} (h : Blk w g t #[v0, v1]) : (w.cell? ⟨g, 0, none⟩ = some v0 ∧ w.cell? ⟨g, 1, none⟩ = some v1) ∧ ∀ j, w.frozen? ⟨g, j, none⟩ = false :=
  ⟨⟨h.cell 0 rfl, h.cell 1 rfl⟩, h.fro⟩
theorem Blk.tc8 {w : World} {g : Nat} {t : TypeId} {v0 v1 v2 v3 v4 v5 v6 v7 : Value} (h : Blk w g t #[v0, v1, v2, v3, v4, v5, v6, v7]) : (w.cell? ⟨g, 0, none⟩ = some v0 ∧ w.cell? ⟨g, 1, none⟩ = some v1 ∧ w.cell? ⟨g, 2, none⟩ = some v2 ∧ w.cell? ⟨g, 3, none⟩ = some v3 ∧ w.cell? ⟨g, 4, none⟩ = some v4 ∧ w.cell? ⟨g, 5, none⟩ = some v5 ∧ w.cell? ⟨g, 6, none⟩ = some v6 ∧ w.cell? ⟨g, 7, none⟩ = some v7) ∧ ∀ j, w.frozen? ⟨g, j, none⟩ = false :=
  ⟨⟨h.cell 0 rfl, h.cell 1 rfl, h.cell 2 rfl, h.cell 3 rfl, h.cell 4 rfl, h.cell 5 rfl, h.cell 6 rfl, h.cell 7 rfl⟩, h.fro⟩
theorem Blk.tc13 {w : World} {g : Nat} {t : TypeId} {v0 v1 v2 v3 v4 v5 v6 v7 v8 v9 v10 v11 v12 : Value} (h : Blk w g t #[v0, v1, v2, v3, v4, v5, v6, v7, v8, v9, v10, v11, v12]) : (w.cell? ⟨g, 0, none⟩ = some v0 ∧ w.cell? ⟨g, 1, none⟩ = some v1 ∧ w.cell? ⟨g, 2, none⟩ = some v2 ∧ w.cell? ⟨g, 3, none⟩ = some v3 ∧ w.cell? ⟨g, 4, none⟩ = some v4 ∧ w.cell? ⟨g, 5, none⟩ = some v5 ∧ w.cell? ⟨g, 6, none⟩ = some v6 ∧ w.cell? ⟨g, 7, none⟩ = some v7 ∧ w.cell? ⟨g, 8, none⟩ = some v8 ∧ w.cell? ⟨g, 9, none⟩ = some v9 ∧ w.cell? ⟨g, 10, none⟩ = some v10 ∧ w.cell? ⟨g, 11, none⟩ = some v11 ∧ w.cell? ⟨g, 12, none⟩ = some v12) ∧ ∀ j, w.frozen? ⟨g, j, none⟩ = false :=
  ⟨⟨h.cell 0 rfl, h.cell 1 rfl, h.cell 2 rfl, h.cell 3 rfl, h.cell 4 rfl, h.cell 5 rfl, h.cell 6 rfl, h.cell 7 rfl, h.cell 8 rfl, h.cell 9 rfl, h.cell 10 rfl, h.cell 11 rfl, h.cell 12 rfl⟩, h.fro⟩
end Go.Proofs.Ytccffbbboodolaa
namespace Go.Proofs.Ytccffbbboodolaa
open Go.RowKit Go.Joins
set_option linter.unusedVariables false
set_option linter.unusedSimpArgs false
theorem eqBoolS_t (ws : List Bool) (a : Option Addr) (l c : Nat) (a' : Option Addr) (c' : Nat) (w : World) (r : Rd w 0 (boolsT ws) (.slice a l c)) (r' : Rd w 0 (boolsT ws) (.slice a' l c')) (hz : ws.length ≤ 1048576) :
    Calls Try.prog 69 #[.slice a l c, .slice a' l c'] w fun e w' => e = .returned (.bool true) ∧ Below w.heap.size w w' := by
  obtain ⟨a9, c9, h9, -, hm, hs⟩ := r.bools
  simp only [Value.slice.injEq] at h9
  obtain ⟨rfl, rfl, rfl⟩ := h9
  obtain ⟨a9, c9, h9, -, -, hs'⟩ := r'.bools
  simp only [Value.slice.injEq] at h9
  obtain ⟨rfl, -, rfl⟩ := h9
  exact eqBoolS_ok _ _ _ _ _ _ ws w rfl rfl hs hs' (by omega)
theorem eqReq_t (X : VQ) (a1 : Option Addr) (l1 c1 : Nat) (a2 : Option Addr) (l2 c2 : Nat) (a1' : Option Addr) (c1' : Nat) (a2' : Option Addr) (c2' : Nat) (w : World) (r1 : Rd w 0 (intsT X.ws) (.slice a1 l1 c1)) (r2 : Rd w 0 (boolsT X.bs) (.slice a2 l2 c2)) (r1' : Rd w 0 (intsT X.ws) (.slice a1' l1 c1')) (r2' : Rd w 0 (boolsT X.bs) (.slice a2' l2 c2')) (hz : szT 6 (trs (qT X)) ≤ 1048576) :
    Calls Try.prog 67 #[.agg (qL X a1 l1 c1 a2 l2 c2).toArray, .agg (qL X a1' l1 c1' a2' l2 c2').toArray] w fun e w' => e = .returned (.bool true) ∧ Below w.heap.size w w' := by
  rw [szT_q] at hz
  obtain ⟨a9, c9, h9, -, hm1, hs1⟩ := r1.ints
  simp only [Value.slice.injEq] at h9
  obtain ⟨rfl, rfl, rfl⟩ := h9
  obtain ⟨a9, c9, h9, -, hm2, hs2⟩ := r2.bools
  simp only [Value.slice.injEq] at h9
  obtain ⟨rfl, rfl, rfl⟩ := h9
  obtain ⟨a9, c9, h9, -, -, hs1'⟩ := r1'.ints
  simp only [Value.slice.injEq] at h9
  obtain ⟨rfl, -, rfl⟩ := h9
  obtain ⟨a9, c9, h9, -, -, hs2'⟩ := r2'.bools
  simp only [Value.slice.injEq] at h9
  obtain ⟨rfl, -, rfl⟩ := h9
  exact eqReq_true X.kd X.pl X.n X.wa _ _ _ _ _ _ _ _ _ _ _ _ X.ws X.bs w rfl rfl rfl rfl hs1 hs2 hs1' hs2' (by omega) (by omega)
theorem eqResp_t (X : VA) (a1 : Option Addr) (l1 c1 : Nat) (a2 : Option Addr) (l2 c2 : Nat) (a1' : Option Addr) (c1' : Nat) (a2' : Option Addr) (c2' : Nat) (w : World) (r1 : Rd w 0 (intsT X.ws) (.slice a1 l1 c1)) (r2 : Rd w 0 (boolsT X.bs) (.slice a2 l2 c2)) (r1' : Rd w 0 (intsT X.ws) (.slice a1' l1 c1')) (r2' : Rd w 0 (boolsT X.bs) (.slice a2' l2 c2')) (hz : szT 6 (trs (aT X)) ≤ 1048576) :
    Calls Try.prog 76 #[.agg (aL X a1 l1 c1 a2 l2 c2).toArray, .agg (aL X a1' l1 c1' a2' l2 c2').toArray] w fun e w' => e = .returned (.bool true) ∧ Below w.heap.size w w' := by
  rw [szT_a] at hz
  obtain ⟨a9, c9, h9, -, hm1, hs1⟩ := r1.ints
  simp only [Value.slice.injEq] at h9
  obtain ⟨rfl, rfl, rfl⟩ := h9
  obtain ⟨a9, c9, h9, -, hm2, hs2⟩ := r2.bools
  simp only [Value.slice.injEq] at h9
  obtain ⟨rfl, rfl, rfl⟩ := h9
  obtain ⟨a9, c9, h9, -, -, hs1'⟩ := r1'.ints
  simp only [Value.slice.injEq] at h9
  obtain ⟨rfl, -, rfl⟩ := h9
  obtain ⟨a9, c9, h9, -, -, hs2'⟩ := r2'.bools
  simp only [Value.slice.injEq] at h9
  obtain ⟨rfl, -, rfl⟩ := h9
  exact eqResp_true X.kd X.fl X.pl X.n _ _ _ _ _ _ _ _ _ _ _ _ X.ws X.bs w rfl rfl rfl rfl hs1 hs2 hs1' hs2' (by omega) (by omega)
set_option maxRecDepth 20000 in
set_option maxHeartbeats 4000000 in
theorem eqRespS_t (n : Nat) (f : Nat → VA) (a : Option Addr) (n' cap : Nat) (a' : Option Addr) (cap' : Nat) (w : World) (hs : Rd w 0 (.list 6 n (fun k => trs (aT (f k)))) (.slice a n' cap)) (hs' : Rd w 0 (.list 6 n (fun k => trs (aT (f k)))) (.slice a' n' cap')) (hz : (Tr.list 6 n (fun k => trs (aT (f k)))).sz ≤ 1048576) :
    Calls Try.prog 70 #[.slice a n' cap, .slice a' n' cap'] w fun e w' => e = .returned (.bool true) ∧ Below w.heap.size w w' := by
  obtain ⟨a9, c9, h9, -, hn⟩ := hs.shape
  simp only [Value.slice.injEq] at h9
  obtain ⟨-, rfl, -⟩ := h9
  clear a9 c9 hn
  have hn1 : n' ≤ 1048576 := by rw [Tr.sz_list] at hz; omega
  have HZ : Hid (∀ k, k < n' → szT 6 (trs (aT (f k))) ≤ 1048576) := by
    show ∀ k, k < n' → szT 6 (trs (aT (f k))) ≤ 1048576
    intro k hk
    rw [Tr.sz_list] at hz
    have := sumN_at (fun k => szT 6 (trs (aT (f k)))) hk
    omega
  have HS : Hid (Rd w 0 (.list 6 n' (fun k => trs (aT (f k)))) (.slice a n' cap) ∧ Rd w 0 (.list 6 n' (fun k => trs (aT (f k)))) (.slice a' n' cap')) := ⟨hs, hs'⟩
  clear hs hs' hz
  go_enter Try.func70, Try.ntmps70
  go_wp2
  go_loopw [5] (fun i wr => ∃ z : Nat, z ≤ n' ∧ i = .int .i64 z ∧ Below w.heap.size w wr) (fun i _ => n' - (intOf i).toNat)
  case atStart => exact ⟨0, Nat.zero_le _, rfl, Below.refl _ _⟩
  case round =>
    obtain ⟨k, hk, rfl, hbl⟩ := hrel
    by_cases hlt : k < n'
    · have hi : (k : Int) < (n' : Int) := by omega
      obtain ⟨b, off, vs, rfl, _, hb0, hlen, hr, hrd⟩ := (HS.out.1.below hbl).at hlt
      obtain ⟨a1, c1, a2, c2, rfl, r1, r2⟩ := VA.cells hrd hlen
      clear hlen hrd hb0
      obtain ⟨b', off', vs, rfl, _, hb0, hlen, hr', hrd⟩ := (HS.out.2.below hbl).at hlt
      obtain ⟨a1', c1', a2', c2', rfl, r1', r2'⟩ := VA.cells hrd hlen
      clear hlen hrd hb0
      have d09 : wr.cell? ⟨b, off + k * 6, none⟩ = _ := hr 0 _ rfl
      have e09 : wr.cell? ⟨b', off' + k * 6, none⟩ = _ := hr' 0 _ rfl
      have d19 : wr.cell? ⟨b, off + k * 6 + 1, none⟩ = _ := hr 1 _ rfl
      have e19 : wr.cell? ⟨b', off' + k * 6 + 1, none⟩ = _ := hr' 1 _ rfl
      have d29 : wr.cell? ⟨b, off + k * 6 + 2, none⟩ = _ := hr 2 _ rfl
      have e29 : wr.cell? ⟨b', off' + k * 6 + 2, none⟩ = _ := hr' 2 _ rfl
      have d39 : wr.cell? ⟨b, off + k * 6 + 3, none⟩ = _ := hr 3 _ rfl
      have e39 : wr.cell? ⟨b', off' + k * 6 + 3, none⟩ = _ := hr' 3 _ rfl
      have d49 : wr.cell? ⟨b, off + k * 6 + 4, none⟩ = _ := hr 4 _ rfl
      have e49 : wr.cell? ⟨b', off' + k * 6 + 4, none⟩ = _ := hr' 4 _ rfl
      have d59 : wr.cell? ⟨b, off + k * 6 + 5, none⟩ = _ := hr 5 _ rfl
      have e59 : wr.cell? ⟨b', off' + k * 6 + 5, none⟩ = _ := hr' 5 _ rfl
      have HK : Hid (Below w.heap.size w wr ∧ szT 6 (trs (aT (f k))) ≤ 1048576 ∧ Rd wr 0 (intsT (f k).ws) (.slice a1 ((f k).ws.length) c1) ∧ Rd wr 0 (boolsT (f k).bs) (.slice a2 ((f k).bs.length) c2) ∧ Rd wr 0 (intsT (f k).ws) (.slice a1' ((f k).ws.length) c1') ∧ Rd wr 0 (boolsT (f k).bs) (.slice a2' ((f k).bs.length) c2')) := ⟨hbl, HZ.out k hlt, r1, r2, r1', r2'⟩
      clear r1 r2 r1' r2' hr hr' hbl
      go_wp2_with fail
      go_region_with (go_at_call 76; refine (eqResp_t (f k) a1 ((f k).ws.length) c1 a2 ((f k).bs.length) c2 a1' c1' a2' c2' _ (HK.out.2.2.1.below (by first | exact Below.refl _ _ | exact (Below.refl _ _).drew | exact (Below.refl _ _).drew.drew)) (HK.out.2.2.2.1.below (by first | exact Below.refl _ _ | exact (Below.refl _ _).drew | exact (Below.refl _ _).drew.drew)) (HK.out.2.2.2.2.1.below (by first | exact Below.refl _ _ | exact (Below.refl _ _).drew | exact (Below.refl _ _).drew.drew)) (HK.out.2.2.2.2.2.below (by first | exact Below.refl _ _ | exact (Below.refl _ _).drew | exact (Below.refl _ _).drew.drew)) HK.out.2.1).mono ?_; rintro e w1 ⟨rfl, b1'⟩; have b1 : Below wr.heap.size wr w1 := bel_nx (by first | exact Below.refl _ _ | exact (Below.refl _ _).drew | exact (Below.refl _ _).drew.drew) b1'; clear b1')
      all_goals (
        have B1 := bel_nx HK.out.1 b1
        clear HK b1 d09 e09 d19 e19 d29 e29 d39 e39 d49 e49 d59 e59
        go_wp2
        go_roundw
        case rel => exact ⟨k + 1, by omega, by go_num, B1⟩
        case measure => simp [intOf]; omega)
    · have hi : ¬ (k : Int) < (n' : Int) := by omega
      go_wp2
      go_ret
      exact ⟨rfl, hbl⟩
set_option maxRecDepth 20000 in
set_option maxHeartbeats 4000000 in
theorem eqPart_t (X : VP) (a1 : Option Addr) (l1 c1 : Nat) (a2 : Option Addr) (l2 c2 : Nat) (a1' : Option Addr) (c1' : Nat) (a2' : Option Addr) (c2' : Nat) (w : World) (r1 : Rd w 0 (intsT X.q.ws) (.slice a1 l1 c1)) (r2 : Rd w 0 (boolsT X.q.bs) (.slice a2 l2 c2)) (r1' : Rd w 0 (intsT X.q.ws) (.slice a1' l1 c1')) (r2' : Rd w 0 (boolsT X.q.bs) (.slice a2' l2 c2')) (hz : szT 8 (trs (pT X)) ≤ 1048576) :
    Calls Try.prog 75 #[.agg (pL X a1 l1 c1 a2 l2 c2).toArray, .agg (pL X a1' l1 c1' a2' l2 c2').toArray] w fun e w' => e = .returned (.bool true) ∧ Below w.heap.size w w' := by
  obtain ⟨W, hW⟩ : ∃ W, W = (w.alloc (.cells (pL X a1 l1 c1 a2 l2 c2).toArray 96)).alloc (.cells (pL X a1' l1 c1' a2' l2 c2').toArray 96) := ⟨_, rfl⟩
  have HZ : Hid (szT 6 (trs (qT X.q)) ≤ 1048576) := by
    rw [szT_p] at hz
    show szT 6 (trs (qT X.q)) ≤ 1048576
    try simp only [szT_q, szT_a, szT_p, szT_d, szT_t, true_and]
    omega
  have HR : Hid (Rd w 0 (intsT X.q.ws) (.slice a1 l1 c1) ∧ Rd w 0 (boolsT X.q.bs) (.slice a2 l2 c2) ∧ Rd w 0 (intsT X.q.ws) (.slice a1' l1 c1') ∧ Rd w 0 (boolsT X.q.bs) (.slice a2' l2 c2')) := ⟨r1, r2, r1', r2'⟩
  have G0 : Hid (Below w.heap.size w W ∧ Blk W w.heap.size 96 (pL X a1 l1 c1 a2 l2 c2).toArray ∧ Blk W (w.heap.size + 1) 96 (pL X a1' l1 c1' a2' l2 c2').toArray) := ⟨by rw [hW]; exact bel_nx (bel_alloc _ _) (bel_alloc _ _), by rw [hW]; exact (Blk.new w _ _).below (bel_alloc _ _), by rw [hW]; have := Blk.new (w.alloc (.cells (pL X a1 l1 c1 a2 l2 c2).toArray 96)) (pL X a1' l1 c1' a2' l2 c2').toArray 96; simpa using this⟩
  clear hz r1 r2 r1' r2'
  go_enter Try.func75, Try.ntmps75
  go_upto_region 1 with fail
  rw [← hW]
  clear hW
  obtain ⟨⟨y0, y1, y2, y3, y4, y5, y6, y7⟩, yf⟩ := G0.out.2.1.tc8
  obtain ⟨⟨z0, z1, z2, z3, z4, z5, z6, z7⟩, zf⟩ := G0.out.2.2.tc8
  clear yf zf
  go_wp2_with fail
  refine (eqReq_t X.q a1 l1 c1 a2 l2 c2 a1' c1' a2' c2' _ (HR.out.1.below G0.out.1) (HR.out.2.1.below G0.out.1) (HR.out.2.2.1.below G0.out.1) (HR.out.2.2.2.below G0.out.1) HZ.out).mono ?_
  rintro e w1 ⟨rfl, hb1⟩
  have G1 : Hid (Below w.heap.size w w1 ∧ Blk w1 w.heap.size 96 (pL X a1 l1 c1 a2 l2 c2).toArray ∧ Blk w1 (w.heap.size + 1) 96 (pL X a1' l1 c1' a2' l2 c2').toArray) := ⟨bel_nx G0.out.1 hb1, G0.out.2.1.below hb1, G0.out.2.2.below hb1⟩
  clear hb1 y0 y1 y2 y3 y4 y5 y6 y7 z0 z1 z2 z3 z4 z5 z6 z7
  go_wp2
  go_ret
  exact ⟨rfl, G1.out.1⟩
set_option maxRecDepth 20000 in
set_option maxHeartbeats 4000000 in
theorem eqPartS_t (n : Nat) (f : Nat → VP) (a : Option Addr) (n' cap : Nat) (a' : Option Addr) (cap' : Nat) (w : World) (hs : Rd w 0 (.list 8 n (fun k => trs (pT (f k)))) (.slice a n' cap)) (hs' : Rd w 0 (.list 8 n (fun k => trs (pT (f k)))) (.slice a' n' cap')) (hz : (Tr.list 8 n (fun k => trs (pT (f k)))).sz ≤ 1048576) :
    Calls Try.prog 68 #[.slice a n' cap, .slice a' n' cap'] w fun e w' => e = .returned (.bool true) ∧ Below w.heap.size w w' := by
  obtain ⟨a9, c9, h9, -, hn⟩ := hs.shape
  simp only [Value.slice.injEq] at h9
  obtain ⟨-, rfl, -⟩ := h9
  clear a9 c9 hn
  have hn1 : n' ≤ 1048576 := by rw [Tr.sz_list] at hz; omega
  have HZ : Hid (∀ k, k < n' → szT 8 (trs (pT (f k))) ≤ 1048576) := by
    show ∀ k, k < n' → szT 8 (trs (pT (f k))) ≤ 1048576
    intro k hk
    rw [Tr.sz_list] at hz
    have := sumN_at (fun k => szT 8 (trs (pT (f k)))) hk
    omega
  have HS : Hid (Rd w 0 (.list 8 n' (fun k => trs (pT (f k)))) (.slice a n' cap) ∧ Rd w 0 (.list 8 n' (fun k => trs (pT (f k)))) (.slice a' n' cap')) := ⟨hs, hs'⟩
  clear hs hs' hz
  go_enter Try.func68, Try.ntmps68
  go_wp2
  go_loopw [5] (fun i wr => ∃ z : Nat, z ≤ n' ∧ i = .int .i64 z ∧ Below w.heap.size w wr) (fun i _ => n' - (intOf i).toNat)
  case atStart => exact ⟨0, Nat.zero_le _, rfl, Below.refl _ _⟩
  case round =>
    obtain ⟨k, hk, rfl, hbl⟩ := hrel
    by_cases hlt : k < n'
    · have hi : (k : Int) < (n' : Int) := by omega
      obtain ⟨b, off, vs, rfl, _, hb0, hlen, hr, hrd⟩ := (HS.out.1.below hbl).at hlt
      obtain ⟨a1, c1, a2, c2, rfl, r1, r2⟩ := VP.cells hrd hlen
      clear hlen hrd hb0
      obtain ⟨b', off', vs, rfl, _, hb0, hlen, hr', hrd⟩ := (HS.out.2.below hbl).at hlt
      obtain ⟨a1', c1', a2', c2', rfl, r1', r2'⟩ := VP.cells hrd hlen
      clear hlen hrd hb0
      have d09 : wr.cell? ⟨b, off + k * 8, none⟩ = _ := hr 0 _ rfl
      have e09 : wr.cell? ⟨b', off' + k * 8, none⟩ = _ := hr' 0 _ rfl
      have d19 : wr.cell? ⟨b, off + k * 8 + 1, none⟩ = _ := hr 1 _ rfl
      have e19 : wr.cell? ⟨b', off' + k * 8 + 1, none⟩ = _ := hr' 1 _ rfl
      have d29 : wr.cell? ⟨b, off + k * 8 + 2, none⟩ = _ := hr 2 _ rfl
      have e29 : wr.cell? ⟨b', off' + k * 8 + 2, none⟩ = _ := hr' 2 _ rfl
      have d39 : wr.cell? ⟨b, off + k * 8 + 3, none⟩ = _ := hr 3 _ rfl
      have e39 : wr.cell? ⟨b', off' + k * 8 + 3, none⟩ = _ := hr' 3 _ rfl
      have d49 : wr.cell? ⟨b, off + k * 8 + 4, none⟩ = _ := hr 4 _ rfl
      have e49 : wr.cell? ⟨b', off' + k * 8 + 4, none⟩ = _ := hr' 4 _ rfl
      have d59 : wr.cell? ⟨b, off + k * 8 + 5, none⟩ = _ := hr 5 _ rfl
      have e59 : wr.cell? ⟨b', off' + k * 8 + 5, none⟩ = _ := hr' 5 _ rfl
      have d69 : wr.cell? ⟨b, off + k * 8 + 6, none⟩ = _ := hr 6 _ rfl
      have e69 : wr.cell? ⟨b', off' + k * 8 + 6, none⟩ = _ := hr' 6 _ rfl
      have d79 : wr.cell? ⟨b, off + k * 8 + 7, none⟩ = _ := hr 7 _ rfl
      have e79 : wr.cell? ⟨b', off' + k * 8 + 7, none⟩ = _ := hr' 7 _ rfl
      have HK : Hid (Below w.heap.size w wr ∧ szT 8 (trs (pT (f k))) ≤ 1048576 ∧ Rd wr 0 (intsT (f k).q.ws) (.slice a1 ((f k).q.ws.length) c1) ∧ Rd wr 0 (boolsT (f k).q.bs) (.slice a2 ((f k).q.bs.length) c2) ∧ Rd wr 0 (intsT (f k).q.ws) (.slice a1' ((f k).q.ws.length) c1') ∧ Rd wr 0 (boolsT (f k).q.bs) (.slice a2' ((f k).q.bs.length) c2')) := ⟨hbl, HZ.out k hlt, r1, r2, r1', r2'⟩
      clear r1 r2 r1' r2' hr hr' hbl
      go_wp2_with fail
      go_region_with (go_at_call 75; refine (eqPart_t (f k) a1 ((f k).q.ws.length) c1 a2 ((f k).q.bs.length) c2 a1' c1' a2' c2' _ (HK.out.2.2.1.below (by first | exact Below.refl _ _ | exact (Below.refl _ _).drew | exact (Below.refl _ _).drew.drew)) (HK.out.2.2.2.1.below (by first | exact Below.refl _ _ | exact (Below.refl _ _).drew | exact (Below.refl _ _).drew.drew)) (HK.out.2.2.2.2.1.below (by first | exact Below.refl _ _ | exact (Below.refl _ _).drew | exact (Below.refl _ _).drew.drew)) (HK.out.2.2.2.2.2.below (by first | exact Below.refl _ _ | exact (Below.refl _ _).drew | exact (Below.refl _ _).drew.drew)) HK.out.2.1).mono ?_; rintro e w1 ⟨rfl, b1'⟩; have b1 : Below wr.heap.size wr w1 := bel_nx (by first | exact Below.refl _ _ | exact (Below.refl _ _).drew | exact (Below.refl _ _).drew.drew) b1'; clear b1')
      all_goals (
        have B1 := bel_nx HK.out.1 b1
        clear HK b1 d09 e09 d19 e19 d29 e29 d39 e39 d49 e49 d59 e59 d69 e69 d79 e79
        go_wp2
        go_roundw
        case rel => exact ⟨k + 1, by omega, by go_num, B1⟩
        case measure => simp [intOf]; omega)
    · have hi : ¬ (k : Int) < (n' : Int) := by omega
      go_wp2
      go_ret
      exact ⟨rfl, hbl⟩
set_option maxRecDepth 20000 in
set_option maxHeartbeats 4000000 in
theorem eqPend_t (X : VD) (a1 : Option Addr) (l1 c1 : Nat) (a2 : Option Addr) (l2 c2 : Nat) (a3 : Option Addr) (l3 c3 : Nat) (a4 : Option Addr) (l4 c4 : Nat) (a5 : Option Addr) (l5 c5 : Nat) (a1' : Option Addr) (c1' : Nat) (a2' : Option Addr) (c2' : Nat) (a3' : Option Addr) (c3' : Nat) (a4' : Option Addr) (c4' : Nat) (a5' : Option Addr) (c5' : Nat) (w : World) (r1 : Rd w 0 (intsT X.q.ws) (.slice a1 l1 c1)) (r2 : Rd w 0 (boolsT X.q.bs) (.slice a2 l2 c2)) (r3 : Rd w 0 (.list 8 X.np (fun i => trs (pT (X.pt i)))) (.slice a3 l3 c3)) (r4 : Rd w 0 (boolsT X.hs) (.slice a4 l4 c4)) (r5 : Rd w 0 (.list 6 X.nt (fun i => trs (aT (X.tl i)))) (.slice a5 l5 c5)) (r1' : Rd w 0 (intsT X.q.ws) (.slice a1' l1 c1')) (r2' : Rd w 0 (boolsT X.q.bs) (.slice a2' l2 c2')) (r3' : Rd w 0 (.list 8 X.np (fun i => trs (pT (X.pt i)))) (.slice a3' l3 c3')) (r4' : Rd w 0 (boolsT X.hs) (.slice a4' l4 c4')) (r5' : Rd w 0 (.list 6 X.nt (fun i => trs (aT (X.tl i)))) (.slice a5' l5 c5')) (hz : szT 13 (trs (dT X)) ≤ 1048576) :
    Calls Try.prog 52 #[.agg (dL X a1 l1 c1 a2 l2 c2 a3 l3 c3 a4 l4 c4 a5 l5 c5).toArray, .agg (dL X a1' l1 c1' a2' l2 c2' a3' l3 c3' a4' l4 c4' a5' l5 c5').toArray] w fun e w' => e = .returned (.bool true) ∧ Below w.heap.size w w' := by
  obtain ⟨W, hW⟩ : ∃ W, W = (w.alloc (.cells (dL X a1 l1 c1 a2 l2 c2 a3 l3 c3 a4 l4 c4 a5 l5 c5).toArray 84)).alloc (.cells (dL X a1' l1 c1' a2' l2 c2' a3' l3 c3' a4' l4 c4' a5' l5 c5').toArray 84) := ⟨_, rfl⟩
  have HZ : Hid (szT 6 (trs (qT X.q)) ≤ 1048576 ∧ (Tr.list 8 X.np (fun i => trs (pT (X.pt i)))).sz ≤ 1048576 ∧ X.hs.length ≤ 1048576 ∧ (Tr.list 6 X.nt (fun i => trs (aT (X.tl i)))).sz ≤ 1048576) := by
    rw [szT_d] at hz
    show szT 6 (trs (qT X.q)) ≤ 1048576 ∧ (Tr.list 8 X.np (fun i => trs (pT (X.pt i)))).sz ≤ 1048576 ∧ X.hs.length ≤ 1048576 ∧ (Tr.list 6 X.nt (fun i => trs (aT (X.tl i)))).sz ≤ 1048576
    try simp only [szT_q, szT_a, szT_p, szT_d, szT_t, true_and]
    omega
  have HR : Hid (Rd w 0 (intsT X.q.ws) (.slice a1 l1 c1) ∧ Rd w 0 (boolsT X.q.bs) (.slice a2 l2 c2) ∧ Rd w 0 (.list 8 X.np (fun i => trs (pT (X.pt i)))) (.slice a3 l3 c3) ∧ Rd w 0 (boolsT X.hs) (.slice a4 l4 c4) ∧ Rd w 0 (.list 6 X.nt (fun i => trs (aT (X.tl i)))) (.slice a5 l5 c5) ∧ Rd w 0 (intsT X.q.ws) (.slice a1' l1 c1') ∧ Rd w 0 (boolsT X.q.bs) (.slice a2' l2 c2') ∧ Rd w 0 (.list 8 X.np (fun i => trs (pT (X.pt i)))) (.slice a3' l3 c3') ∧ Rd w 0 (boolsT X.hs) (.slice a4' l4 c4') ∧ Rd w 0 (.list 6 X.nt (fun i => trs (aT (X.tl i)))) (.slice a5' l5 c5')) := ⟨r1, r2, r3, r4, r5, r1', r2', r3', r4', r5'⟩
  have G0 : Hid (Below w.heap.size w W ∧ Blk W w.heap.size 84 (dL X a1 l1 c1 a2 l2 c2 a3 l3 c3 a4 l4 c4 a5 l5 c5).toArray ∧ Blk W (w.heap.size + 1) 84 (dL X a1' l1 c1' a2' l2 c2' a3' l3 c3' a4' l4 c4' a5' l5 c5').toArray) := ⟨by rw [hW]; exact bel_nx (bel_alloc _ _) (bel_alloc _ _), by rw [hW]; exact (Blk.new w _ _).below (bel_alloc _ _), by rw [hW]; have := Blk.new (w.alloc (.cells (dL X a1 l1 c1 a2 l2 c2 a3 l3 c3 a4 l4 c4 a5 l5 c5).toArray 84)) (dL X a1' l1 c1' a2' l2 c2' a3' l3 c3' a4' l4 c4' a5' l5 c5').toArray 84; simpa using this⟩
  clear hz r1 r2 r3 r4 r5 r1' r2' r3' r4' r5'
  go_enter Try.func52, Try.ntmps52
  go_upto_region 1 with fail
  rw [← hW]
  clear hW
  obtain ⟨⟨y0, y1, y2, y3, y4, y5, y6, y7, y8, y9, y10, y11, y12⟩, yf⟩ := G0.out.2.1.tc13
  obtain ⟨⟨z0, z1, z2, z3, z4, z5, z6, z7, z8, z9, z10, z11, z12⟩, zf⟩ := G0.out.2.2.tc13
  clear yf zf
  go_wp2_with fail
  refine (eqReq_t X.q a1 l1 c1 a2 l2 c2 a1' c1' a2' c2' _ (HR.out.1.below G0.out.1) (HR.out.2.1.below G0.out.1) (HR.out.2.2.2.2.2.1.below G0.out.1) (HR.out.2.2.2.2.2.2.1.below G0.out.1) HZ.out.1).mono ?_
  rintro e w1 ⟨rfl, hb1⟩
  have G1 : Hid (Below w.heap.size w w1 ∧ Blk w1 w.heap.size 84 (dL X a1 l1 c1 a2 l2 c2 a3 l3 c3 a4 l4 c4 a5 l5 c5).toArray ∧ Blk w1 (w.heap.size + 1) 84 (dL X a1' l1 c1' a2' l2 c2' a3' l3 c3' a4' l4 c4' a5' l5 c5').toArray) := ⟨bel_nx G0.out.1 hb1, G0.out.2.1.below hb1, G0.out.2.2.below hb1⟩
  clear hb1 y0 y1 y2 y3 y4 y5 y6 y7 y8 y9 y10 y11 y12 z0 z1 z2 z3 z4 z5 z6 z7 z8 z9 z10 z11 z12
  obtain ⟨⟨y0, y1, y2, y3, y4, y5, y6, y7, y8, y9, y10, y11, y12⟩, yf⟩ := G1.out.2.1.tc13
  obtain ⟨⟨z0, z1, z2, z3, z4, z5, z6, z7, z8, z9, z10, z11, z12⟩, zf⟩ := G1.out.2.2.tc13
  clear yf zf
  go_wp2_with fail
  refine (eqPartS_t X.np X.pt a3 l3 c3 a3' c3' _ (HR.out.2.2.1.below G1.out.1) (HR.out.2.2.2.2.2.2.2.1.below G1.out.1) HZ.out.2.1).mono ?_
  rintro e w2 ⟨rfl, hb2⟩
  have G2 : Hid (Below w.heap.size w w2 ∧ Blk w2 w.heap.size 84 (dL X a1 l1 c1 a2 l2 c2 a3 l3 c3 a4 l4 c4 a5 l5 c5).toArray ∧ Blk w2 (w.heap.size + 1) 84 (dL X a1' l1 c1' a2' l2 c2' a3' l3 c3' a4' l4 c4' a5' l5 c5').toArray) := ⟨bel_nx G1.out.1 hb2, G1.out.2.1.below hb2, G1.out.2.2.below hb2⟩
  clear hb2 y0 y1 y2 y3 y4 y5 y6 y7 y8 y9 y10 y11 y12 z0 z1 z2 z3 z4 z5 z6 z7 z8 z9 z10 z11 z12
  obtain ⟨⟨y0, y1, y2, y3, y4, y5, y6, y7, y8, y9, y10, y11, y12⟩, yf⟩ := G2.out.2.1.tc13
  obtain ⟨⟨z0, z1, z2, z3, z4, z5, z6, z7, z8, z9, z10, z11, z12⟩, zf⟩ := G2.out.2.2.tc13
  clear yf zf
  go_wp2_with fail
  refine (eqBoolS_t X.hs a4 l4 c4 a4' c4' _ (HR.out.2.2.2.1.below G2.out.1) (HR.out.2.2.2.2.2.2.2.2.1.below G2.out.1) HZ.out.2.2.1).mono ?_
  rintro e w3 ⟨rfl, hb3⟩
  have G3 : Hid (Below w.heap.size w w3 ∧ Blk w3 w.heap.size 84 (dL X a1 l1 c1 a2 l2 c2 a3 l3 c3 a4 l4 c4 a5 l5 c5).toArray ∧ Blk w3 (w.heap.size + 1) 84 (dL X a1' l1 c1' a2' l2 c2' a3' l3 c3' a4' l4 c4' a5' l5 c5').toArray) := ⟨bel_nx G2.out.1 hb3, G2.out.2.1.below hb3, G2.out.2.2.below hb3⟩
  clear hb3 y0 y1 y2 y3 y4 y5 y6 y7 y8 y9 y10 y11 y12 z0 z1 z2 z3 z4 z5 z6 z7 z8 z9 z10 z11 z12
  obtain ⟨⟨y0, y1, y2, y3, y4, y5, y6, y7, y8, y9, y10, y11, y12⟩, yf⟩ := G3.out.2.1.tc13
  obtain ⟨⟨z0, z1, z2, z3, z4, z5, z6, z7, z8, z9, z10, z11, z12⟩, zf⟩ := G3.out.2.2.tc13
  clear yf zf
  go_wp2_with fail
  refine (eqRespS_t X.nt X.tl a5 l5 c5 a5' c5' _ (HR.out.2.2.2.2.1.below G3.out.1) (HR.out.2.2.2.2.2.2.2.2.2.below G3.out.1) HZ.out.2.2.2).mono ?_
  rintro e w4 ⟨rfl, hb4⟩
  have G4 : Hid (Below w.heap.size w w4 ∧ Blk w4 w.heap.size 84 (dL X a1 l1 c1 a2 l2 c2 a3 l3 c3 a4 l4 c4 a5 l5 c5).toArray ∧ Blk w4 (w.heap.size + 1) 84 (dL X a1' l1 c1' a2' l2 c2' a3' l3 c3' a4' l4 c4' a5' l5 c5').toArray) := ⟨bel_nx G3.out.1 hb4, G3.out.2.1.below hb4, G3.out.2.2.below hb4⟩
  clear hb4 y0 y1 y2 y3 y4 y5 y6 y7 y8 y9 y10 y11 y12 z0 z1 z2 z3 z4 z5 z6 z7 z8 z9 z10 z11 z12
  go_wp2
  go_ret
  exact ⟨rfl, G4.out.1⟩
set_option maxRecDepth 20000 in
set_option maxHeartbeats 4000000 in
theorem eqPendS_t (n : Nat) (f : Nat → VD) (a : Option Addr) (n' cap : Nat) (a' : Option Addr) (cap' : Nat) (w : World) (hs : Rd w 0 (.list 13 n (fun k => trs (dT (f k)))) (.slice a n' cap)) (hs' : Rd w 0 (.list 13 n (fun k => trs (dT (f k)))) (.slice a' n' cap')) (hz : (Tr.list 13 n (fun k => trs (dT (f k)))).sz ≤ 1048576) :
    Calls Try.prog 36 #[.slice a n' cap, .slice a' n' cap'] w fun e w' => e = .returned (.bool true) ∧ Below w.heap.size w w' := by
  obtain ⟨a9, c9, h9, -, hn⟩ := hs.shape
  simp only [Value.slice.injEq] at h9
  obtain ⟨-, rfl, -⟩ := h9
  clear a9 c9 hn
  have hn1 : n' ≤ 1048576 := by rw [Tr.sz_list] at hz; omega
  have HZ : Hid (∀ k, k < n' → szT 13 (trs (dT (f k))) ≤ 1048576) := by
    show ∀ k, k < n' → szT 13 (trs (dT (f k))) ≤ 1048576
    intro k hk
    rw [Tr.sz_list] at hz
    have := sumN_at (fun k => szT 13 (trs (dT (f k)))) hk
    omega
  have HS : Hid (Rd w 0 (.list 13 n' (fun k => trs (dT (f k)))) (.slice a n' cap) ∧ Rd w 0 (.list 13 n' (fun k => trs (dT (f k)))) (.slice a' n' cap')) := ⟨hs, hs'⟩
  clear hs hs' hz
  go_enter Try.func36, Try.ntmps36
  go_wp2
  go_loopw [5] (fun i wr => ∃ z : Nat, z ≤ n' ∧ i = .int .i64 z ∧ Below w.heap.size w wr) (fun i _ => n' - (intOf i).toNat)
  case atStart => exact ⟨0, Nat.zero_le _, rfl, Below.refl _ _⟩
  case round =>
    obtain ⟨k, hk, rfl, hbl⟩ := hrel
    by_cases hlt : k < n'
    · have hi : (k : Int) < (n' : Int) := by omega
      obtain ⟨b, off, vs, rfl, _, hb0, hlen, hr, hrd⟩ := (HS.out.1.below hbl).at hlt
      obtain ⟨a1, c1, a2, c2, a3, c3, a4, c4, a5, c5, rfl, r1, r2, r3, r4, r5⟩ := VD.cells hrd hlen
      clear hlen hrd hb0
      obtain ⟨b', off', vs, rfl, _, hb0, hlen, hr', hrd⟩ := (HS.out.2.below hbl).at hlt
      obtain ⟨a1', c1', a2', c2', a3', c3', a4', c4', a5', c5', rfl, r1', r2', r3', r4', r5'⟩ := VD.cells hrd hlen
      clear hlen hrd hb0
      have d09 : wr.cell? ⟨b, off + k * 13, none⟩ = _ := hr 0 _ rfl
      have e09 : wr.cell? ⟨b', off' + k * 13, none⟩ = _ := hr' 0 _ rfl
      have d19 : wr.cell? ⟨b, off + k * 13 + 1, none⟩ = _ := hr 1 _ rfl
      have e19 : wr.cell? ⟨b', off' + k * 13 + 1, none⟩ = _ := hr' 1 _ rfl
      have d29 : wr.cell? ⟨b, off + k * 13 + 2, none⟩ = _ := hr 2 _ rfl
      have e29 : wr.cell? ⟨b', off' + k * 13 + 2, none⟩ = _ := hr' 2 _ rfl
      have d39 : wr.cell? ⟨b, off + k * 13 + 3, none⟩ = _ := hr 3 _ rfl
      have e39 : wr.cell? ⟨b', off' + k * 13 + 3, none⟩ = _ := hr' 3 _ rfl
      have d49 : wr.cell? ⟨b, off + k * 13 + 4, none⟩ = _ := hr 4 _ rfl
      have e49 : wr.cell? ⟨b', off' + k * 13 + 4, none⟩ = _ := hr' 4 _ rfl
      have d59 : wr.cell? ⟨b, off + k * 13 + 5, none⟩ = _ := hr 5 _ rfl
      have e59 : wr.cell? ⟨b', off' + k * 13 + 5, none⟩ = _ := hr' 5 _ rfl
      have d69 : wr.cell? ⟨b, off + k * 13 + 6, none⟩ = _ := hr 6 _ rfl
      have e69 : wr.cell? ⟨b', off' + k * 13 + 6, none⟩ = _ := hr' 6 _ rfl
      have d79 : wr.cell? ⟨b, off + k * 13 + 7, none⟩ = _ := hr 7 _ rfl
      have e79 : wr.cell? ⟨b', off' + k * 13 + 7, none⟩ = _ := hr' 7 _ rfl
      have d89 : wr.cell? ⟨b, off + k * 13 + 8, none⟩ = _ := hr 8 _ rfl
      have e89 : wr.cell? ⟨b', off' + k * 13 + 8, none⟩ = _ := hr' 8 _ rfl
      have d99 : wr.cell? ⟨b, off + k * 13 + 9, none⟩ = _ := hr 9 _ rfl
      have e99 : wr.cell? ⟨b', off' + k * 13 + 9, none⟩ = _ := hr' 9 _ rfl
      have d109 : wr.cell? ⟨b, off + k * 13 + 10, none⟩ = _ := hr 10 _ rfl
      have e109 : wr.cell? ⟨b', off' + k * 13 + 10, none⟩ = _ := hr' 10 _ rfl
      have d119 : wr.cell? ⟨b, off + k * 13 + 11, none⟩ = _ := hr 11 _ rfl
      have e119 : wr.cell? ⟨b', off' + k * 13 + 11, none⟩ = _ := hr' 11 _ rfl
      have d129 : wr.cell? ⟨b, off + k * 13 + 12, none⟩ = _ := hr 12 _ rfl
      have e129 : wr.cell? ⟨b', off' + k * 13 + 12, none⟩ = _ := hr' 12 _ rfl
      have HK : Hid (Below w.heap.size w wr ∧ szT 13 (trs (dT (f k))) ≤ 1048576 ∧ Rd wr 0 (intsT (f k).q.ws) (.slice a1 ((f k).q.ws.length) c1) ∧ Rd wr 0 (boolsT (f k).q.bs) (.slice a2 ((f k).q.bs.length) c2) ∧ Rd wr 0 (.list 8 (f k).np (fun i => trs (pT ((f k).pt i)))) (.slice a3 ((f k).np) c3) ∧ Rd wr 0 (boolsT (f k).hs) (.slice a4 ((f k).hs.length) c4) ∧ Rd wr 0 (.list 6 (f k).nt (fun i => trs (aT ((f k).tl i)))) (.slice a5 ((f k).nt) c5) ∧ Rd wr 0 (intsT (f k).q.ws) (.slice a1' ((f k).q.ws.length) c1') ∧ Rd wr 0 (boolsT (f k).q.bs) (.slice a2' ((f k).q.bs.length) c2') ∧ Rd wr 0 (.list 8 (f k).np (fun i => trs (pT ((f k).pt i)))) (.slice a3' ((f k).np) c3') ∧ Rd wr 0 (boolsT (f k).hs) (.slice a4' ((f k).hs.length) c4') ∧ Rd wr 0 (.list 6 (f k).nt (fun i => trs (aT ((f k).tl i)))) (.slice a5' ((f k).nt) c5')) := ⟨hbl, HZ.out k hlt, r1, r2, r3, r4, r5, r1', r2', r3', r4', r5'⟩
      clear r1 r2 r3 r4 r5 r1' r2' r3' r4' r5' hr hr' hbl
      go_wp2_with fail
      go_region_with (go_at_call 52; refine (eqPend_t (f k) a1 ((f k).q.ws.length) c1 a2 ((f k).q.bs.length) c2 a3 ((f k).np) c3 a4 ((f k).hs.length) c4 a5 ((f k).nt) c5 a1' c1' a2' c2' a3' c3' a4' c4' a5' c5' _ (HK.out.2.2.1.below (by first | exact Below.refl _ _ | exact (Below.refl _ _).drew | exact (Below.refl _ _).drew.drew)) (HK.out.2.2.2.1.below (by first | exact Below.refl _ _ | exact (Below.refl _ _).drew | exact (Below.refl _ _).drew.drew)) (HK.out.2.2.2.2.1.below (by first | exact Below.refl _ _ | exact (Below.refl _ _).drew | exact (Below.refl _ _).drew.drew)) (HK.out.2.2.2.2.2.1.below (by first | exact Below.refl _ _ | exact (Below.refl _ _).drew | exact (Below.refl _ _).drew.drew)) (HK.out.2.2.2.2.2.2.1.below (by first | exact Below.refl _ _ | exact (Below.refl _ _).drew | exact (Below.refl _ _).drew.drew)) (HK.out.2.2.2.2.2.2.2.1.below (by first | exact Below.refl _ _ | exact (Below.refl _ _).drew | exact (Below.refl _ _).drew.drew)) (HK.out.2.2.2.2.2.2.2.2.1.below (by first | exact Below.refl _ _ | exact (Below.refl _ _).drew | exact (Below.refl _ _).drew.drew)) (HK.out.2.2.2.2.2.2.2.2.2.1.below (by first | exact Below.refl _ _ | exact (Below.refl _ _).drew | exact (Below.refl _ _).drew.drew)) (HK.out.2.2.2.2.2.2.2.2.2.2.1.below (by first | exact Below.refl _ _ | exact (Below.refl _ _).drew | exact (Below.refl _ _).drew.drew)) (HK.out.2.2.2.2.2.2.2.2.2.2.2.below (by first | exact Below.refl _ _ | exact (Below.refl _ _).drew | exact (Below.refl _ _).drew.drew)) HK.out.2.1).mono ?_; rintro e w1 ⟨rfl, b1'⟩; have b1 : Below wr.heap.size wr w1 := bel_nx (by first | exact Below.refl _ _ | exact (Below.refl _ _).drew | exact (Below.refl _ _).drew.drew) b1'; clear b1')
      all_goals (
        have B1 := bel_nx HK.out.1 b1
        clear HK b1 d09 e09 d19 e19 d29 e29 d39 e39 d49 e49 d59 e59 d69 e69 d79 e79 d89 e89 d99 e99 d109 e109 d119 e119 d129 e129
        go_wp2
        go_roundw
        case rel => exact ⟨k + 1, by omega, by go_num, B1⟩
        case measure => simp [intOf]; omega)
    · have hi : ¬ (k : Int) < (n' : Int) := by omega
      go_wp2
      go_ret
      exact ⟨rfl, hbl⟩
set_option maxRecDepth 20000 in
set_option maxHeartbeats 4000000 in
theorem eqTable_t (X : VT) (a1 : Option Addr) (l1 c1 : Nat) (a1' : Option Addr) (c1' : Nat) (w : World) (r1 : Rd w 0 (.list 13 X.m (fun i => trs (dT (X.f i)))) (.slice a1 l1 c1)) (r1' : Rd w 0 (.list 13 X.m (fun i => trs (dT (X.f i)))) (.slice a1' l1 c1')) (hz : szT 2 (trs (tT X)) ≤ 1048576) :
    Calls Try.prog 20 #[.agg (tL X a1 l1 c1).toArray, .agg (tL X a1' l1 c1').toArray] w fun e w' => e = .returned (.bool true) ∧ Below w.heap.size w w' := by
  obtain ⟨W, hW⟩ : ∃ W, W = (w.alloc (.cells (tL X a1 l1 c1).toArray 31)).alloc (.cells (tL X a1' l1 c1').toArray 31) := ⟨_, rfl⟩
  have HZ : Hid ((Tr.list 13 X.m (fun i => trs (dT (X.f i)))).sz ≤ 1048576) := by
    rw [szT_t] at hz
    show (Tr.list 13 X.m (fun i => trs (dT (X.f i)))).sz ≤ 1048576
    try simp only [szT_q, szT_a, szT_p, szT_d, szT_t, true_and]
    omega
  have HR : Hid (Rd w 0 (.list 13 X.m (fun i => trs (dT (X.f i)))) (.slice a1 l1 c1) ∧ Rd w 0 (.list 13 X.m (fun i => trs (dT (X.f i)))) (.slice a1' l1 c1')) := ⟨r1, r1'⟩
  have G0 : Hid (Below w.heap.size w W ∧ Blk W w.heap.size 31 (tL X a1 l1 c1).toArray ∧ Blk W (w.heap.size + 1) 31 (tL X a1' l1 c1').toArray) := ⟨by rw [hW]; exact bel_nx (bel_alloc _ _) (bel_alloc _ _), by rw [hW]; exact (Blk.new w _ _).below (bel_alloc _ _), by rw [hW]; have := Blk.new (w.alloc (.cells (tL X a1 l1 c1).toArray 31)) (tL X a1' l1 c1').toArray 31; simpa using this⟩
  clear hz r1 r1'
  go_enter Try.func20, Try.ntmps20
  go_upto_region 1 with fail
  rw [← hW]
  clear hW
  obtain ⟨⟨y0, y1⟩, yf⟩ := G0.out.2.1.tc2
  obtain ⟨⟨z0, z1⟩, zf⟩ := G0.out.2.2.tc2
  clear yf zf
  go_wp2_with fail
  refine (eqPendS_t X.m X.f a1 l1 c1 a1' c1' _ (HR.out.1.below G0.out.1) (HR.out.2.below G0.out.1) HZ.out).mono ?_
  rintro e w1 ⟨rfl, hb1⟩
  have G1 : Hid (Below w.heap.size w w1 ∧ Blk w1 w.heap.size 31 (tL X a1 l1 c1).toArray ∧ Blk w1 (w.heap.size + 1) 31 (tL X a1' l1 c1').toArray) := ⟨bel_nx G0.out.1 hb1, G0.out.2.1.below hb1, G0.out.2.2.below hb1⟩
  clear hb1 y0 y1 z0 z1
  go_wp2
  go_ret
  exact ⟨rfl, G1.out.1⟩
end Go.Proofs.Ytccffbbboodolaa
namespace Go.Proofs.Ytccffbbboodolaa
open Go.RowKit Go.Joins
set_option linter.unusedVariables false
set_option linter.unusedSimpArgs false
theorem eqRuleS_t (n : Nat) (f : Nat → Ru) (a : Option Addr) (n' cap : Nat) (a' : Option Addr) (cap' : Nat) (w : World) (hs : Rd w 0 (.list 7 n (fun k => trs (xrT (f k)))) (.slice a n' cap)) (hs' : Rd w 0 (.list 7 n (fun k => trs (xrT (f k)))) (.slice a' n' cap')) (hz : (Tr.list 7 n (fun k => trs (xrT (f k)))).sz ≤ 1048576) :
    Calls Try.prog 22 #[.slice a n' cap, .slice a' n' cap'] w fun e w' => e = .returned (.bool true) ∧ Below w.heap.size w w' := by
  obtain ⟨rfl, h1⟩ := hs.slu
  obtain ⟨-, h2⟩ := hs'.slu
  rw [Tr.sz_list] at hz
  exact eqRuleS_true a a' n' cap cap' f w h1 h2 (by omega)
theorem Blk.tc3 {w : World} {g : Nat} {t : TypeId} {v0 v1 v2 : Value} (h : Blk w g t #[v0, v1, v2]) : (w.cell? ⟨g, 0, none⟩ = some v0 ∧ w.cell? ⟨g, 1, none⟩ = some v1 ∧ w.cell? ⟨g, 2, none⟩ = some v2) ∧ ∀ j, w.frozen? ⟨g, j, none⟩ = false :=
  ⟨⟨h.cell 0 rfl, h.cell 1 rfl, h.cell 2 rfl⟩, h.fro⟩
theorem Blk.tc9 {w : World} {g : Nat} {t : TypeId} {v0 v1 v2 v3 v4 v5 v6 v7 v8 : Value} (h : Blk w g t #[v0, v1, v2, v3, v4, v5, v6, v7, v8]) : (w.cell? ⟨g, 0, none⟩ = some v0 ∧ w.cell? ⟨g, 1, none⟩ = some v1 ∧ w.cell? ⟨g, 2, none⟩ = some v2 ∧ w.cell? ⟨g, 3, none⟩ = some v3 ∧ w.cell? ⟨g, 4, none⟩ = some v4 ∧ w.cell? ⟨g, 5, none⟩ = some v5 ∧ w.cell? ⟨g, 6, none⟩ = some v6 ∧ w.cell? ⟨g, 7, none⟩ = some v7 ∧ w.cell? ⟨g, 8, none⟩ = some v8) ∧ ∀ j, w.frozen? ⟨g, j, none⟩ = false :=
  ⟨⟨h.cell 0 rfl, h.cell 1 rfl, h.cell 2 rfl, h.cell 3 rfl, h.cell 4 rfl, h.cell 5 rfl, h.cell 6 rfl, h.cell 7 rfl, h.cell 8 rfl⟩, h.fro⟩
theorem Blk.tc11 {w : World} {g : Nat} {t : TypeId} {v0 v1 v2 v3 v4 v5 v6 v7 v8 v9 v10 : Value} (h : Blk w g t #[v0, v1, v2, v3, v4, v5, v6, v7, v8, v9, v10]) : (w.cell? ⟨g, 0, none⟩ = some v0 ∧ w.cell? ⟨g, 1, none⟩ = some v1 ∧ w.cell? ⟨g, 2, none⟩ = some v2 ∧ w.cell? ⟨g, 3, none⟩ = some v3 ∧ w.cell? ⟨g, 4, none⟩ = some v4 ∧ w.cell? ⟨g, 5, none⟩ = some v5 ∧ w.cell? ⟨g, 6, none⟩ = some v6 ∧ w.cell? ⟨g, 7, none⟩ = some v7 ∧ w.cell? ⟨g, 8, none⟩ = some v8 ∧ w.cell? ⟨g, 9, none⟩ = some v9 ∧ w.cell? ⟨g, 10, none⟩ = some v10) ∧ ∀ j, w.frozen? ⟨g, j, none⟩ = false :=
  ⟨⟨h.cell 0 rfl, h.cell 1 rfl, h.cell 2 rfl, h.cell 3 rfl, h.cell 4 rfl, h.cell 5 rfl, h.cell 6 rfl, h.cell 7 rfl, h.cell 8 rfl, h.cell 9 rfl, h.cell 10 rfl⟩, h.fro⟩
theorem Blk.tc17 {w : World} {g : Nat} {t : TypeId} {v0 v1 v2 v3 v4 v5 v6 v7 v8 v9 v10 v11 v12 v13 v14 v15 v16 : Value} (h : Blk w g t #[v0, v1, v2, v3, v4, v5, v6, v7, v8, v9, v10, v11, v12, v13, v14, v15, v16]) : (w.cell? ⟨g, 0, none⟩ = some v0 ∧ w.cell? ⟨g, 1, none⟩ = some v1 ∧ w.cell? ⟨g, 2, none⟩ = some v2 ∧ w.cell? ⟨g, 3, none⟩ = some v3 ∧ w.cell? ⟨g, 4, none⟩ = some v4 ∧ w.cell? ⟨g, 5, none⟩ = some v5 ∧ w.cell? ⟨g, 6, none⟩ = some v6 ∧ w.cell? ⟨g, 7, none⟩ = some v7 ∧ w.cell? ⟨g, 8, none⟩ = some v8 ∧ w.cell? ⟨g, 9, none⟩ = some v9 ∧ w.cell? ⟨g, 10, none⟩ = some v10 ∧ w.cell? ⟨g, 11, none⟩ = some v11 ∧ w.cell? ⟨g, 12, none⟩ = some v12 ∧ w.cell? ⟨g, 13, none⟩ = some v13 ∧ w.cell? ⟨g, 14, none⟩ = some v14 ∧ w.cell? ⟨g, 15, none⟩ = some v15 ∧ w.cell? ⟨g, 16, none⟩ = some v16) ∧ ∀ j, w.frozen? ⟨g, j, none⟩ = false :=
  ⟨⟨h.cell 0 rfl, h.cell 1 rfl, h.cell 2 rfl, h.cell 3 rfl, h.cell 4 rfl, h.cell 5 rfl, h.cell 6 rfl, h.cell 7 rfl, h.cell 8 rfl, h.cell 9 rfl, h.cell 10 rfl, h.cell 11 rfl, h.cell 12 rfl, h.cell 13 rfl, h.cell 14 rfl, h.cell 15 rfl, h.cell 16 rfl⟩, h.fro⟩
set_option maxRecDepth 20000 in
set_option maxHeartbeats 4000000 in
theorem eqConfig_t (X : VC) (a1 : Option Addr) (l1 c1 : Nat) (a1' : Option Addr) (c1' : Nat) (w : World) (r1 : Rd w 0 (.list 7 X.n (fun i => trs (xrT (X.f i)))) (.slice a1 l1 c1)) (r1' : Rd w 0 (.list 7 X.n (fun i => trs (xrT (X.f i)))) (.slice a1' l1 c1')) (hz : szT 3 (trs (xcT X)) ≤ 1048576) :
    Calls Try.prog 9 #[.agg (xcL X a1 l1 c1).toArray, .agg (xcL X a1' l1 c1').toArray] w fun e w' => e = .returned (.bool true) ∧ Below w.heap.size w w' := by
  obtain ⟨W, hW⟩ : ∃ W, W = (w.alloc (.cells (xcL X a1 l1 c1).toArray 28)).alloc (.cells (xcL X a1' l1 c1').toArray 28) := ⟨_, rfl⟩
  have HZ : Hid ((Tr.list 7 X.n (fun i => trs (xrT (X.f i)))).sz ≤ 1048576) := by
    rw [szT_xc] at hz
    show (Tr.list 7 X.n (fun i => trs (xrT (X.f i)))).sz ≤ 1048576
    try simp only [szT_q, szT_a, szT_p, szT_d, szT_t, szT_xr, szT_xc, szT_xl, szT_xn, szT_xf, true_and]
    omega
  have HR : Hid (Rd w 0 (.list 7 X.n (fun i => trs (xrT (X.f i)))) (.slice a1 l1 c1) ∧ Rd w 0 (.list 7 X.n (fun i => trs (xrT (X.f i)))) (.slice a1' l1 c1')) := ⟨r1, r1'⟩
  have G0 : Hid (Below w.heap.size w W ∧ Blk W w.heap.size 28 (xcL X a1 l1 c1).toArray ∧ Blk W (w.heap.size + 1) 28 (xcL X a1' l1 c1').toArray) := ⟨by rw [hW]; exact bel_nx (bel_alloc _ _) (bel_alloc _ _), by rw [hW]; exact (Blk.new w _ _).below (bel_alloc _ _), by rw [hW]; have := Blk.new (w.alloc (.cells (xcL X a1 l1 c1).toArray 28)) (xcL X a1' l1 c1').toArray 28; simpa using this⟩
  clear hz r1 r1'
  go_enter Try.func9, Try.ntmps9
  go_upto_region 1 with fail
  rw [← hW]
  clear hW
  obtain ⟨⟨y0, y1, y2⟩, yf⟩ := G0.out.2.1.tc3
  obtain ⟨⟨z0, z1, z2⟩, zf⟩ := G0.out.2.2.tc3
  clear yf zf
  go_wp2_with fail
  refine (eqRuleS_t X.n X.f a1 l1 c1 a1' c1' _ (HR.out.1.below G0.out.1) (HR.out.2.below G0.out.1) HZ.out).mono ?_
  rintro e w1 ⟨rfl, hb1⟩
  have G1 : Hid (Below w.heap.size w w1 ∧ Blk w1 w.heap.size 28 (xcL X a1 l1 c1).toArray ∧ Blk w1 (w.heap.size + 1) 28 (xcL X a1' l1 c1').toArray) := ⟨bel_nx G0.out.1 hb1, G0.out.2.1.below hb1, G0.out.2.2.below hb1⟩
  clear hb1 y0 y1 y2 z0 z1 z2
  go_wp2
  go_ret
  exact ⟨rfl, G1.out.1⟩
set_option maxRecDepth 20000 in
set_option maxHeartbeats 4000000 in
theorem eqCall_t (X : VL) (a1 : Option Addr) (l1 c1 : Nat) (a2 : Option Addr) (l2 c2 : Nat) (a1' : Option Addr) (c1' : Nat) (a2' : Option Addr) (c2' : Nat) (w : World) (r1 : Rd w 0 (intsT X.q.ws) (.slice a1 l1 c1)) (r2 : Rd w 0 (boolsT X.q.bs) (.slice a2 l2 c2)) (r1' : Rd w 0 (intsT X.q.ws) (.slice a1' l1 c1')) (r2' : Rd w 0 (boolsT X.q.bs) (.slice a2' l2 c2')) (hz : szT 9 (trs (xlT X)) ≤ 1048576) :
    Calls Try.prog 54 #[.agg (xlL X a1 l1 c1 a2 l2 c2).toArray, .agg (xlL X a1' l1 c1' a2' l2 c2').toArray] w fun e w' => e = .returned (.bool true) ∧ Below w.heap.size w w' := by
  obtain ⟨W, hW⟩ : ∃ W, W = (w.alloc (.cells (xlL X a1 l1 c1 a2 l2 c2).toArray 50)).alloc (.cells (xlL X a1' l1 c1' a2' l2 c2').toArray 50) := ⟨_, rfl⟩
  have HZ : Hid (szT 6 (trs (qT X.q)) ≤ 1048576) := by
    rw [szT_xl] at hz
    show szT 6 (trs (qT X.q)) ≤ 1048576
    try simp only [szT_q, szT_a, szT_p, szT_d, szT_t, szT_xr, szT_xc, szT_xl, szT_xn, szT_xf, true_and]
    omega
  have HR : Hid (Rd w 0 (intsT X.q.ws) (.slice a1 l1 c1) ∧ Rd w 0 (boolsT X.q.bs) (.slice a2 l2 c2) ∧ Rd w 0 (intsT X.q.ws) (.slice a1' l1 c1') ∧ Rd w 0 (boolsT X.q.bs) (.slice a2' l2 c2')) := ⟨r1, r2, r1', r2'⟩
  have G0 : Hid (Below w.heap.size w W ∧ Blk W w.heap.size 50 (xlL X a1 l1 c1 a2 l2 c2).toArray ∧ Blk W (w.heap.size + 1) 50 (xlL X a1' l1 c1' a2' l2 c2').toArray) := ⟨by rw [hW]; exact bel_nx (bel_alloc _ _) (bel_alloc _ _), by rw [hW]; exact (Blk.new w _ _).below (bel_alloc _ _), by rw [hW]; have := Blk.new (w.alloc (.cells (xlL X a1 l1 c1 a2 l2 c2).toArray 50)) (xlL X a1' l1 c1' a2' l2 c2').toArray 50; simpa using this⟩
  clear hz r1 r2 r1' r2'
  go_enter Try.func54, Try.ntmps54
  go_upto_region 1 with fail
  rw [← hW]
  clear hW
  obtain ⟨⟨y0, y1, y2, y3, y4, y5, y6, y7, y8⟩, yf⟩ := G0.out.2.1.tc9
  obtain ⟨⟨z0, z1, z2, z3, z4, z5, z6, z7, z8⟩, zf⟩ := G0.out.2.2.tc9
  clear yf zf
  go_wp2_with fail
  refine (eqReq_t X.q a1 l1 c1 a2 l2 c2 a1' c1' a2' c2' _ (HR.out.1.below G0.out.1) (HR.out.2.1.below G0.out.1) (HR.out.2.2.1.below G0.out.1) (HR.out.2.2.2.below G0.out.1) HZ.out).mono ?_
  rintro e w1 ⟨rfl, hb1⟩
  have G1 : Hid (Below w.heap.size w w1 ∧ Blk w1 w.heap.size 50 (xlL X a1 l1 c1 a2 l2 c2).toArray ∧ Blk w1 (w.heap.size + 1) 50 (xlL X a1' l1 c1' a2' l2 c2').toArray) := ⟨bel_nx G0.out.1 hb1, G0.out.2.1.below hb1, G0.out.2.2.below hb1⟩
  clear hb1 y0 y1 y2 y3 y4 y5 y6 y7 y8 z0 z1 z2 z3 z4 z5 z6 z7 z8
  go_wp2
  go_ret
  exact ⟨rfl, G1.out.1⟩
set_option maxRecDepth 20000 in
set_option maxHeartbeats 4000000 in
theorem eqCallS_t (n : Nat) (f : Nat → VL) (a : Option Addr) (n' cap : Nat) (a' : Option Addr) (cap' : Nat) (w : World) (hs : Rd w 0 (.list 9 n (fun k => trs (xlT (f k)))) (.slice a n' cap)) (hs' : Rd w 0 (.list 9 n (fun k => trs (xlT (f k)))) (.slice a' n' cap')) (hz : (Tr.list 9 n (fun k => trs (xlT (f k)))).sz ≤ 1048576) :
    Calls Try.prog 53 #[.slice a n' cap, .slice a' n' cap'] w fun e w' => e = .returned (.bool true) ∧ Below w.heap.size w w' := by
  obtain ⟨a9, c9, h9, -, hn⟩ := hs.shape
  simp only [Value.slice.injEq] at h9
  obtain ⟨-, rfl, -⟩ := h9
  clear a9 c9 hn
  have hn1 : n' ≤ 1048576 := by rw [Tr.sz_list] at hz; omega
  have HZ : Hid (∀ k, k < n' → szT 9 (trs (xlT (f k))) ≤ 1048576) := by
    show ∀ k, k < n' → szT 9 (trs (xlT (f k))) ≤ 1048576
    intro k hk
    rw [Tr.sz_list] at hz
    have := sumN_at (fun k => szT 9 (trs (xlT (f k)))) hk
    omega
  have HS : Hid (Rd w 0 (.list 9 n' (fun k => trs (xlT (f k)))) (.slice a n' cap) ∧ Rd w 0 (.list 9 n' (fun k => trs (xlT (f k)))) (.slice a' n' cap')) := ⟨hs, hs'⟩
  clear hs hs' hz
  go_enter Try.func53, Try.ntmps53
  go_wp2
  go_loopw [5] (fun i wr => ∃ z : Nat, z ≤ n' ∧ i = .int .i64 z ∧ Below w.heap.size w wr) (fun i _ => n' - (intOf i).toNat)
  case atStart => exact ⟨0, Nat.zero_le _, rfl, Below.refl _ _⟩
  case round =>
    obtain ⟨k, hk, rfl, hbl⟩ := hrel
    by_cases hlt : k < n'
    · have hi : (k : Int) < (n' : Int) := by omega
      obtain ⟨b, off, vs, rfl, _, hb0, hlen, hr, hrd⟩ := (HS.out.1.below hbl).at hlt
      obtain ⟨a1, c1, a2, c2, rfl, r1, r2⟩ := VL.cells hrd hlen
      clear hlen hrd hb0
      obtain ⟨b', off', vs, rfl, _, hb0, hlen, hr', hrd⟩ := (HS.out.2.below hbl).at hlt
      obtain ⟨a1', c1', a2', c2', rfl, r1', r2'⟩ := VL.cells hrd hlen
      clear hlen hrd hb0
      have d09 : wr.cell? ⟨b, off + k * 9, none⟩ = _ := hr 0 _ rfl
      have e09 : wr.cell? ⟨b', off' + k * 9, none⟩ = _ := hr' 0 _ rfl
      have d19 : wr.cell? ⟨b, off + k * 9 + 1, none⟩ = _ := hr 1 _ rfl
      have e19 : wr.cell? ⟨b', off' + k * 9 + 1, none⟩ = _ := hr' 1 _ rfl
      have d29 : wr.cell? ⟨b, off + k * 9 + 2, none⟩ = _ := hr 2 _ rfl
      have e29 : wr.cell? ⟨b', off' + k * 9 + 2, none⟩ = _ := hr' 2 _ rfl
      have d39 : wr.cell? ⟨b, off + k * 9 + 3, none⟩ = _ := hr 3 _ rfl
      have e39 : wr.cell? ⟨b', off' + k * 9 + 3, none⟩ = _ := hr' 3 _ rfl
      have d49 : wr.cell? ⟨b, off + k * 9 + 4, none⟩ = _ := hr 4 _ rfl
      have e49 : wr.cell? ⟨b', off' + k * 9 + 4, none⟩ = _ := hr' 4 _ rfl
      have d59 : wr.cell? ⟨b, off + k * 9 + 5, none⟩ = _ := hr 5 _ rfl
      have e59 : wr.cell? ⟨b', off' + k * 9 + 5, none⟩ = _ := hr' 5 _ rfl
      have d69 : wr.cell? ⟨b, off + k * 9 + 6, none⟩ = _ := hr 6 _ rfl
      have e69 : wr.cell? ⟨b', off' + k * 9 + 6, none⟩ = _ := hr' 6 _ rfl
      have d79 : wr.cell? ⟨b, off + k * 9 + 7, none⟩ = _ := hr 7 _ rfl
      have e79 : wr.cell? ⟨b', off' + k * 9 + 7, none⟩ = _ := hr' 7 _ rfl
      have d89 : wr.cell? ⟨b, off + k * 9 + 8, none⟩ = _ := hr 8 _ rfl
      have e89 : wr.cell? ⟨b', off' + k * 9 + 8, none⟩ = _ := hr' 8 _ rfl
      have HK : Hid (Below w.heap.size w wr ∧ szT 9 (trs (xlT (f k))) ≤ 1048576 ∧ Rd wr 0 (intsT (f k).q.ws) (.slice a1 ((f k).q.ws.length) c1) ∧ Rd wr 0 (boolsT (f k).q.bs) (.slice a2 ((f k).q.bs.length) c2) ∧ Rd wr 0 (intsT (f k).q.ws) (.slice a1' ((f k).q.ws.length) c1') ∧ Rd wr 0 (boolsT (f k).q.bs) (.slice a2' ((f k).q.bs.length) c2')) := ⟨hbl, HZ.out k hlt, r1, r2, r1', r2'⟩
      clear r1 r2 r1' r2' hr hr' hbl
      go_wp2_with fail
      go_region_with (go_at_call 54; refine (eqCall_t (f k) a1 ((f k).q.ws.length) c1 a2 ((f k).q.bs.length) c2 a1' c1' a2' c2' _ (HK.out.2.2.1.below (by first | exact Below.refl _ _ | exact (Below.refl _ _).drew | exact (Below.refl _ _).drew.drew)) (HK.out.2.2.2.1.below (by first | exact Below.refl _ _ | exact (Below.refl _ _).drew | exact (Below.refl _ _).drew.drew)) (HK.out.2.2.2.2.1.below (by first | exact Below.refl _ _ | exact (Below.refl _ _).drew | exact (Below.refl _ _).drew.drew)) (HK.out.2.2.2.2.2.below (by first | exact Below.refl _ _ | exact (Below.refl _ _).drew | exact (Below.refl _ _).drew.drew)) HK.out.2.1).mono ?_; rintro e w1 ⟨rfl, b1'⟩; have b1 : Below wr.heap.size wr w1 := bel_nx (by first | exact Below.refl _ _ | exact (Below.refl _ _).drew | exact (Below.refl _ _).drew.drew) b1'; clear b1')
      all_goals (
        have B1 := bel_nx HK.out.1 b1
        clear HK b1 d09 e09 d19 e19 d29 e29 d39 e39 d49 e49 d59 e59 d69 e69 d79 e79 d89 e89
        go_wp2
        go_roundw
        case rel => exact ⟨k + 1, by omega, by go_num, B1⟩
        case measure => simp [intOf]; omega)
    · have hi : ¬ (k : Int) < (n' : Int) := by omega
      go_wp2
      go_ret
      exact ⟨rfl, hbl⟩
set_option maxRecDepth 20000 in
set_option maxHeartbeats 4000000 in
theorem eqLine_t (X : VN) (a1 : Option Addr) (l1 c1 : Nat) (a2 : Option Addr) (l2 c2 : Nat) (a3 : Option Addr) (l3 c3 : Nat) (a1' : Option Addr) (c1' : Nat) (a2' : Option Addr) (c2' : Nat) (a3' : Option Addr) (c3' : Nat) (w : World) (r1 : Rd w 0 (.list 9 X.nq (fun i => trs (xlT (X.qf i)))) (.slice a1 l1 c1)) (r2 : Rd w 0 (intsT X.c.q.ws) (.slice a2 l2 c2)) (r3 : Rd w 0 (boolsT X.c.q.bs) (.slice a3 l3 c3)) (r1' : Rd w 0 (.list 9 X.nq (fun i => trs (xlT (X.qf i)))) (.slice a1' l1 c1')) (r2' : Rd w 0 (intsT X.c.q.ws) (.slice a2' l2 c2')) (r3' : Rd w 0 (boolsT X.c.q.bs) (.slice a3' l3 c3')) (hz : szT 17 (trs (xnT X)) ≤ 1048576) :
    Calls Try.prog 37 #[.agg (xnL X a1 l1 c1 a2 l2 c2 a3 l3 c3).toArray, .agg (xnL X a1' l1 c1' a2' l2 c2' a3' l3 c3').toArray] w fun e w' => e = .returned (.bool true) ∧ Below w.heap.size w w' := by
  obtain ⟨W, hW⟩ : ∃ W, W = (w.alloc (.cells (xnL X a1 l1 c1 a2 l2 c2 a3 l3 c3).toArray 52)).alloc (.cells (xnL X a1' l1 c1' a2' l2 c2' a3' l3 c3').toArray 52) := ⟨_, rfl⟩
  have HZ : Hid ((Tr.list 9 X.nq (fun i => trs (xlT (X.qf i)))).sz ≤ 1048576 ∧ szT 9 (trs (xlT X.c)) ≤ 1048576) := by
    rw [szT_xn] at hz
    show (Tr.list 9 X.nq (fun i => trs (xlT (X.qf i)))).sz ≤ 1048576 ∧ szT 9 (trs (xlT X.c)) ≤ 1048576
    try simp only [szT_q, szT_a, szT_p, szT_d, szT_t, szT_xr, szT_xc, szT_xl, szT_xn, szT_xf, true_and]
    omega
  have HR : Hid (Rd w 0 (.list 9 X.nq (fun i => trs (xlT (X.qf i)))) (.slice a1 l1 c1) ∧ Rd w 0 (intsT X.c.q.ws) (.slice a2 l2 c2) ∧ Rd w 0 (boolsT X.c.q.bs) (.slice a3 l3 c3) ∧ Rd w 0 (.list 9 X.nq (fun i => trs (xlT (X.qf i)))) (.slice a1' l1 c1') ∧ Rd w 0 (intsT X.c.q.ws) (.slice a2' l2 c2') ∧ Rd w 0 (boolsT X.c.q.bs) (.slice a3' l3 c3')) := ⟨r1, r2, r3, r1', r2', r3'⟩
  have G0 : Hid (Below w.heap.size w W ∧ Blk W w.heap.size 52 (xnL X a1 l1 c1 a2 l2 c2 a3 l3 c3).toArray ∧ Blk W (w.heap.size + 1) 52 (xnL X a1' l1 c1' a2' l2 c2' a3' l3 c3').toArray) := ⟨by rw [hW]; exact bel_nx (bel_alloc _ _) (bel_alloc _ _), by rw [hW]; exact (Blk.new w _ _).below (bel_alloc _ _), by rw [hW]; have := Blk.new (w.alloc (.cells (xnL X a1 l1 c1 a2 l2 c2 a3 l3 c3).toArray 52)) (xnL X a1' l1 c1' a2' l2 c2' a3' l3 c3').toArray 52; simpa using this⟩
  clear hz r1 r2 r3 r1' r2' r3'
  go_enter Try.func37, Try.ntmps37
  go_upto_region 1 with fail
  rw [← hW]
  clear hW
  obtain ⟨⟨y0, y1, y2, y3, y4, y5, y6, y7, y8, y9, y10, y11, y12, y13, y14, y15, y16⟩, yf⟩ := G0.out.2.1.tc17
  obtain ⟨⟨z0, z1, z2, z3, z4, z5, z6, z7, z8, z9, z10, z11, z12, z13, z14, z15, z16⟩, zf⟩ := G0.out.2.2.tc17
  clear yf zf
  go_wp2_with fail
  refine (eqCallS_t X.nq X.qf a1 l1 c1 a1' c1' _ (HR.out.1.below G0.out.1) (HR.out.2.2.2.1.below G0.out.1) HZ.out.1).mono ?_
  rintro e w1 ⟨rfl, hb1⟩
  have G1 : Hid (Below w.heap.size w w1 ∧ Blk w1 w.heap.size 52 (xnL X a1 l1 c1 a2 l2 c2 a3 l3 c3).toArray ∧ Blk w1 (w.heap.size + 1) 52 (xnL X a1' l1 c1' a2' l2 c2' a3' l3 c3').toArray) := ⟨bel_nx G0.out.1 hb1, G0.out.2.1.below hb1, G0.out.2.2.below hb1⟩
  clear hb1 y0 y1 y2 y3 y4 y5 y6 y7 y8 y9 y10 y11 y12 y13 y14 y15 y16 z0 z1 z2 z3 z4 z5 z6 z7 z8 z9 z10 z11 z12 z13 z14 z15 z16
  obtain ⟨⟨y0, y1, y2, y3, y4, y5, y6, y7, y8, y9, y10, y11, y12, y13, y14, y15, y16⟩, yf⟩ := G1.out.2.1.tc17
  obtain ⟨⟨z0, z1, z2, z3, z4, z5, z6, z7, z8, z9, z10, z11, z12, z13, z14, z15, z16⟩, zf⟩ := G1.out.2.2.tc17
  clear yf zf
  go_wp2_with fail
  refine (eqCall_t X.c a2 l2 c2 a3 l3 c3 a2' c2' a3' c3' _ (HR.out.2.1.below G1.out.1) (HR.out.2.2.1.below G1.out.1) (HR.out.2.2.2.2.1.below G1.out.1) (HR.out.2.2.2.2.2.below G1.out.1) HZ.out.2).mono ?_
  rintro e w2 ⟨rfl, hb2⟩
  have G2 : Hid (Below w.heap.size w w2 ∧ Blk w2 w.heap.size 52 (xnL X a1 l1 c1 a2 l2 c2 a3 l3 c3).toArray ∧ Blk w2 (w.heap.size + 1) 52 (xnL X a1' l1 c1' a2' l2 c2' a3' l3 c3').toArray) := ⟨bel_nx G1.out.1 hb2, G1.out.2.1.below hb2, G1.out.2.2.below hb2⟩
  clear hb2 y0 y1 y2 y3 y4 y5 y6 y7 y8 y9 y10 y11 y12 y13 y14 y15 y16 z0 z1 z2 z3 z4 z5 z6 z7 z8 z9 z10 z11 z12 z13 z14 z15 z16
  obtain ⟨⟨y0, y1, y2, y3, y4, y5, y6, y7, y8, y9, y10, y11, y12, y13, y14, y15, y16⟩, yf⟩ := G2.out.2.1.tc17
  obtain ⟨⟨z0, z1, z2, z3, z4, z5, z6, z7, z8, z9, z10, z11, z12, z13, z14, z15, z16⟩, zf⟩ := G2.out.2.2.tc17
  clear yf zf
  go_wp2
  go_ret
  exact ⟨rfl, G2.out.1⟩
set_option maxRecDepth 20000 in
set_option maxHeartbeats 4000000 in
theorem eqLineS_t (n : Nat) (f : Nat → VN) (a : Option Addr) (n' cap : Nat) (a' : Option Addr) (cap' : Nat) (w : World) (hs : Rd w 0 (.list 17 n (fun k => trs (xnT (f k)))) (.slice a n' cap)) (hs' : Rd w 0 (.list 17 n (fun k => trs (xnT (f k)))) (.slice a' n' cap')) (hz : (Tr.list 17 n (fun k => trs (xnT (f k)))).sz ≤ 1048576) :
    Calls Try.prog 21 #[.slice a n' cap, .slice a' n' cap'] w fun e w' => e = .returned (.bool true) ∧ Below w.heap.size w w' := by
  obtain ⟨a9, c9, h9, -, hn⟩ := hs.shape
  simp only [Value.slice.injEq] at h9
  obtain ⟨-, rfl, -⟩ := h9
  clear a9 c9 hn
  have hn1 : n' ≤ 1048576 := by rw [Tr.sz_list] at hz; omega
  have HZ : Hid (∀ k, k < n' → szT 17 (trs (xnT (f k))) ≤ 1048576) := by
    show ∀ k, k < n' → szT 17 (trs (xnT (f k))) ≤ 1048576
    intro k hk
    rw [Tr.sz_list] at hz
    have := sumN_at (fun k => szT 17 (trs (xnT (f k)))) hk
    omega
  have HS : Hid (Rd w 0 (.list 17 n' (fun k => trs (xnT (f k)))) (.slice a n' cap) ∧ Rd w 0 (.list 17 n' (fun k => trs (xnT (f k)))) (.slice a' n' cap')) := ⟨hs, hs'⟩
  clear hs hs' hz
  go_enter Try.func21, Try.ntmps21
  go_wp2
  go_loopw [5] (fun i wr => ∃ z : Nat, z ≤ n' ∧ i = .int .i64 z ∧ Below w.heap.size w wr) (fun i _ => n' - (intOf i).toNat)
  case atStart => exact ⟨0, Nat.zero_le _, rfl, Below.refl _ _⟩
  case round =>
    obtain ⟨k, hk, rfl, hbl⟩ := hrel
    by_cases hlt : k < n'
    · have hi : (k : Int) < (n' : Int) := by omega
      obtain ⟨b, off, vs, rfl, _, hb0, hlen, hr, hrd⟩ := (HS.out.1.below hbl).at hlt
      obtain ⟨a1, c1, a2, c2, a3, c3, rfl, r1, r2, r3⟩ := VN.cells hrd hlen
      clear hlen hrd hb0
      obtain ⟨b', off', vs, rfl, _, hb0, hlen, hr', hrd⟩ := (HS.out.2.below hbl).at hlt
      obtain ⟨a1', c1', a2', c2', a3', c3', rfl, r1', r2', r3'⟩ := VN.cells hrd hlen
      clear hlen hrd hb0
      have d09 : wr.cell? ⟨b, off + k * 17, none⟩ = _ := hr 0 _ rfl
      have e09 : wr.cell? ⟨b', off' + k * 17, none⟩ = _ := hr' 0 _ rfl
      have d19 : wr.cell? ⟨b, off + k * 17 + 1, none⟩ = _ := hr 1 _ rfl
      have e19 : wr.cell? ⟨b', off' + k * 17 + 1, none⟩ = _ := hr' 1 _ rfl
      have d29 : wr.cell? ⟨b, off + k * 17 + 2, none⟩ = _ := hr 2 _ rfl
      have e29 : wr.cell? ⟨b', off' + k * 17 + 2, none⟩ = _ := hr' 2 _ rfl
      have d39 : wr.cell? ⟨b, off + k * 17 + 3, none⟩ = _ := hr 3 _ rfl
      have e39 : wr.cell? ⟨b', off' + k * 17 + 3, none⟩ = _ := hr' 3 _ rfl
      have d49 : wr.cell? ⟨b, off + k * 17 + 4, none⟩ = _ := hr 4 _ rfl
      have e49 : wr.cell? ⟨b', off' + k * 17 + 4, none⟩ = _ := hr' 4 _ rfl
      have d59 : wr.cell? ⟨b, off + k * 17 + 5, none⟩ = _ := hr 5 _ rfl
      have e59 : wr.cell? ⟨b', off' + k * 17 + 5, none⟩ = _ := hr' 5 _ rfl
      have d69 : wr.cell? ⟨b, off + k * 17 + 6, none⟩ = _ := hr 6 _ rfl
      have e69 : wr.cell? ⟨b', off' + k * 17 + 6, none⟩ = _ := hr' 6 _ rfl
      have d79 : wr.cell? ⟨b, off + k * 17 + 7, none⟩ = _ := hr 7 _ rfl
      have e79 : wr.cell? ⟨b', off' + k * 17 + 7, none⟩ = _ := hr' 7 _ rfl
      have d89 : wr.cell? ⟨b, off + k * 17 + 8, none⟩ = _ := hr 8 _ rfl
      have e89 : wr.cell? ⟨b', off' + k * 17 + 8, none⟩ = _ := hr' 8 _ rfl
      have d99 : wr.cell? ⟨b, off + k * 17 + 9, none⟩ = _ := hr 9 _ rfl
      have e99 : wr.cell? ⟨b', off' + k * 17 + 9, none⟩ = _ := hr' 9 _ rfl
      have d109 : wr.cell? ⟨b, off + k * 17 + 10, none⟩ = _ := hr 10 _ rfl
      have e109 : wr.cell? ⟨b', off' + k * 17 + 10, none⟩ = _ := hr' 10 _ rfl
      have d119 : wr.cell? ⟨b, off + k * 17 + 11, none⟩ = _ := hr 11 _ rfl
      have e119 : wr.cell? ⟨b', off' + k * 17 + 11, none⟩ = _ := hr' 11 _ rfl
      have d129 : wr.cell? ⟨b, off + k * 17 + 12, none⟩ = _ := hr 12 _ rfl
      have e129 : wr.cell? ⟨b', off' + k * 17 + 12, none⟩ = _ := hr' 12 _ rfl
      have d139 : wr.cell? ⟨b, off + k * 17 + 13, none⟩ = _ := hr 13 _ rfl
      have e139 : wr.cell? ⟨b', off' + k * 17 + 13, none⟩ = _ := hr' 13 _ rfl
      have d149 : wr.cell? ⟨b, off + k * 17 + 14, none⟩ = _ := hr 14 _ rfl
      have e149 : wr.cell? ⟨b', off' + k * 17 + 14, none⟩ = _ := hr' 14 _ rfl
      have d159 : wr.cell? ⟨b, off + k * 17 + 15, none⟩ = _ := hr 15 _ rfl
      have e159 : wr.cell? ⟨b', off' + k * 17 + 15, none⟩ = _ := hr' 15 _ rfl
      have d169 : wr.cell? ⟨b, off + k * 17 + 16, none⟩ = _ := hr 16 _ rfl
      have e169 : wr.cell? ⟨b', off' + k * 17 + 16, none⟩ = _ := hr' 16 _ rfl
      have HK : Hid (Below w.heap.size w wr ∧ szT 17 (trs (xnT (f k))) ≤ 1048576 ∧ Rd wr 0 (.list 9 (f k).nq (fun i => trs (xlT ((f k).qf i)))) (.slice a1 ((f k).nq) c1) ∧ Rd wr 0 (intsT (f k).c.q.ws) (.slice a2 ((f k).c.q.ws.length) c2) ∧ Rd wr 0 (boolsT (f k).c.q.bs) (.slice a3 ((f k).c.q.bs.length) c3) ∧ Rd wr 0 (.list 9 (f k).nq (fun i => trs (xlT ((f k).qf i)))) (.slice a1' ((f k).nq) c1') ∧ Rd wr 0 (intsT (f k).c.q.ws) (.slice a2' ((f k).c.q.ws.length) c2') ∧ Rd wr 0 (boolsT (f k).c.q.bs) (.slice a3' ((f k).c.q.bs.length) c3')) := ⟨hbl, HZ.out k hlt, r1, r2, r3, r1', r2', r3'⟩
      clear r1 r2 r3 r1' r2' r3' hr hr' hbl
      go_wp2_with fail
      go_region_with (go_at_call 37; refine (eqLine_t (f k) a1 ((f k).nq) c1 a2 ((f k).c.q.ws.length) c2 a3 ((f k).c.q.bs.length) c3 a1' c1' a2' c2' a3' c3' _ (HK.out.2.2.1.below (by first | exact Below.refl _ _ | exact (Below.refl _ _).drew | exact (Below.refl _ _).drew.drew)) (HK.out.2.2.2.1.below (by first | exact Below.refl _ _ | exact (Below.refl _ _).drew | exact (Below.refl _ _).drew.drew)) (HK.out.2.2.2.2.1.below (by first | exact Below.refl _ _ | exact (Below.refl _ _).drew | exact (Below.refl _ _).drew.drew)) (HK.out.2.2.2.2.2.1.below (by first | exact Below.refl _ _ | exact (Below.refl _ _).drew | exact (Below.refl _ _).drew.drew)) (HK.out.2.2.2.2.2.2.1.below (by first | exact Below.refl _ _ | exact (Below.refl _ _).drew | exact (Below.refl _ _).drew.drew)) (HK.out.2.2.2.2.2.2.2.below (by first | exact Below.refl _ _ | exact (Below.refl _ _).drew | exact (Below.refl _ _).drew.drew)) HK.out.2.1).mono ?_; rintro e w1 ⟨rfl, b1'⟩; have b1 : Below wr.heap.size wr w1 := bel_nx (by first | exact Below.refl _ _ | exact (Below.refl _ _).drew | exact (Below.refl _ _).drew.drew) b1'; clear b1')
      all_goals (
        have B1 := bel_nx HK.out.1 b1
        clear HK b1 d09 e09 d19 e19 d29 e29 d39 e39 d49 e49 d59 e59 d69 e69 d79 e79 d89 e89 d99 e99 d109 e109 d119 e119 d129 e129 d139 e139 d149 e149 d159 e159 d169 e169
        go_wp2
        go_roundw
        case rel => exact ⟨k + 1, by omega, by go_num, B1⟩
        case measure => simp [intOf]; omega)
    · have hi : ¬ (k : Int) < (n' : Int) := by omega
      go_wp2
      go_ret
      exact ⟨rfl, hbl⟩
set_option maxRecDepth 20000 in
set_option maxHeartbeats 4000000 in
theorem eqFabric_t (X : VF) (a1 : Option Addr) (l1 c1 : Nat) (a2 : Option Addr) (l2 c2 : Nat) (a3 : Option Addr) (l3 c3 : Nat) (a1' : Option Addr) (c1' : Nat) (a2' : Option Addr) (c2' : Nat) (a3' : Option Addr) (c3' : Nat) (w : World) (r1 : Rd w 0 (.list 7 X.set.n (fun i => trs (xrT (X.set.f i)))) (.slice a1 l1 c1)) (r2 : Rd w 0 (.list 13 X.op.m (fun i => trs (dT (X.op.f i)))) (.slice a2 l2 c2)) (r3 : Rd w 0 (.list 17 X.nl (fun i => trs (xnT (X.lf i)))) (.slice a3 l3 c3)) (r1' : Rd w 0 (.list 7 X.set.n (fun i => trs (xrT (X.set.f i)))) (.slice a1' l1 c1')) (r2' : Rd w 0 (.list 13 X.op.m (fun i => trs (dT (X.op.f i)))) (.slice a2' l2 c2')) (r3' : Rd w 0 (.list 17 X.nl (fun i => trs (xnT (X.lf i)))) (.slice a3' l3 c3')) (hz : szT 11 (trs (xfT X)) ≤ 1048576) :
    Calls Try.prog 8 #[.agg (xfL X a1 l1 c1 a2 l2 c2 a3 l3 c3).toArray, .agg (xfL X a1' l1 c1' a2' l2 c2' a3' l3 c3').toArray] w fun e w' => e = .returned (.bool true) ∧ Below w.heap.size w w' := by
  obtain ⟨W, hW⟩ : ∃ W, W = (w.alloc (.cells (xfL X a1 l1 c1 a2 l2 c2 a3 l3 c3).toArray 34)).alloc (.cells (xfL X a1' l1 c1' a2' l2 c2' a3' l3 c3').toArray 34) := ⟨_, rfl⟩
  have HZ : Hid (szT 3 (trs (xcT X.set)) ≤ 1048576 ∧ szT 2 (trs (tT X.op)) ≤ 1048576 ∧ (Tr.list 17 X.nl (fun i => trs (xnT (X.lf i)))).sz ≤ 1048576) := by
    rw [szT_xf] at hz
    show szT 3 (trs (xcT X.set)) ≤ 1048576 ∧ szT 2 (trs (tT X.op)) ≤ 1048576 ∧ (Tr.list 17 X.nl (fun i => trs (xnT (X.lf i)))).sz ≤ 1048576
    try simp only [szT_q, szT_a, szT_p, szT_d, szT_t, szT_xr, szT_xc, szT_xl, szT_xn, szT_xf, true_and]
    omega
  have HR : Hid (Rd w 0 (.list 7 X.set.n (fun i => trs (xrT (X.set.f i)))) (.slice a1 l1 c1) ∧ Rd w 0 (.list 13 X.op.m (fun i => trs (dT (X.op.f i)))) (.slice a2 l2 c2) ∧ Rd w 0 (.list 17 X.nl (fun i => trs (xnT (X.lf i)))) (.slice a3 l3 c3) ∧ Rd w 0 (.list 7 X.set.n (fun i => trs (xrT (X.set.f i)))) (.slice a1' l1 c1') ∧ Rd w 0 (.list 13 X.op.m (fun i => trs (dT (X.op.f i)))) (.slice a2' l2 c2') ∧ Rd w 0 (.list 17 X.nl (fun i => trs (xnT (X.lf i)))) (.slice a3' l3 c3')) := ⟨r1, r2, r3, r1', r2', r3'⟩
  have G0 : Hid (Below w.heap.size w W ∧ Blk W w.heap.size 34 (xfL X a1 l1 c1 a2 l2 c2 a3 l3 c3).toArray ∧ Blk W (w.heap.size + 1) 34 (xfL X a1' l1 c1' a2' l2 c2' a3' l3 c3').toArray) := ⟨by rw [hW]; exact bel_nx (bel_alloc _ _) (bel_alloc _ _), by rw [hW]; exact (Blk.new w _ _).below (bel_alloc _ _), by rw [hW]; have := Blk.new (w.alloc (.cells (xfL X a1 l1 c1 a2 l2 c2 a3 l3 c3).toArray 34)) (xfL X a1' l1 c1' a2' l2 c2' a3' l3 c3').toArray 34; simpa using this⟩
  clear hz r1 r2 r3 r1' r2' r3'
  go_enter Try.func8, Try.ntmps8
  go_upto_region 1 with fail
  rw [← hW]
  clear hW
  obtain ⟨⟨y0, y1, y2, y3, y4, y5, y6, y7, y8, y9, y10⟩, yf⟩ := G0.out.2.1.tc11
  obtain ⟨⟨z0, z1, z2, z3, z4, z5, z6, z7, z8, z9, z10⟩, zf⟩ := G0.out.2.2.tc11
  clear yf zf
  go_wp2_with fail
  refine (eqConfig_t X.set a1 l1 c1 a1' c1' _ (HR.out.1.below G0.out.1) (HR.out.2.2.2.1.below G0.out.1) HZ.out.1).mono ?_
  rintro e w1 ⟨rfl, hb1⟩
  have G1 : Hid (Below w.heap.size w w1 ∧ Blk w1 w.heap.size 34 (xfL X a1 l1 c1 a2 l2 c2 a3 l3 c3).toArray ∧ Blk w1 (w.heap.size + 1) 34 (xfL X a1' l1 c1' a2' l2 c2' a3' l3 c3').toArray) := ⟨bel_nx G0.out.1 hb1, G0.out.2.1.below hb1, G0.out.2.2.below hb1⟩
  clear hb1 y0 y1 y2 y3 y4 y5 y6 y7 y8 y9 y10 z0 z1 z2 z3 z4 z5 z6 z7 z8 z9 z10
  obtain ⟨⟨y0, y1, y2, y3, y4, y5, y6, y7, y8, y9, y10⟩, yf⟩ := G1.out.2.1.tc11
  obtain ⟨⟨z0, z1, z2, z3, z4, z5, z6, z7, z8, z9, z10⟩, zf⟩ := G1.out.2.2.tc11
  clear yf zf
  go_wp2_with fail
  refine (eqTable_t X.op a2 l2 c2 a2' c2' _ (HR.out.2.1.below G1.out.1) (HR.out.2.2.2.2.1.below G1.out.1) HZ.out.2.1).mono ?_
  rintro e w2 ⟨rfl, hb2⟩
  have G2 : Hid (Below w.heap.size w w2 ∧ Blk w2 w.heap.size 34 (xfL X a1 l1 c1 a2 l2 c2 a3 l3 c3).toArray ∧ Blk w2 (w.heap.size + 1) 34 (xfL X a1' l1 c1' a2' l2 c2' a3' l3 c3').toArray) := ⟨bel_nx G1.out.1 hb2, G1.out.2.1.below hb2, G1.out.2.2.below hb2⟩
  clear hb2 y0 y1 y2 y3 y4 y5 y6 y7 y8 y9 y10 z0 z1 z2 z3 z4 z5 z6 z7 z8 z9 z10
  obtain ⟨⟨y0, y1, y2, y3, y4, y5, y6, y7, y8, y9, y10⟩, yf⟩ := G2.out.2.1.tc11
  obtain ⟨⟨z0, z1, z2, z3, z4, z5, z6, z7, z8, z9, z10⟩, zf⟩ := G2.out.2.2.tc11
  clear yf zf
  go_wp2_with fail
  refine (eqLineS_t X.nl X.lf a3 l3 c3 a3' c3' _ (HR.out.2.2.1.below G2.out.1) (HR.out.2.2.2.2.2.below G2.out.1) HZ.out.2.2).mono ?_
  rintro e w3 ⟨rfl, hb3⟩
  have G3 : Hid (Below w.heap.size w w3 ∧ Blk w3 w.heap.size 34 (xfL X a1 l1 c1 a2 l2 c2 a3 l3 c3).toArray ∧ Blk w3 (w.heap.size + 1) 34 (xfL X a1' l1 c1' a2' l2 c2' a3' l3 c3').toArray) := ⟨bel_nx G2.out.1 hb3, G2.out.2.1.below hb3, G2.out.2.2.below hb3⟩
  clear hb3 y0 y1 y2 y3 y4 y5 y6 y7 y8 y9 y10 z0 z1 z2 z3 z4 z5 z6 z7 z8 z9 z10
  obtain ⟨⟨y0, y1, y2, y3, y4, y5, y6, y7, y8, y9, y10⟩, yf⟩ := G3.out.2.1.tc11
  obtain ⟨⟨z0, z1, z2, z3, z4, z5, z6, z7, z8, z9, z10⟩, zf⟩ := G3.out.2.2.tc11
  clear yf zf
  go_wp2
  go_ret
  exact ⟨rfl, G3.out.1⟩
end Go.Proofs.Ytccffbbboodolaa
