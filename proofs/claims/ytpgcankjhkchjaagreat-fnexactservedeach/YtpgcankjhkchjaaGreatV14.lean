/- Texts that the proof needs, joined: Sv4. -/
import Derived.Test.YtpgcankjhkchjaaGreatV12
namespace Go.Proofs.YtpgcankjhkchjaaGreat
open Go.RowKit Go.Joins
set_option linter.unusedVariables false
set_option linter.unusedSimpArgs false
set_option maxRecDepth 20000 in
set_option maxHeartbeats 8000000 in
theorem l16Served_any (X : VW) (P : VP) (A : VA) (a1 : Option Addr) (c1 : Nat) (a2 : Option Addr) (c2 : Nat) (a3 : Option Addr) (c3 : Nat) (a4 : Option Addr) (c4 : Nat) (a5 : Option Addr) (c5 : Nat) (a6 : Option Addr) (c6 : Nat) (a7 : Option Addr) (c7 : Nat) (b1 : Option Addr) (d1 : Nat) (b2 : Option Addr) (d2 : Nat) (s1 : Option Addr) (t1 : Nat) (s2 : Option Addr) (t2 : Nat) (w : World) (h : Rd w 0 (.list 15 X.ne (fun i => trs (xeT (X.ef i)))) (.slice a7 X.ne c7)) (hP : Rd w 0 (intsT P.q.ws) (.slice b1 P.q.ws.length d1) ∧ Rd w 0 (boolsT P.q.bs) (.slice b2 P.q.bs.length d2) ∧ Rd w 0 (intsT A.ws) (.slice s1 A.ws.length t1) ∧ Rd w 0 (boolsT A.bs) (.slice s2 A.bs.length t2)) (hX : BdW X) (hb : BdQ P.q ∧ BdA A) (x : Bool) (hx : wsB X P A = x) :
    Calls Tryz.prog 77 #[.agg (xwL X a1 X.fb.set.n c1 a2 X.fb.op.m c2 a3 X.fb.nl c3 a4 X.ns c4 a5 X.nk c5 a6 X.nr c6 a7 X.ne c7).toArray, .agg (pL P b1 P.q.ws.length d1 b2 P.q.bs.length d2).toArray, .agg (aL A s1 A.ws.length t1 s2 A.bs.length t2).toArray] w fun e w' => e = .returned (.bool x) ∧ Below w.heap.size w w' := by
  obtain ⟨W1, hW1⟩ : ∃ W, W = w.alloc (.cells (xwL X a1 X.fb.set.n c1 a2 X.fb.op.m c2 a3 X.fb.nl c3 a4 X.ns c4 a5 X.nk c5 a6 X.nr c6 a7 X.ne c7).toArray 67) := ⟨_, rfl⟩
  obtain ⟨W2, hW2⟩ : ∃ W, W = W1.alloc (.cells (pL P b1 P.q.ws.length d1 b2 P.q.bs.length d2).toArray 134) := ⟨_, rfl⟩
  obtain ⟨W, hW⟩ : ∃ W, W = W2.alloc (.cells (aL A s1 A.ws.length t1 s2 A.bs.length t2).toArray 117) := ⟨_, rfl⟩
  obtain ⟨G0, hG0⟩ : ∃ G, G = w.heap.size := ⟨_, rfl⟩
  obtain ⟨GP, hGP⟩ : ∃ G, G = W1.heap.size := ⟨_, rfl⟩
  obtain ⟨GA, hGA⟩ : ∃ G, G = W2.heap.size := ⟨_, rfl⟩
  have e1 : GP = G0 + 1 := by rw [hGP, hG0, hW1]; simp
  have e2 : GA = G0 + 1 + 1 := by rw [hGA, hG0, hW2, hW1]; simp
  have bW1 : Below w.heap.size w W1 := by rw [hW1]; exact bel_alloc _ _
  have bW2 : Below W1.heap.size W1 W2 := by rw [hW2]; exact bel_alloc _ _
  have bW3 : Below W2.heap.size W2 W := by rw [hW]; exact bel_alloc _ _
  have k0 : Blk W1 G0 67 (xwL X a1 X.fb.set.n c1 a2 X.fb.op.m c2 a3 X.fb.nl c3 a4 X.ns c4 a5 X.nk c5 a6 X.nr c6 a7 X.ne c7).toArray := by rw [hW1, hG0]; exact Blk.new _ _ _
  have kP : Blk W2 GP 134 (pL P b1 P.q.ws.length d1 b2 P.q.bs.length d2).toArray := by rw [hW2, hGP]; exact Blk.new _ _ _
  have kA : Blk W GA 117 (aL A s1 A.ws.length t1 s2 A.bs.length t2).toArray := by rw [hW, hGA]; exact Blk.new _ _ _
  have bW : Below w.heap.size w W := bel_nx (bel_nx bW1 bW2) bW3
  have HE : Hid (Blk W G0 67 (xwL X a1 X.fb.set.n c1 a2 X.fb.op.m c2 a3 X.fb.nl c3 a4 X.ns c4 a5 X.nk c5 a6 X.nr c6 a7 X.ne c7).toArray ∧ Blk W GP 134 (pL P b1 P.q.ws.length d1 b2 P.q.bs.length d2).toArray ∧ Blk W GA 117 (aL A s1 A.ws.length t1 s2 A.bs.length t2).toArray ∧ Below w.heap.size w W ∧ Rd w 0 (.list 15 X.ne (fun i => trs (xeT (X.ef i)))) (.slice a7 X.ne c7) ∧ (Rd w 0 (intsT P.q.ws) (.slice b1 P.q.ws.length d1) ∧ Rd w 0 (boolsT P.q.bs) (.slice b2 P.q.bs.length d2) ∧ Rd w 0 (intsT A.ws) (.slice s1 A.ws.length t1) ∧ Rd w 0 (boolsT A.bs) (.slice s2 A.bs.length t2)) ∧ BdW X ∧ (BdQ P.q ∧ BdA A)) := ⟨(k0.below bW2).below bW3, kP.below bW3, kA, bW, h, hP, hX, hb⟩
  have hne : X.ne ≤ 2000000 := hX.2.1.1
  obtain ⟨y, hy⟩ : ∃ y, allN (fun k => !isE (X.ef k) P A) X.ne = y := ⟨_, rfl⟩
  have HY : Hid (wsB X P A = x ∧ allN (fun k => !isE (X.ef k) P A) X.ne = y) := ⟨hx, hy⟩
  have z1 : W.cell? ⟨GA, 1, none⟩ = some (.int .i64 A.fl) := kA.cell 1 rfl
  have hWW : W = ((w.alloc (.cells (xwL X a1 X.fb.set.n c1 a2 X.fb.op.m c2 a3 X.fb.nl c3 a4 X.ns c4 a5 X.nk c5 a6 X.nr c6 a7 X.ne c7).toArray 67)).alloc (.cells (pL P b1 P.q.ws.length d1 b2 P.q.bs.length d2).toArray 134)).alloc (.cells (aL A s1 A.ws.length t1 s2 A.bs.length t2).toArray 117) := by rw [hW, hW2, hW1]
  clear bW1 bW2 bW3 bW k0 kP kA h hP hX hb hx hy hW hW2 hW1 hGP hGA
  by_cases e11 : A.fl = 11
  · have h11 : (A.fl == 11) = true := by simp [e11]
    have HF : Hid (x = true) := by show x = true; rw [← HY.out.1]; unfold wsB; rw [h11]; rfl
    clear e11
    go_enter Tryz.func77, Tryz.ntmps77
    go_upto_region 1 with fail
    rw [← hWW, ← hG0, ← e2, ← e1]
    clear hWW hG0 e1 e2
    try go_simp
    go_wp2
    go_ret
    exact ⟨by rw [HF.out]; rfl, HE.out.2.2.2.1⟩
  · have h11 : (A.fl == 11) = false := by simp [e11]
    have HF : Hid (x = !y) := by show x = !y; rw [← HY.out.1, ← HY.out.2]; unfold wsB; rw [h11]; rfl
    clear e11
    go_enter Tryz.func77, Tryz.ntmps77
    go_upto_region 1 with fail
    rw [← hWW, ← hG0, ← e2, ← e1]
    clear hWW hG0 e1 e2
    try go_simp
    go_wp2
    clear z1
    go_loopw [7] (fun i wr => ∃ k : Nat, k ≤ X.ne ∧ i = .int .i64 k ∧ allN (fun k => !isE (X.ef k) P A) k = true ∧ Below W.heap.size W wr) (fun i _ => X.ne - (intOf i).toNat)
    case atStart => exact ⟨0, Nat.zero_le _, rfl, rfl, Below.refl _ _⟩
    case round =>
      obtain ⟨k, hk, rfl, hall, hbl⟩ := hrel
      have y14 : wr.cell? ⟨G0, 14, none⟩ = some (.slice a7 X.ne c7) := (HE.out.1.below hbl).cell 14 rfl
      by_cases hlt : k < X.ne
      · have hi : (k : Int) < (X.ne : Int) := by omega
        have bwr := bel_nx HE.out.2.2.2.1 hbl
        obtain ⟨b, off, vs, rfl, _, hb0, hlen, hr, hrd⟩ := (HE.out.2.2.2.2.1.below bwr).at hlt
        obtain ⟨e1, k1, e2, k2, e3, k3, e4, k4, rfl, q1, q2, q3, q4⟩ := VE.cells hrd hlen
        clear hlen hrd
        have dd0 : wr.cell? ⟨b, off + k * 15, none⟩ = _ := hr 0 _ rfl
        have dd1 : wr.cell? ⟨b, off + k * 15 + 1, none⟩ = _ := hr 1 _ rfl
        have dd2 : wr.cell? ⟨b, off + k * 15 + 2, none⟩ = _ := hr 2 _ rfl
        have dd3 : wr.cell? ⟨b, off + k * 15 + 3, none⟩ = _ := hr 3 _ rfl
        have dd4 : wr.cell? ⟨b, off + k * 15 + 4, none⟩ = _ := hr 4 _ rfl
        have dd5 : wr.cell? ⟨b, off + k * 15 + 5, none⟩ = _ := hr 5 _ rfl
        have dd6 : wr.cell? ⟨b, off + k * 15 + 6, none⟩ = _ := hr 6 _ rfl
        have dd7 : wr.cell? ⟨b, off + k * 15 + 7, none⟩ = _ := hr 7 _ rfl
        have dd8 : wr.cell? ⟨b, off + k * 15 + 8, none⟩ = _ := hr 8 _ rfl
        have dd9 : wr.cell? ⟨b, off + k * 15 + 9, none⟩ = _ := hr 9 _ rfl
        have dd10 : wr.cell? ⟨b, off + k * 15 + 10, none⟩ = _ := hr 10 _ rfl
        have dd11 : wr.cell? ⟨b, off + k * 15 + 11, none⟩ = _ := hr 11 _ rfl
        have dd12 : wr.cell? ⟨b, off + k * 15 + 12, none⟩ = _ := hr 12 _ rfl
        have dd13 : wr.cell? ⟨b, off + k * 15 + 13, none⟩ = _ := hr 13 _ rfl
        have dd14 : wr.cell? ⟨b, off + k * 15 + 14, none⟩ = _ := hr 14 _ rfl
        obtain ⟨W5, hW5⟩ : ∃ W, W = wr.alloc (.cells (xeL (X.ef k) e1 (X.ef k).q.ws.length k1 e2 (X.ef k).q.bs.length k2 e3 (X.ef k).a.ws.length k3 e4 (X.ef k).a.bs.length k4).toArray 194) := ⟨_, rfl⟩
        obtain ⟨G5, hG5⟩ : ∃ G, G = wr.heap.size := ⟨_, rfl⟩
        have b5 : Below wr.heap.size wr W5 := by rw [hW5]; exact bel_alloc _ _
        have k5 : Blk W5 G5 194 (xeL (X.ef k) e1 (X.ef k).q.ws.length k1 e2 (X.ef k).q.bs.length k2 e3 (X.ef k).a.ws.length k3 e4 (X.ef k).a.bs.length k4).toArray := by rw [hW5, hG5]; exact Blk.new _ _ _
        obtain ⟨x0, h0⟩ : ∃ t, ((X.ef k).po == P.p) = t := ⟨_, rfl⟩
        obtain ⟨x1, h1⟩ : ∃ t, ((X.ef k).un == P.t) = t := ⟨_, rfl⟩
        obtain ⟨x2, h2⟩ : ∃ t, sqB (X.ef k).q P.q = t := ⟨_, rfl⟩
        obtain ⟨x3, h3⟩ : ∃ t, saA (X.ef k).a A = t := ⟨_, rfl⟩
        have b05 := bel_nx bwr b5
        have HK : Hid (allN (fun k => !isE (X.ef k) P A) k = true ∧ Below W.heap.size W W5 ∧ isE (X.ef k) P A = (x0 && (x1 && (x2 && x3))) ∧ sqB (X.ef k).q P.q = x2 ∧ saA (X.ef k).a A = x3 ∧ Below w.heap.size w W5 ∧ (Rd W5 0 (intsT (X.ef k).q.ws) (.slice e1 (X.ef k).q.ws.length k1) ∧ Rd W5 0 (boolsT (X.ef k).q.bs) (.slice e2 (X.ef k).q.bs.length k2) ∧ Rd W5 0 (intsT (X.ef k).a.ws) (.slice e3 (X.ef k).a.ws.length k3) ∧ Rd W5 0 (boolsT (X.ef k).a.bs) (.slice e4 (X.ef k).a.bs.length k4)) ∧ BdE (X.ef k) ∧ Blk W5 G5 194 (xeL (X.ef k) e1 (X.ef k).q.ws.length k1 e2 (X.ef k).q.bs.length k2 e3 (X.ef k).a.ws.length k3 e4 (X.ef k).a.bs.length k4).toArray) := ⟨hall, bel_nx hbl b5, by unfold isE; rw [h0, h1, h2, h3], h2, h3, b05, ⟨q1.below b5, q2.below b5, q3.below b5, q4.below b5⟩, HE.out.2.2.2.2.2.2.1.2.1.2 k hlt, k5⟩
        clear hall hbl bwr hb0 hr q1 q2 q3 q4 b5 b05 h2 h3 k5
        go_upto_region 7 with fail
        rw [← hW5, ← hG5]
        clear hW5 hG5 y14 dd0 dd1 dd2 dd3 dd4 dd5 dd6 dd7 dd8 dd9 dd10 dd11 dd12 dd13 dd14
        have f0 : W5.cell? ⟨G5, 0, none⟩ = some (.int .i64 (X.ef k).po) := HK.out.2.2.2.2.2.2.2.2.cell 0 rfl
        have f1 : W5.cell? ⟨G5, 1, none⟩ = some (.int .i64 (X.ef k).nu) := HK.out.2.2.2.2.2.2.2.2.cell 1 rfl
        have f2 : W5.cell? ⟨G5, 2, none⟩ = some (.int .i64 (X.ef k).un) := HK.out.2.2.2.2.2.2.2.2.cell 2 rfl
        have f3 : W5.cell? ⟨G5, 3, none⟩ = some (.int .i64 (X.ef k).q.kd) := HK.out.2.2.2.2.2.2.2.2.cell 3 rfl
        have f4 : W5.cell? ⟨G5, 4, none⟩ = some (.int .i64 (X.ef k).q.pl) := HK.out.2.2.2.2.2.2.2.2.cell 4 rfl
        have f5 : W5.cell? ⟨G5, 5, none⟩ = some (.int .i64 (X.ef k).q.n) := HK.out.2.2.2.2.2.2.2.2.cell 5 rfl
        have f6 : W5.cell? ⟨G5, 6, none⟩ = some (.slice e1 ((X.ef k).q.ws.length) k1) := HK.out.2.2.2.2.2.2.2.2.cell 6 rfl
        have f7 : W5.cell? ⟨G5, 7, none⟩ = some (.slice e2 ((X.ef k).q.bs.length) k2) := HK.out.2.2.2.2.2.2.2.2.cell 7 rfl
        have f8 : W5.cell? ⟨G5, 8, none⟩ = some (.int .i64 (X.ef k).q.wa) := HK.out.2.2.2.2.2.2.2.2.cell 8 rfl
        have f9 : W5.cell? ⟨G5, 9, none⟩ = some (.int .i64 (X.ef k).a.kd) := HK.out.2.2.2.2.2.2.2.2.cell 9 rfl
        have f10 : W5.cell? ⟨G5, 10, none⟩ = some (.int .i64 (X.ef k).a.fl) := HK.out.2.2.2.2.2.2.2.2.cell 10 rfl
        have f11 : W5.cell? ⟨G5, 11, none⟩ = some (.int .i64 (X.ef k).a.pl) := HK.out.2.2.2.2.2.2.2.2.cell 11 rfl
        have f12 : W5.cell? ⟨G5, 12, none⟩ = some (.int .i64 (X.ef k).a.n) := HK.out.2.2.2.2.2.2.2.2.cell 12 rfl
        have f13 : W5.cell? ⟨G5, 13, none⟩ = some (.slice e3 ((X.ef k).a.ws.length) k3) := HK.out.2.2.2.2.2.2.2.2.cell 13 rfl
        have f14 : W5.cell? ⟨G5, 14, none⟩ = some (.slice e4 ((X.ef k).a.bs.length) k4) := HK.out.2.2.2.2.2.2.2.2.cell 14 rfl
        have p0 : W5.cell? ⟨GP, 0, none⟩ = some (.int .i64 P.p) := (HE.out.2.1.below HK.out.2.1).cell 0 rfl
        have p1 : W5.cell? ⟨GP, 1, none⟩ = some (.int .i64 P.t) := (HE.out.2.1.below HK.out.2.1).cell 1 rfl
        have p2 : W5.cell? ⟨GP, 2, none⟩ = some (.int .i64 P.q.kd) := (HE.out.2.1.below HK.out.2.1).cell 2 rfl
        have p3 : W5.cell? ⟨GP, 3, none⟩ = some (.int .i64 P.q.pl) := (HE.out.2.1.below HK.out.2.1).cell 3 rfl
        have p4 : W5.cell? ⟨GP, 4, none⟩ = some (.int .i64 P.q.n) := (HE.out.2.1.below HK.out.2.1).cell 4 rfl
        have p5 : W5.cell? ⟨GP, 5, none⟩ = some (.slice b1 P.q.ws.length d1) := (HE.out.2.1.below HK.out.2.1).cell 5 rfl
        have p6 : W5.cell? ⟨GP, 6, none⟩ = some (.slice b2 P.q.bs.length d2) := (HE.out.2.1.below HK.out.2.1).cell 6 rfl
        have p7 : W5.cell? ⟨GP, 7, none⟩ = some (.int .i64 P.q.wa) := (HE.out.2.1.below HK.out.2.1).cell 7 rfl
        try go_simp
        cases x0 with
        | false =>
          have H9 : Hid (allN (fun k => !isE (X.ef k) P A) (k + 1) = true ∧ Below W.heap.size W W5) := ⟨allN_succ HK.out.1 (by rw [HK.out.2.2.1]; rfl), HK.out.2.1⟩
          go_wp2
          go_roundw
          case rel => exact ⟨k + 1, by omega, by go_num, H9.out⟩
          case measure => simp [intOf]; omega
        | true =>
        cases x1 with
        | false =>
          have H9 : Hid (allN (fun k => !isE (X.ef k) P A) (k + 1) = true ∧ Below W.heap.size W W5) := ⟨allN_succ HK.out.1 (by rw [HK.out.2.2.1]; rfl), HK.out.2.1⟩
          go_wp2
          go_roundw
          case rel => exact ⟨k + 1, by omega, by go_num, H9.out⟩
          case measure => simp [intOf]; omega
        | true =>
        go_wp2_with fail
        refine (l14SameReq_any (X.ef k).q P.q e1 k1 e2 k2 b1 d1 b2 d2 _ HK.out.2.2.2.2.2.2.1.1 HK.out.2.2.2.2.2.2.1.2.1 (HE.out.2.2.2.2.2.1.1.below HK.out.2.2.2.2.2.1) (HE.out.2.2.2.2.2.1.2.1.below HK.out.2.2.2.2.2.1) HK.out.2.2.2.2.2.2.2.1.1.1 HK.out.2.2.2.2.2.2.2.1.1.2 HE.out.2.2.2.2.2.2.2.1.1 HE.out.2.2.2.2.2.2.2.1.2).mono ?_
        rintro e w6 ⟨rfl, b6⟩
        rw [HK.out.2.2.2.1]
        have H6 : Hid (Below W5.heap.size W5 w6) := b6
        clear b6 f0 f1 f2 f3 f4 f5 f6 f7 f8 f9 f10 f11 f12 f13 f14 p0 p1 p2 p3 p4 p5 p6 p7
        have f0 : w6.cell? ⟨G5, 0, none⟩ = some (.int .i64 (X.ef k).po) := (HK.out.2.2.2.2.2.2.2.2.below H6.out).cell 0 rfl
        have f1 : w6.cell? ⟨G5, 1, none⟩ = some (.int .i64 (X.ef k).nu) := (HK.out.2.2.2.2.2.2.2.2.below H6.out).cell 1 rfl
        have f2 : w6.cell? ⟨G5, 2, none⟩ = some (.int .i64 (X.ef k).un) := (HK.out.2.2.2.2.2.2.2.2.below H6.out).cell 2 rfl
        have f3 : w6.cell? ⟨G5, 3, none⟩ = some (.int .i64 (X.ef k).q.kd) := (HK.out.2.2.2.2.2.2.2.2.below H6.out).cell 3 rfl
        have f4 : w6.cell? ⟨G5, 4, none⟩ = some (.int .i64 (X.ef k).q.pl) := (HK.out.2.2.2.2.2.2.2.2.below H6.out).cell 4 rfl
        have f5 : w6.cell? ⟨G5, 5, none⟩ = some (.int .i64 (X.ef k).q.n) := (HK.out.2.2.2.2.2.2.2.2.below H6.out).cell 5 rfl
        have f6 : w6.cell? ⟨G5, 6, none⟩ = some (.slice e1 ((X.ef k).q.ws.length) k1) := (HK.out.2.2.2.2.2.2.2.2.below H6.out).cell 6 rfl
        have f7 : w6.cell? ⟨G5, 7, none⟩ = some (.slice e2 ((X.ef k).q.bs.length) k2) := (HK.out.2.2.2.2.2.2.2.2.below H6.out).cell 7 rfl
        have f8 : w6.cell? ⟨G5, 8, none⟩ = some (.int .i64 (X.ef k).q.wa) := (HK.out.2.2.2.2.2.2.2.2.below H6.out).cell 8 rfl
        have f9 : w6.cell? ⟨G5, 9, none⟩ = some (.int .i64 (X.ef k).a.kd) := (HK.out.2.2.2.2.2.2.2.2.below H6.out).cell 9 rfl
        have f10 : w6.cell? ⟨G5, 10, none⟩ = some (.int .i64 (X.ef k).a.fl) := (HK.out.2.2.2.2.2.2.2.2.below H6.out).cell 10 rfl
        have f11 : w6.cell? ⟨G5, 11, none⟩ = some (.int .i64 (X.ef k).a.pl) := (HK.out.2.2.2.2.2.2.2.2.below H6.out).cell 11 rfl
        have f12 : w6.cell? ⟨G5, 12, none⟩ = some (.int .i64 (X.ef k).a.n) := (HK.out.2.2.2.2.2.2.2.2.below H6.out).cell 12 rfl
        have f13 : w6.cell? ⟨G5, 13, none⟩ = some (.slice e3 ((X.ef k).a.ws.length) k3) := (HK.out.2.2.2.2.2.2.2.2.below H6.out).cell 13 rfl
        have f14 : w6.cell? ⟨G5, 14, none⟩ = some (.slice e4 ((X.ef k).a.bs.length) k4) := (HK.out.2.2.2.2.2.2.2.2.below H6.out).cell 14 rfl
        have p0 : w6.cell? ⟨GP, 0, none⟩ = some (.int .i64 P.p) := ((HE.out.2.1.below HK.out.2.1).below H6.out).cell 0 rfl
        have p1 : w6.cell? ⟨GP, 1, none⟩ = some (.int .i64 P.t) := ((HE.out.2.1.below HK.out.2.1).below H6.out).cell 1 rfl
        have p2 : w6.cell? ⟨GP, 2, none⟩ = some (.int .i64 P.q.kd) := ((HE.out.2.1.below HK.out.2.1).below H6.out).cell 2 rfl
        have p3 : w6.cell? ⟨GP, 3, none⟩ = some (.int .i64 P.q.pl) := ((HE.out.2.1.below HK.out.2.1).below H6.out).cell 3 rfl
        have p4 : w6.cell? ⟨GP, 4, none⟩ = some (.int .i64 P.q.n) := ((HE.out.2.1.below HK.out.2.1).below H6.out).cell 4 rfl
        have p5 : w6.cell? ⟨GP, 5, none⟩ = some (.slice b1 P.q.ws.length d1) := ((HE.out.2.1.below HK.out.2.1).below H6.out).cell 5 rfl
        have p6 : w6.cell? ⟨GP, 6, none⟩ = some (.slice b2 P.q.bs.length d2) := ((HE.out.2.1.below HK.out.2.1).below H6.out).cell 6 rfl
        have p7 : w6.cell? ⟨GP, 7, none⟩ = some (.int .i64 P.q.wa) := ((HE.out.2.1.below HK.out.2.1).below H6.out).cell 7 rfl
        have g0 : w6.cell? ⟨GA, 0, none⟩ = some (.int .i64 A.kd) := ((HE.out.2.2.1.below HK.out.2.1).below H6.out).cell 0 rfl
        have g1 : w6.cell? ⟨GA, 1, none⟩ = some (.int .i64 A.fl) := ((HE.out.2.2.1.below HK.out.2.1).below H6.out).cell 1 rfl
        have g2 : w6.cell? ⟨GA, 2, none⟩ = some (.int .i64 A.pl) := ((HE.out.2.2.1.below HK.out.2.1).below H6.out).cell 2 rfl
        have g3 : w6.cell? ⟨GA, 3, none⟩ = some (.int .i64 A.n) := ((HE.out.2.2.1.below HK.out.2.1).below H6.out).cell 3 rfl
        have g4 : w6.cell? ⟨GA, 4, none⟩ = some (.slice s1 A.ws.length t1) := ((HE.out.2.2.1.below HK.out.2.1).below H6.out).cell 4 rfl
        have g5 : w6.cell? ⟨GA, 5, none⟩ = some (.slice s2 A.bs.length t2) := ((HE.out.2.2.1.below HK.out.2.1).below H6.out).cell 5 rfl
        cases x2 with
        | false =>
          have H9 : Hid (allN (fun k => !isE (X.ef k) P A) (k + 1) = true ∧ Below W.heap.size W w6) := ⟨allN_succ HK.out.1 (by rw [HK.out.2.2.1]; rfl), bel_nx HK.out.2.1 H6.out⟩
          go_wp2
          go_roundw
          case rel => exact ⟨k + 1, by omega, by go_num, H9.out⟩
          case measure => simp [intOf]; omega
        | true =>
        go_wp2_with fail
        refine (l16SameResp_any (X.ef k).a A e3 k3 e4 k4 s1 t1 s2 t2 _ (HK.out.2.2.2.2.2.2.1.2.2.1.below H6.out) (HK.out.2.2.2.2.2.2.1.2.2.2.below H6.out) ((HE.out.2.2.2.2.2.1.2.2.1.below HK.out.2.2.2.2.2.1).below H6.out) ((HE.out.2.2.2.2.2.1.2.2.2.below HK.out.2.2.2.2.2.1).below H6.out) HK.out.2.2.2.2.2.2.2.1.2.1 HK.out.2.2.2.2.2.2.2.1.2.2 HE.out.2.2.2.2.2.2.2.2.1 HE.out.2.2.2.2.2.2.2.2.2).mono ?_
        rintro e w7 ⟨rfl, b7⟩
        rw [HK.out.2.2.2.2.1]
        have H7 : Hid (Below W.heap.size W w7) := bel_nx (bel_nx HK.out.2.1 H6.out) b7
        clear b7 f0 f1 f2 f3 f4 f5 f6 f7 f8 f9 f10 f11 f12 f13 f14 p0 p1 p2 p3 p4 p5 p6 p7 g0 g1 g2 g3 g4 g5
        cases x3 with
        | false =>
          have H9 : Hid (allN (fun k => !isE (X.ef k) P A) (k + 1) = true) := allN_succ HK.out.1 (by rw [HK.out.2.2.1]; rfl)
          go_wp2
          go_roundw
          case rel => exact ⟨k + 1, by omega, by go_num, H9.out, H7.out⟩
          case measure => simp [intOf]; omega
        | true =>
          have H9 : Hid (x = true) := by show x = true; rw [HF.out, ← HY.out.2, allN_no hlt (by rw [HK.out.2.2.1]; rfl)]; rfl
          go_wp2
          go_ret
          exact ⟨by rw [H9.out]; rfl, bel_nx HE.out.2.2.2.1 H7.out⟩
      · have hi : ¬ (k : Int) < (X.ne : Int) := by omega
        have e9 : k = X.ne := by omega
        have H9 : Hid (x = false ∧ Below W.heap.size W wr) := ⟨by rw [HF.out, ← HY.out.2, ← e9, hall]; rfl, hbl⟩
        clear hall hbl e9
        go_wp2
        go_ret
        exact ⟨by rw [H9.out.1]; rfl, bel_nx HE.out.2.2.2.1 H9.out.2⟩
set_option maxRecDepth 20000 in
set_option maxHeartbeats 8000000 in
theorem specServedEach_any (X : VW) (a1 : Option Addr) (c1 : Nat) (a2 : Option Addr) (c2 : Nat) (a3 : Option Addr) (c3 : Nat) (a4 : Option Addr) (c4 : Nat) (a5 : Option Addr) (c5 : Nat) (a6 : Option Addr) (c6 : Nat) (a7 : Option Addr) (c7 : Nat) (w : World) (h : Rd w 0 (.list 7 X.fb.set.n (fun i => trs (xrT (X.fb.set.f i)))) (.slice a1 X.fb.set.n c1) ∧ Rd w 0 (.list 13 X.fb.op.m (fun i => trs (dT (X.fb.op.f i)))) (.slice a2 X.fb.op.m c2) ∧ Rd w 0 (.list 17 X.fb.nl (fun i => trs (xnT (X.fb.lf i)))) (.slice a3 X.fb.nl c3) ∧ Rd w 0 (.list 6 X.ns (fun i => trs (xsT (X.sf i)))) (.slice a4 X.ns c4) ∧ Rd w 0 (.list 16 X.nk (fun i => trs (xkT (X.kf i)))) (.slice a5 X.nk c5) ∧ Rd w 0 (.list 16 X.nr (fun i => trs (xyT (X.rf i)))) (.slice a6 X.nr c6) ∧ Rd w 0 (.list 15 X.ne (fun i => trs (xeT (X.ef i)))) (.slice a7 X.ne c7)) (hX : BdW X) :
    Calls Tryz.prog 28 #[.agg (xwL X a1 X.fb.set.n c1 a2 X.fb.op.m c2 a3 X.fb.nl c3 a4 X.ns c4 a5 X.nk c5 a6 X.nr c6 a7 X.ne c7).toArray] w fun e w' => e = .returned (.bool (seB X)) ∧ Below w.heap.size w w' := by
  obtain ⟨x0, hx0⟩ : ∃ x, allN (fun i => rpB X (X.rf i)) X.nr = x := ⟨_, rfl⟩
  obtain ⟨x1, hx1⟩ : ∃ x, allN (fun i => pdB X (X.fb.op.f i)) X.fb.op.m = x := ⟨_, rfl⟩
  have hs : seB X = (x0 && x1) := by unfold seB; rw [hx0, hx1]
  rw [hs]
  obtain ⟨W, hW⟩ : ∃ W, W = w.alloc (.cells (xwL X a1 X.fb.set.n c1 a2 X.fb.op.m c2 a3 X.fb.nl c3 a4 X.ns c4 a5 X.nk c5 a6 X.nr c6 a7 X.ne c7).toArray 67) := ⟨_, rfl⟩
  obtain ⟨G, hG⟩ : ∃ G, G = w.heap.size := ⟨_, rfl⟩
  have bW : Below w.heap.size w W := by rw [hW]; exact bel_alloc _ _
  have kW : Blk W G 67 (xwL X a1 X.fb.set.n c1 a2 X.fb.op.m c2 a3 X.fb.nl c3 a4 X.ns c4 a5 X.nk c5 a6 X.nr c6 a7 X.ne c7).toArray := by rw [hW, hG]; exact Blk.new _ _ _
  have HE : Hid (Blk W G 67 (xwL X a1 X.fb.set.n c1 a2 X.fb.op.m c2 a3 X.fb.nl c3 a4 X.ns c4 a5 X.nk c5 a6 X.nr c6 a7 X.ne c7).toArray ∧ Below w.heap.size w W ∧ BdW X ∧ Rd W 0 (.list 16 X.nr (fun i => trs (xyT (X.rf i)))) (.slice a6 X.nr c6) ∧ Rd W 0 (.list 13 X.fb.op.m (fun i => trs (dT (X.fb.op.f i)))) (.slice a2 X.fb.op.m c2) ∧ Rd W 0 (.list 15 X.ne (fun i => trs (xeT (X.ef i)))) (.slice a7 X.ne c7) ∧ True) := ⟨kW, bW, hX, h.2.2.2.2.2.1.below bW, h.2.1.below bW, h.2.2.2.2.2.2.below bW, trivial⟩
  have HX : Hid (allN (fun i => rpB X (X.rf i)) X.nr = x0 ∧ allN (fun i => pdB X (X.fb.op.f i)) X.fb.op.m = x1) := ⟨hx0, hx1⟩
  have hnr : X.nr ≤ 2000000 := hX.1.1
  have hnm : X.fb.op.m ≤ 2000000 := hX.2.2.1
  clear hx0 hx1 hs bW kW h hX
  go_enter Tryz.func28, Tryz.ntmps28
  go_upto_region 1 with fail
  rw [← hW, ← hG]
  clear hW hG
  try go_simp
  go_wp2
  go_loopw [3] (fun i wr => ∃ ii : Nat, ii ≤ X.nr ∧ i = .int .i64 ii ∧ allN (fun i => rpB X (X.rf i)) ii = true ∧ Below W.heap.size W wr) (fun i _ => X.nr - (intOf i).toNat)
  case atStart => exact ⟨0, Nat.zero_le _, rfl, rfl, Below.refl _ _⟩
  case round =>
    obtain ⟨ii, hk, rfl, hall, hbl⟩ := hrel
    have y13 : wr.cell? ⟨G, 13, none⟩ = some (.slice a6 X.nr c6) := (HE.out.1.below hbl).cell 13 rfl
    by_cases hlt : ii < X.nr
    · have hi : (ii : Int) < (X.nr : Int) := by omega
      have hlt0 := hlt
      obtain ⟨D, hD⟩ : ∃ D, D = X.rf ii := ⟨_, rfl⟩
      obtain ⟨b, off, vs, rfl, _, hb0, hlen, hr, hrd⟩ := (HE.out.2.2.2.1.below hbl).at hlt
      rw [← hD] at hrd
      obtain ⟨q1, h1, q2, h2, u8, u3, u9, u5, q5, h5, q6, h6, rfl, z1, z2, r3, r5, z5, z6⟩ := VR.cells hrd hlen
      have dd0 : wr.cell? ⟨b, off + ii * 16, none⟩ = _ := hr 0 _ rfl
      have dd1 : wr.cell? ⟨b, off + ii * 16 + 1, none⟩ = _ := hr 1 _ rfl
      have dd2 : wr.cell? ⟨b, off + ii * 16 + 2, none⟩ = _ := hr 2 _ rfl
      have dd3 : wr.cell? ⟨b, off + ii * 16 + 3, none⟩ = _ := hr 3 _ rfl
      have dd4 : wr.cell? ⟨b, off + ii * 16 + 4, none⟩ = _ := hr 4 _ rfl
      have dd5 : wr.cell? ⟨b, off + ii * 16 + 5, none⟩ = _ := hr 5 _ rfl
      have dd6 : wr.cell? ⟨b, off + ii * 16 + 6, none⟩ = _ := hr 6 _ rfl
      have dd7 : wr.cell? ⟨b, off + ii * 16 + 7, none⟩ = _ := hr 7 _ rfl
      have dd8 : wr.cell? ⟨b, off + ii * 16 + 8, none⟩ = _ := hr 8 _ rfl
      have dd9 : wr.cell? ⟨b, off + ii * 16 + 9, none⟩ = _ := hr 9 _ rfl
      have dd10 : wr.cell? ⟨b, off + ii * 16 + 10, none⟩ = _ := hr 10 _ rfl
      have dd11 : wr.cell? ⟨b, off + ii * 16 + 11, none⟩ = _ := hr 11 _ rfl
      have dd12 : wr.cell? ⟨b, off + ii * 16 + 12, none⟩ = _ := hr 12 _ rfl
      have dd13 : wr.cell? ⟨b, off + ii * 16 + 13, none⟩ = _ := hr 13 _ rfl
      have dd14 : wr.cell? ⟨b, off + ii * 16 + 14, none⟩ = _ := hr 14 _ rfl
      have dd15 : wr.cell? ⟨b, off + ii * 16 + 15, none⟩ = _ := hr 15 _ rfl
      obtain ⟨W5, hW5⟩ : ∃ W, W = wr.alloc (.cells ([.int .i64 D.so, .int .i64 D.ta, .int .i64 D.q.kd, .int .i64 D.q.pl, .int .i64 D.q.n, .slice q1 D.q.ws.length h1, .slice q2 D.q.bs.length h2, .int .i64 D.q.wa, .slice u8 D.np u3, .slice u9 D.nt u5, .int .i64 D.a.kd, .int .i64 D.a.fl, .int .i64 D.a.pl, .int .i64 D.a.n, .slice q5 D.a.ws.length h5, .slice q6 D.a.bs.length h6]).toArray 131) := ⟨_, rfl⟩
      obtain ⟨G5, hG5⟩ : ∃ G, G = wr.heap.size := ⟨_, rfl⟩
      have b5 : Below wr.heap.size wr W5 := by rw [hW5]; exact bel_alloc _ _
      have k5 : Blk W5 G5 131 ([.int .i64 D.so, .int .i64 D.ta, .int .i64 D.q.kd, .int .i64 D.q.pl, .int .i64 D.q.n, .slice q1 D.q.ws.length h1, .slice q2 D.q.bs.length h2, .int .i64 D.q.wa, .slice u8 D.np u3, .slice u9 D.nt u5, .int .i64 D.a.kd, .int .i64 D.a.fl, .int .i64 D.a.pl, .int .i64 D.a.n, .slice q5 D.a.ws.length h5, .slice q6 D.a.bs.length h6]).toArray := by rw [hW5, hG5]; exact Blk.new _ _ _
      have HD : Hid (D.np ≤ 2000000 ∧ D.nt ≤ 2000000 ∧ (∀ i, i < D.np → BdQ (D.pt i).q) ∧ ∀ i, i < D.nt → BdA (D.tl i)) := by rw [hD]; exact HE.out.2.2.1.1.2 ii hlt
      have HR : Hid (Rd W5 0 (.list 8 D.np (fun i => trs (pT (D.pt i)))) (.slice u8 D.np u3) ∧ Rd W5 0 (.list 6 D.nt (fun i => trs (aT (D.tl i)))) (.slice u9 D.nt u5)) := ⟨r3.below b5, r5.below b5⟩
      have HN : Hid (rpB X D = rpB X (X.rf ii) ∧ allN (fun i => rpB X (X.rf i)) ii = true ∧ Below W.heap.size W W5 ∧ Blk W5 G5 131 ([.int .i64 D.so, .int .i64 D.ta, .int .i64 D.q.kd, .int .i64 D.q.pl, .int .i64 D.q.n, .slice q1 D.q.ws.length h1, .slice q2 D.q.bs.length h2, .int .i64 D.q.wa, .slice u8 D.np u3, .slice u9 D.nt u5, .int .i64 D.a.kd, .int .i64 D.a.fl, .int .i64 D.a.pl, .int .i64 D.a.n, .slice q5 D.a.ws.length h5, .slice q6 D.a.bs.length h6]).toArray) := ⟨by rw [hD], hall, bel_nx hbl b5, k5⟩
      obtain ⟨mn, hmn⟩ : ∃ m, m = min D.np D.nt := ⟨_, rfl⟩
      have HMN : Hid (mn = min D.np D.nt) := hmn
      have hm9 : mn ≤ 2000000 := by have := HD.out.1; omega
      have hnp : D.np ≤ 2000000 := HD.out.1
      have hnt : D.nt ≤ 2000000 := HD.out.2.1
      clear hD hb0 hlen hr hrd b5 k5 hall hbl hmn z1 z2 r3 r5 z5 z6
      go_upto_region 5 with fail
      rw [← hW5, ← hG5]
      clear hW5 hG5 dd0 dd1 dd2 dd3 dd4 dd5 dd6 dd7 dd8 dd9 dd10 dd11 dd12 dd13 dd14 dd15 y13
      try go_simp
      go_wp2
      go_loopw [5] (fun i wr => ∃ k : Nat, k ≤ mn ∧ i = .int .i64 k ∧ allN (fun k => wsB X (D.pt k) (D.tl k)) k = true ∧ Below W5.heap.size W5 wr) (fun i _ => mn - (intOf i).toNat)
      case atStart => exact ⟨0, Nat.zero_le _, rfl, rfl, Below.refl _ _⟩
      case round =>
        obtain ⟨k, hk, rfl, hall, hbl⟩ := hrel
        have y0 : wr.cell? ⟨G5, 0, none⟩ = some (.int .i64 D.so) := (HN.out.2.2.2.below hbl).cell 0 rfl
        have y1 : wr.cell? ⟨G5, 1, none⟩ = some (.int .i64 D.ta) := (HN.out.2.2.2.below hbl).cell 1 rfl
        have y2 : wr.cell? ⟨G5, 2, none⟩ = some (.int .i64 D.q.kd) := (HN.out.2.2.2.below hbl).cell 2 rfl
        have y3 : wr.cell? ⟨G5, 3, none⟩ = some (.int .i64 D.q.pl) := (HN.out.2.2.2.below hbl).cell 3 rfl
        have y4 : wr.cell? ⟨G5, 4, none⟩ = some (.int .i64 D.q.n) := (HN.out.2.2.2.below hbl).cell 4 rfl
        have y5 : wr.cell? ⟨G5, 5, none⟩ = some (.slice q1 D.q.ws.length h1) := (HN.out.2.2.2.below hbl).cell 5 rfl
        have y6 : wr.cell? ⟨G5, 6, none⟩ = some (.slice q2 D.q.bs.length h2) := (HN.out.2.2.2.below hbl).cell 6 rfl
        have y7 : wr.cell? ⟨G5, 7, none⟩ = some (.int .i64 D.q.wa) := (HN.out.2.2.2.below hbl).cell 7 rfl
        have y8 : wr.cell? ⟨G5, 8, none⟩ = some (.slice u8 D.np u3) := (HN.out.2.2.2.below hbl).cell 8 rfl
        have y9 : wr.cell? ⟨G5, 9, none⟩ = some (.slice u9 D.nt u5) := (HN.out.2.2.2.below hbl).cell 9 rfl
        have y10 : wr.cell? ⟨G5, 10, none⟩ = some (.int .i64 D.a.kd) := (HN.out.2.2.2.below hbl).cell 10 rfl
        have y11 : wr.cell? ⟨G5, 11, none⟩ = some (.int .i64 D.a.fl) := (HN.out.2.2.2.below hbl).cell 11 rfl
        have y12 : wr.cell? ⟨G5, 12, none⟩ = some (.int .i64 D.a.pl) := (HN.out.2.2.2.below hbl).cell 12 rfl
        have y13 : wr.cell? ⟨G5, 13, none⟩ = some (.int .i64 D.a.n) := (HN.out.2.2.2.below hbl).cell 13 rfl
        have y14 : wr.cell? ⟨G5, 14, none⟩ = some (.slice q5 D.a.ws.length h5) := (HN.out.2.2.2.below hbl).cell 14 rfl
        have y15 : wr.cell? ⟨G5, 15, none⟩ = some (.slice q6 D.a.bs.length h6) := (HN.out.2.2.2.below hbl).cell 15 rfl
        by_cases hlt : k < mn
        · have hi3 : (k : Int) < (D.np : Int) := by have := HMN.out; omega
          have hi5 : (k : Int) < (D.nt : Int) := by have := HMN.out; omega
          obtain ⟨b3, o3, vs, rfl, _, hb3, hl3, hr3, hd3⟩ := (HR.out.1.below hbl).at (k := k) (by omega)
          obtain ⟨b1, d1, b2, d2, rfl, rp1, rp2⟩ := VP.cells hd3 hl3
          obtain ⟨b5, o5, vs, rfl, _, hb5, hl5, hr5, hd5⟩ := (HR.out.2.below hbl).at (k := k) (by omega)
          obtain ⟨s1, t1, s2, t2, rfl, rt1, rt2⟩ := VA.cells hd5 hl5
          have HP : Hid (b3 < wr.heap.size ∧ wr.rangeAt b3 (o3 + k * 8) (pL (D.pt k) b1 (D.pt k).q.ws.length d1 b2 (D.pt k).q.bs.length d2) ∧ b5 < wr.heap.size ∧ wr.rangeAt b5 (o5 + k * 6) (aL (D.tl k) s1 (D.tl k).ws.length t1 s2 (D.tl k).bs.length t2)) := ⟨hb3, hr3, hb5, hr5⟩
          obtain ⟨y, hy⟩ : ∃ y, wsB X (D.pt k) (D.tl k) = y := ⟨_, rfl⟩
          have HT : Hid (Rd wr 0 (intsT (D.pt k).q.ws) (.slice b1 (D.pt k).q.ws.length d1) ∧ Rd wr 0 (boolsT (D.pt k).q.bs) (.slice b2 (D.pt k).q.bs.length d2) ∧ Rd wr 0 (intsT (D.tl k).ws) (.slice s1 (D.tl k).ws.length t1) ∧ Rd wr 0 (boolsT (D.tl k).bs) (.slice s2 (D.tl k).bs.length t2) ∧ (BdQ (D.pt k).q ∧ BdA (D.tl k)) ∧ wsB X (D.pt k) (D.tl k) = y) := ⟨rp1, rp2, rt1, rt2, ⟨HD.out.2.2.1 k (by omega), HD.out.2.2.2 k (by omega)⟩, hy⟩
          have HW : Hid (Below W.heap.size W wr ∧ Below W5.heap.size W5 wr) := ⟨bel_nx HN.out.2.2.1 hbl, hbl⟩
          have HA : Hid (allN (fun k => wsB X (D.pt k) (D.tl k)) k = true) := hall
          clear hall hbl hb3 hr3 hl3 hd3 hb5 hr5 hl5 hd5 rp1 rp2 rt1 rt2 hy
          go_upto_region 8 with fail
          clear y0 y1 y2 y3 y4 y5 y6 y7 y8 y9 y10 y11 y12 y13 y14 y15
          try go_simp
          refine wp_region_any (by kernel_rfl) ?_
          refine wpAny_vals (fun u => Below wr.heap.size wr u) (fun i v u => match i with
           | 0 => v = .agg (xwL X a1 X.fb.set.n c1 a2 X.fb.op.m c2 a3 X.fb.nl c3 a4 X.ns c4 a5 X.nk c5 (some ⟨b, off, none⟩) X.nr c6 a7 X.ne c7).toArray
           | 1 => v = .pointer (some ⟨G5, 8, none⟩)
           | 2 => v = .slice (some ⟨b3, o3, none⟩) D.np u3
           | 3 => v = .int .i64 (k : Int)
           | 4 => v = .pointer (some ⟨b3, o3 + k * 8, none⟩)
           | 5 => v = .agg (pL (D.pt k) b1 (D.pt k).q.ws.length d1 b2 (D.pt k).q.bs.length d2).toArray
           | 6 => v = .pointer (some ⟨G5, 9, none⟩)
           | 7 => v = .slice (some ⟨b5, o5, none⟩) D.nt u5
           | 8 => v = .int .i64 (k : Int)
           | 9 => v = .pointer (some ⟨b5, o5 + k * 6, none⟩)
           | 10 => v = .agg (aL (D.tl k) s1 (D.tl k).ws.length t1 s2 (D.tl k).bs.length t2).toArray
           | 11 => v = .bool y
           | 12 => v = .bool (!y)
           | _ => v = undef) (by kernel_rfl) (by kernel_rfl) (fun _ _ _ _ h _ => h) (by first | exact Below.refl _ _ | exact (Below.refl _ _).drew) ?_ ?_ _ _ rfl (by decide) (fun i => by simp [Array.getD]; try (split <;> rfl))
          · intro vs u hR hall
            simp only [putsL]
            cases y
            · have e12 : vs 12 = .bool true := hall 12 (by simp)
              rw [e12]
              clear hall e12
              have HF : Hid (x0 = false ∧ Below W.heap.size W u) := ⟨by rw [← HX.out.1]; exact allN_no hlt0 (by rw [← HN.out.1]; unfold rpB; rw [← HMN.out]; exact allN_no hlt (by show wsB X (D.pt k) (D.tl k) = false; exact HT.out.2.2.2.2.2)), bel_nx HW.out.1 hR⟩
              clear hR HP HT HA HW
              go_simp
              go_wp2
              go_ret
              exact ⟨by rw [HF.out.1]; rfl, bel_nx HE.out.2.1 HF.out.2⟩
            have e12 : vs 12 = .bool false := hall 12 (by simp)
            rw [e12]
            clear hall e12
            have HF : Hid (allN (fun k => wsB X (D.pt k) (D.tl k)) (k + 1) = true ∧ Below W5.heap.size W5 u) := ⟨allN_succ HA.out (by show wsB X (D.pt k) (D.tl k) = true; exact HT.out.2.2.2.2.2), bel_nx HW.out.2 hR⟩
            clear hR HP HT HA HW
            go_simp
            go_wp2
            go_roundw
            case rel => exact ⟨k + 1, by omega, by go_num, HF.out⟩
            case measure => simp [intOf]; omega
          intro u i o ρ hR ho hρ hc hf hd
          have hi : i < 13 := by
            have := (Array.getElem?_eq_some_iff.1 ho).1
            simpa using this
          obtain rfl | rfl | rfl | rfl | rfl | rfl | rfl | rfl | rfl | rfl | rfl | rfl | rfl : i = 0 ∨ i = 1 ∨ i = 2 ∨ i = 3 ∨ i = 4 ∨ i = 5 ∨ i = 6 ∨ i = 7 ∨ i = 8 ∨ i = 9 ∨ i = 10 ∨ i = 11 ∨ i = 12 := by omega
          all_goals (simp only [List.getElem?_toArray, List.getElem?_cons_zero, List.getElem?_cons_succ, Option.some.injEq] at ho; subst ho)
          · have s1 : ρ (.tmp 1) = .pointer (some ⟨G, 0, none⟩) := (hρ 1 (by kernel_rfl)).trans rfl
            have hr : (Instr.loadAt 67 (.pointer (some ⟨G, 0, none⟩))).run Tryz.prog u = .ok (.agg (xwL X a1 X.fb.set.n c1 a2 X.fb.op.m c2 a3 X.fb.nl c3 a4 X.ns c4 a5 X.nk c5 (some ⟨b, off, none⟩) X.nr c6 a7 X.ne c7).toArray) u := run_loadAt_mid u G (0) 67 (xwL X a1 X.fb.set.n c1 a2 X.fb.op.m c2 a3 X.fb.nl c3 a4 X.ns c4 a5 X.nk c5 (some ⟨b, off, none⟩) X.nr c6 a7 X.ne c7) _ ((HE.out.1.below HW.out.1).below hR).rng Tryz.underlying67 rfl (by kernel_rfl)
            exact .inl ⟨rfl, .inl ⟨_, u, run_load_op rfl s1 hr, rfl, hR, Below.refl _ _⟩⟩
          · have s4 : ρ (.tmp 4) = .pointer (some ⟨G5, 0, none⟩) := (hρ 4 (by kernel_rfl)).trans rfl
            exact .inl ⟨rfl, .inl ⟨_, u, run_field_op rfl s4 (by go_simp), rfl, hR, Below.refl _ _⟩⟩
          · have h1 : _ = _ := hd ⟨1, .data⟩ (by simp) rfl 36 rfl
            have y9 : u.cell? ⟨G5, 8, none⟩ = some (.slice (some ⟨b3, o3, none⟩) D.np u3) := ((HN.out.2.2.2.below HW.out.2).below hR).rng 8 _ rfl
            have hr : (Instr.loadAt 128 (.pointer (some ⟨G5, 8, none⟩))).run Tryz.prog u = .ok (.slice (some ⟨b3, o3, none⟩) D.np u3) u := by go_simp
            exact .inl ⟨rfl, .inl ⟨_, u, run_load_op rfl h1 hr, rfl, hR, Below.refl _ _⟩⟩
          · have s5 : ρ (.tmp 5) = .int .i64 (k : Int) := (hρ 5 (by kernel_rfl)).trans rfl
            exact .inl ⟨rfl, .inl ⟨_, u, rfl, s5, hR, Below.refl _ _⟩⟩
          · have h2 : _ = _ := hd ⟨2, .data⟩ (by simp) rfl 37 rfl
            have h3 : _ = _ := hd ⟨3, .data⟩ (by simp) rfl 38 rfl
            exact .inl ⟨rfl, .inl ⟨_, u, run_index_op rfl h2 h3 (by go_simp), rfl, hR, Below.refl _ _⟩⟩
          · have h4 : _ = _ := hd ⟨4, .data⟩ (by simp) rfl 39 rfl
            have hr : (Instr.loadAt 134 (.pointer (some ⟨b3, o3 + k * 8, none⟩))).run Tryz.prog u = .ok (.agg (pL (D.pt k) b1 (D.pt k).q.ws.length d1 b2 (D.pt k).q.bs.length d2).toArray) u := run_loadAt_mid u b3 (o3 + k * 8) 134 (pL (D.pt k) b1 (D.pt k).q.ws.length d1 b2 (D.pt k).q.bs.length d2) _ (rangeAt_below HP.out.2.1 HP.out.1 hR) Tryz.underlying134 rfl (by kernel_rfl)
            exact .inl ⟨rfl, .inl ⟨_, u, run_load_op rfl h4 hr, rfl, hR, Below.refl _ _⟩⟩
          · have s4 : ρ (.tmp 4) = .pointer (some ⟨G5, 0, none⟩) := (hρ 4 (by kernel_rfl)).trans rfl
            exact .inl ⟨rfl, .inl ⟨_, u, run_field_op rfl s4 (by go_simp), rfl, hR, Below.refl _ _⟩⟩
          · have h6 : _ = _ := hd ⟨6, .data⟩ (by simp) rfl 41 rfl
            have y9 : u.cell? ⟨G5, 9, none⟩ = some (.slice (some ⟨b5, o5, none⟩) D.nt u5) := ((HN.out.2.2.2.below HW.out.2).below hR).rng 9 _ rfl
            have hr : (Instr.loadAt 129 (.pointer (some ⟨G5, 9, none⟩))).run Tryz.prog u = .ok (.slice (some ⟨b5, o5, none⟩) D.nt u5) u := by go_simp
            exact .inl ⟨rfl, .inl ⟨_, u, run_load_op rfl h6 hr, rfl, hR, Below.refl _ _⟩⟩
          · have s5 : ρ (.tmp 5) = .int .i64 (k : Int) := (hρ 5 (by kernel_rfl)).trans rfl
            exact .inl ⟨rfl, .inl ⟨_, u, rfl, s5, hR, Below.refl _ _⟩⟩
          · have h7 : _ = _ := hd ⟨7, .data⟩ (by simp) rfl 42 rfl
            have h8 : _ = _ := hd ⟨8, .data⟩ (by simp) rfl 43 rfl
            exact .inl ⟨rfl, .inl ⟨_, u, run_index_op rfl h7 h8 (by go_simp), rfl, hR, Below.refl _ _⟩⟩
          · have h9 : _ = _ := hd ⟨9, .data⟩ (by simp) rfl 44 rfl
            have hr : (Instr.loadAt 117 (.pointer (some ⟨b5, o5 + k * 6, none⟩))).run Tryz.prog u = .ok (.agg (aL (D.tl k) s1 (D.tl k).ws.length t1 s2 (D.tl k).bs.length t2).toArray) u := run_loadAt_mid u b5 (o5 + k * 6) 117 (aL (D.tl k) s1 (D.tl k).ws.length t1 s2 (D.tl k).bs.length t2) _ (rangeAt_below HP.out.2.2.2 HP.out.2.2.1 hR) Tryz.underlying117 rfl (by kernel_rfl)
            exact .inl ⟨rfl, .inl ⟨_, u, run_load_op rfl h9 hr, rfl, hR, Below.refl _ _⟩⟩
          · cases y
            · have h0 : _ = _ := hd ⟨0, .data⟩ (by simp) rfl 35 rfl
              have h5 : _ = _ := hd ⟨5, .data⟩ (by simp) rfl 40 rfl
              have h10 : _ = _ := hd ⟨10, .data⟩ (by simp) rfl 45 rfl
              refine .inl ⟨rfl, .inr ⟨_, _, run_call_op rfl (hf _) (args := #[.agg (xwL X a1 X.fb.set.n c1 a2 X.fb.op.m c2 a3 X.fb.nl c3 a4 X.ns c4 a5 X.nk c5 (some ⟨b, off, none⟩) X.nr c6 a7 X.ne c7).toArray, .agg (pL (D.pt k) b1 (D.pt k).q.ws.length d1 b2 (D.pt k).q.bs.length d2).toArray, .agg (aL (D.tl k) s1 (D.tl k).ws.length t1 s2 (D.tl k).bs.length t2).toArray]) (by simp [h0, h5, h10]) (by kernel_rfl), ?_⟩⟩
              refine (l16Served_any X (D.pt k) (D.tl k) a1 c1 a2 c2 a3 c3 a4 c4 a5 c5 (some ⟨b, off, none⟩) c6 a7 c7 b1 d1 b2 d2 s1 t1 s2 t2 _ (HE.out.2.2.2.2.2.1.below (bel_nx HW.out.1 hR)) ⟨HT.out.1.below hR, HT.out.2.1.below hR, HT.out.2.2.1.below hR, HT.out.2.2.2.1.below hR⟩ HE.out.2.2.1 HT.out.2.2.2.2.1 false HT.out.2.2.2.2.2).mono ?_
              rintro e u' ⟨he, b'⟩
              exact ⟨_, he.trans rfl, rfl, bel_nx hR b', b'⟩
            have h0 : _ = _ := hd ⟨0, .data⟩ (by simp) rfl 35 rfl
            have h5 : _ = _ := hd ⟨5, .data⟩ (by simp) rfl 40 rfl
            have h10 : _ = _ := hd ⟨10, .data⟩ (by simp) rfl 45 rfl
            refine .inl ⟨rfl, .inr ⟨_, _, run_call_op rfl (hf _) (args := #[.agg (xwL X a1 X.fb.set.n c1 a2 X.fb.op.m c2 a3 X.fb.nl c3 a4 X.ns c4 a5 X.nk c5 (some ⟨b, off, none⟩) X.nr c6 a7 X.ne c7).toArray, .agg (pL (D.pt k) b1 (D.pt k).q.ws.length d1 b2 (D.pt k).q.bs.length d2).toArray, .agg (aL (D.tl k) s1 (D.tl k).ws.length t1 s2 (D.tl k).bs.length t2).toArray]) (by simp [h0, h5, h10]) (by kernel_rfl), ?_⟩⟩
            refine (l16Served_any X (D.pt k) (D.tl k) a1 c1 a2 c2 a3 c3 a4 c4 a5 c5 (some ⟨b, off, none⟩) c6 a7 c7 b1 d1 b2 d2 s1 t1 s2 t2 _ (HE.out.2.2.2.2.2.1.below (bel_nx HW.out.1 hR)) ⟨HT.out.1.below hR, HT.out.2.1.below hR, HT.out.2.2.1.below hR, HT.out.2.2.2.1.below hR⟩ HE.out.2.2.1 HT.out.2.2.2.2.1 true HT.out.2.2.2.2.2).mono ?_
            rintro e u' ⟨he, b'⟩
            exact ⟨_, he.trans rfl, rfl, bel_nx hR b', b'⟩
          · have h11 : _ = _ := hd ⟨11, .data⟩ (by simp) rfl 46 rfl
            exact .inl ⟨rfl, .inl ⟨_, u, run_un_op rfl h11 (by go_simp), rfl, hR, Below.refl _ _⟩⟩
        · have e9 : k = mn := by omega
          have HF : Hid (allN (fun i => rpB X (X.rf i)) (ii + 1) = true ∧ Below W.heap.size W wr) := ⟨allN_succ HN.out.2.1 (by show rpB X (X.rf ii) = true; rw [← HN.out.1]; unfold rpB; rw [← HMN.out, ← e9]; exact hall), bel_nx HN.out.2.2.1 hbl⟩
          clear hall hbl
          by_cases h3 : (k : Int) < (D.np : Int)
          · have h5 : ¬ (k : Int) < (D.nt : Int) := by have := HMN.out; omega
            go_wp2
            go_roundw
            case rel => exact ⟨ii + 1, by omega, by go_num, HF.out⟩
            case measure => simp [intOf]; omega
          · skip
            go_wp2
            go_roundw
            case rel => exact ⟨ii + 1, by omega, by go_num, HF.out⟩
            case measure => simp [intOf]; omega
    · have hi : ¬ (ii : Int) < (X.nr : Int) := by omega
      have e9 : ii = X.nr := by omega
      have H0 : Hid (x0 = true ∧ Below W.heap.size W wr) := ⟨by rw [← HX.out.1, ← e9]; exact hall, hbl⟩
      clear hall hbl e9
      go_wp2
      clear y13 hi hk hlt
      go_loopw [6] (fun i wr => ∃ ii : Nat, ii ≤ X.fb.op.m ∧ i = .int .i64 ii ∧ allN (fun i => pdB X (X.fb.op.f i)) ii = true ∧ Below W.heap.size W wr) (fun i _ => X.fb.op.m - (intOf i).toNat)
      case atStart => exact ⟨0, Nat.zero_le _, rfl, rfl, H0.out.2⟩
      case round =>
        obtain ⟨ii, hk, rfl, hall, hbl⟩ := hrel
        have y5 : wr.cell? ⟨G, 5, none⟩ = some (.slice a2 X.fb.op.m c2) := (HE.out.1.below hbl).cell 5 rfl
        by_cases hlt : ii < X.fb.op.m
        · have hi : (ii : Int) < (X.fb.op.m : Int) := by omega
          have hlt0 := hlt
          obtain ⟨D, hD⟩ : ∃ D, D = X.fb.op.f ii := ⟨_, rfl⟩
          obtain ⟨b, off, vs, rfl, _, hb0, hlen, hr, hrd⟩ := (HE.out.2.2.2.2.1.below hbl).at hlt
          rw [← hD] at hrd
          obtain ⟨q1, h1, q2, h2, u8, u3, u4a, u4, u9, u5, rfl, z1, z2, r3, r4, r5⟩ := VD.cells hrd hlen
          have dd0 : wr.cell? ⟨b, off + ii * 13, none⟩ = _ := hr 0 _ rfl
          have dd1 : wr.cell? ⟨b, off + ii * 13 + 1, none⟩ = _ := hr 1 _ rfl
          have dd2 : wr.cell? ⟨b, off + ii * 13 + 2, none⟩ = _ := hr 2 _ rfl
          have dd3 : wr.cell? ⟨b, off + ii * 13 + 3, none⟩ = _ := hr 3 _ rfl
          have dd4 : wr.cell? ⟨b, off + ii * 13 + 4, none⟩ = _ := hr 4 _ rfl
          have dd5 : wr.cell? ⟨b, off + ii * 13 + 5, none⟩ = _ := hr 5 _ rfl
          have dd6 : wr.cell? ⟨b, off + ii * 13 + 6, none⟩ = _ := hr 6 _ rfl
          have dd7 : wr.cell? ⟨b, off + ii * 13 + 7, none⟩ = _ := hr 7 _ rfl
          have dd8 : wr.cell? ⟨b, off + ii * 13 + 8, none⟩ = _ := hr 8 _ rfl
          have dd9 : wr.cell? ⟨b, off + ii * 13 + 9, none⟩ = _ := hr 9 _ rfl
          have dd10 : wr.cell? ⟨b, off + ii * 13 + 10, none⟩ = _ := hr 10 _ rfl
          have dd11 : wr.cell? ⟨b, off + ii * 13 + 11, none⟩ = _ := hr 11 _ rfl
          have dd12 : wr.cell? ⟨b, off + ii * 13 + 12, none⟩ = _ := hr 12 _ rfl
          obtain ⟨W5, hW5⟩ : ∃ W, W = wr.alloc (.cells ([.int .i64 D.id, .int .i64 D.so, .int .i64 D.ta, .int .i64 D.un, .int .i64 D.q.kd, .int .i64 D.q.pl, .int .i64 D.q.n, .slice q1 D.q.ws.length h1, .slice q2 D.q.bs.length h2, .int .i64 D.q.wa, .slice u8 D.np u3, .slice u4a D.hs.length u4, .slice u9 D.nt u5]).toArray 136) := ⟨_, rfl⟩
          obtain ⟨G5, hG5⟩ : ∃ G, G = wr.heap.size := ⟨_, rfl⟩
          have b5 : Below wr.heap.size wr W5 := by rw [hW5]; exact bel_alloc _ _
          have k5 : Blk W5 G5 136 ([.int .i64 D.id, .int .i64 D.so, .int .i64 D.ta, .int .i64 D.un, .int .i64 D.q.kd, .int .i64 D.q.pl, .int .i64 D.q.n, .slice q1 D.q.ws.length h1, .slice q2 D.q.bs.length h2, .int .i64 D.q.wa, .slice u8 D.np u3, .slice u4a D.hs.length u4, .slice u9 D.nt u5]).toArray := by rw [hW5, hG5]; exact Blk.new _ _ _
          have hb9 : BdD D := by rw [hD]; exact HE.out.2.2.1.2.2.2 ii hlt
          have HD : Hid (D.np ≤ 2000000 ∧ D.nt ≤ 2000000 ∧ (∀ i, i < D.np → BdQ (D.pt i).q) ∧ ∀ i, i < D.nt → BdA (D.tl i)) := ⟨hb9.2.1, hb9.2.2.2.1, hb9.2.2.2.2.1, hb9.2.2.2.2.2⟩
          clear hb9
          have HR : Hid (Rd W5 0 (.list 8 D.np (fun i => trs (pT (D.pt i)))) (.slice u8 D.np u3) ∧ Rd W5 0 (.list 6 D.nt (fun i => trs (aT (D.tl i)))) (.slice u9 D.nt u5) ∧ Rd W5 0 (boolsT D.hs) (.slice u4a D.hs.length u4)) := ⟨r3.below b5, r5.below b5, r4.below b5⟩
          have HN : Hid (pdB X D = pdB X (X.fb.op.f ii) ∧ allN (fun i => pdB X (X.fb.op.f i)) ii = true ∧ Below W.heap.size W W5 ∧ Blk W5 G5 136 ([.int .i64 D.id, .int .i64 D.so, .int .i64 D.ta, .int .i64 D.un, .int .i64 D.q.kd, .int .i64 D.q.pl, .int .i64 D.q.n, .slice q1 D.q.ws.length h1, .slice q2 D.q.bs.length h2, .int .i64 D.q.wa, .slice u8 D.np u3, .slice u4a D.hs.length u4, .slice u9 D.nt u5]).toArray) := ⟨by rw [hD], hall, bel_nx hbl b5, k5⟩
          obtain ⟨mn, hmn⟩ : ∃ m, m = min (min D.np D.nt) D.hs.length := ⟨_, rfl⟩
          have HMN : Hid (mn = min (min D.np D.nt) D.hs.length) := hmn
          have hm9 : mn ≤ 2000000 := by have := HD.out.1; omega
          have hnp : D.np ≤ 2000000 := HD.out.1
          have hnt : D.nt ≤ 2000000 := HD.out.2.1
          clear hD hb0 hlen hr hrd b5 k5 hall hbl hmn z1 z2 r3 r4 r5
          go_upto_region 14 with fail
          rw [← hW5, ← hG5]
          clear hW5 hG5 dd0 dd1 dd2 dd3 dd4 dd5 dd6 dd7 dd8 dd9 dd10 dd11 dd12 y5
          try go_simp
          go_wp2
          go_loopw [8] (fun i wr => ∃ k : Nat, k ≤ mn ∧ i = .int .i64 k ∧ allN (fun k => (!(D.hs.getD k false) || wsB X (D.pt k) (D.tl k))) k = true ∧ Below W5.heap.size W5 wr) (fun i _ => mn - (intOf i).toNat)
          case atStart => exact ⟨0, Nat.zero_le _, rfl, rfl, Below.refl _ _⟩
          case round =>
            obtain ⟨k, hk, rfl, hall, hbl⟩ := hrel
            have y0 : wr.cell? ⟨G5, 0, none⟩ = some (.int .i64 D.id) := (HN.out.2.2.2.below hbl).cell 0 rfl
            have y1 : wr.cell? ⟨G5, 1, none⟩ = some (.int .i64 D.so) := (HN.out.2.2.2.below hbl).cell 1 rfl
            have y2 : wr.cell? ⟨G5, 2, none⟩ = some (.int .i64 D.ta) := (HN.out.2.2.2.below hbl).cell 2 rfl
            have y3 : wr.cell? ⟨G5, 3, none⟩ = some (.int .i64 D.un) := (HN.out.2.2.2.below hbl).cell 3 rfl
            have y4 : wr.cell? ⟨G5, 4, none⟩ = some (.int .i64 D.q.kd) := (HN.out.2.2.2.below hbl).cell 4 rfl
            have y5 : wr.cell? ⟨G5, 5, none⟩ = some (.int .i64 D.q.pl) := (HN.out.2.2.2.below hbl).cell 5 rfl
            have y6 : wr.cell? ⟨G5, 6, none⟩ = some (.int .i64 D.q.n) := (HN.out.2.2.2.below hbl).cell 6 rfl
            have y7 : wr.cell? ⟨G5, 7, none⟩ = some (.slice q1 D.q.ws.length h1) := (HN.out.2.2.2.below hbl).cell 7 rfl
            have y8 : wr.cell? ⟨G5, 8, none⟩ = some (.slice q2 D.q.bs.length h2) := (HN.out.2.2.2.below hbl).cell 8 rfl
            have y9 : wr.cell? ⟨G5, 9, none⟩ = some (.int .i64 D.q.wa) := (HN.out.2.2.2.below hbl).cell 9 rfl
            have y10 : wr.cell? ⟨G5, 10, none⟩ = some (.slice u8 D.np u3) := (HN.out.2.2.2.below hbl).cell 10 rfl
            have y11 : wr.cell? ⟨G5, 11, none⟩ = some (.slice u4a D.hs.length u4) := (HN.out.2.2.2.below hbl).cell 11 rfl
            have y12 : wr.cell? ⟨G5, 12, none⟩ = some (.slice u9 D.nt u5) := (HN.out.2.2.2.below hbl).cell 12 rfl
            by_cases hlt : k < mn
            · have hi3 : (k : Int) < (D.np : Int) := by have := HMN.out; omega
              have hi5 : (k : Int) < (D.nt : Int) := by have := HMN.out; omega
              have hi4 : (k : Int) < (D.hs.length : Int) := by have := HMN.out; omega
              obtain ⟨b4, o4, rfl, hb4, d0⟩ := (HR.out.2.2.below hbl).bit (n := 0) (k := k) (by omega)
              obtain ⟨hs, hhs⟩ : ∃ b, D.hs.getD k false = b := ⟨_, rfl⟩
              rw [hhs] at d0
              have HH : Hid (b4 < wr.heap.size ∧ wr.rangeAt b4 (o4 + k) [.bool hs]) := ⟨hb4, fun i v hv => by
                match i, hv with
                | 0, hv =>
                  obtain rfl := Option.some.inj hv
                  exact d0
                | i + 1, hv => simp at hv⟩
              have HHS : Hid (D.hs.getD k false = hs) := hhs
              clear d0 hb4 hhs
              obtain ⟨b3, o3, vs, rfl, _, hb3, hl3, hr3, hd3⟩ := (HR.out.1.below hbl).at (k := k) (by omega)
              obtain ⟨b1, d1, b2, d2, rfl, rp1, rp2⟩ := VP.cells hd3 hl3
              obtain ⟨b5, o5, vs, rfl, _, hb5, hl5, hr5, hd5⟩ := (HR.out.2.1.below hbl).at (k := k) (by omega)
              obtain ⟨s1, t1, s2, t2, rfl, rt1, rt2⟩ := VA.cells hd5 hl5
              have HP : Hid (b3 < wr.heap.size ∧ wr.rangeAt b3 (o3 + k * 8) (pL (D.pt k) b1 (D.pt k).q.ws.length d1 b2 (D.pt k).q.bs.length d2) ∧ b5 < wr.heap.size ∧ wr.rangeAt b5 (o5 + k * 6) (aL (D.tl k) s1 (D.tl k).ws.length t1 s2 (D.tl k).bs.length t2)) := ⟨hb3, hr3, hb5, hr5⟩
              obtain ⟨y, hy⟩ : ∃ y, wsB X (D.pt k) (D.tl k) = y := ⟨_, rfl⟩
              have HT : Hid (Rd wr 0 (intsT (D.pt k).q.ws) (.slice b1 (D.pt k).q.ws.length d1) ∧ Rd wr 0 (boolsT (D.pt k).q.bs) (.slice b2 (D.pt k).q.bs.length d2) ∧ Rd wr 0 (intsT (D.tl k).ws) (.slice s1 (D.tl k).ws.length t1) ∧ Rd wr 0 (boolsT (D.tl k).bs) (.slice s2 (D.tl k).bs.length t2) ∧ (BdQ (D.pt k).q ∧ BdA (D.tl k)) ∧ wsB X (D.pt k) (D.tl k) = y) := ⟨rp1, rp2, rt1, rt2, ⟨HD.out.2.2.1 k (by omega), HD.out.2.2.2 k (by omega)⟩, hy⟩
              have HW : Hid (Below W.heap.size W wr ∧ Below W5.heap.size W5 wr) := ⟨bel_nx HN.out.2.2.1 hbl, hbl⟩
              have HA : Hid (allN (fun k => (!(D.hs.getD k false) || wsB X (D.pt k) (D.tl k))) k = true) := hall
              clear hall hbl hb3 hr3 hl3 hd3 hb5 hr5 hl5 hd5 rp1 rp2 rt1 rt2 hy
              go_upto_region 17 with fail
              clear y0 y1 y2 y3 y4 y5 y6 y7 y8 y9 y10 y11 y12
              try go_simp
              refine wp_region_any (by kernel_rfl) ?_
              refine wpAny_vals (fun u => Below wr.heap.size wr u) (fun i v u => match i with
               | 0 => v = .pointer (some ⟨G5, 11, none⟩)
               | 1 => v = .slice (some ⟨b4, o4, none⟩) D.hs.length u4
               | 2 => v = .int .i64 (k : Int)
               | 3 => v = .pointer (some ⟨b4, o4 + k, none⟩)
               | 4 => v = .bool hs
               | 5 => v = .bool hs
               | 6 => v = cond hs (.agg (xwL X a1 X.fb.set.n c1 (some ⟨b, off, none⟩) X.fb.op.m c2 a3 X.fb.nl c3 a4 X.ns c4 a5 X.nk c5 a6 X.nr c6 a7 X.ne c7).toArray) undef
               | 7 => v = cond hs (.pointer (some ⟨G5, 10, none⟩)) undef
               | 8 => v = cond hs (.slice (some ⟨b3, o3, none⟩) D.np u3) undef
               | 9 => v = cond hs (.int .i64 (k : Int)) undef
               | 10 => v = cond hs (.pointer (some ⟨b3, o3 + k * 8, none⟩)) undef
               | 11 => v = cond hs (.agg (pL (D.pt k) b1 (D.pt k).q.ws.length d1 b2 (D.pt k).q.bs.length d2).toArray) undef
               | 12 => v = cond hs (.pointer (some ⟨G5, 12, none⟩)) undef
               | 13 => v = cond hs (.slice (some ⟨b5, o5, none⟩) D.nt u5) undef
               | 14 => v = cond hs (.int .i64 (k : Int)) undef
               | 15 => v = cond hs (.pointer (some ⟨b5, o5 + k * 6, none⟩)) undef
               | 16 => v = cond hs (.agg (aL (D.tl k) s1 (D.tl k).ws.length t1 s2 (D.tl k).bs.length t2).toArray) undef
               | 17 => v = cond hs (.bool y) undef
               | 18 => v = cond hs (.bool (!y)) undef
               | 19 => v = cond hs (.bool (!y)) (.bool false)
               | _ => v = undef) (by kernel_rfl) (by kernel_rfl) (fun _ _ _ _ h _ => h) (by first | exact Below.refl _ _ | exact (Below.refl _ _).drew) ?_ ?_ _ _ rfl (by decide) (fun i => by simp [Array.getD]; try (split <;> rfl))
              · intro vs u hR hall
                simp only [putsL]
                cases hs
                · have e19 : vs 19 = .bool false := hall 19 (by simp)
                  rw [e19]
                  clear hall e19
                  have HF : Hid (allN (fun k => (!(D.hs.getD k false) || wsB X (D.pt k) (D.tl k))) (k + 1) = true ∧ Below W5.heap.size W5 u) := ⟨allN_succ HA.out (by show (!(D.hs.getD k false) || wsB X (D.pt k) (D.tl k)) = true; rw [HHS.out]; rfl), bel_nx HW.out.2 hR⟩
                  clear hR HP HT HA HW
                  go_simp
                  go_wp2
                  go_roundw
                  case rel => exact ⟨k + 1, by omega, by go_num, HF.out⟩
                  case measure => simp [intOf]; omega
                cases y
                · have e19 : vs 19 = .bool true := hall 19 (by simp)
                  rw [e19]
                  clear hall e19
                  have HF : Hid (x1 = false ∧ Below W.heap.size W u) := ⟨by rw [← HX.out.2]; exact allN_no hlt0 (by rw [← HN.out.1]; unfold pdB; rw [← HMN.out]; exact allN_no hlt (by show (!(D.hs.getD k false) || wsB X (D.pt k) (D.tl k)) = false; rw [HHS.out, HT.out.2.2.2.2.2]; rfl)), bel_nx HW.out.1 hR⟩
                  clear hR HP HT HA HW
                  go_simp
                  go_wp2
                  go_ret
                  exact ⟨by rw [HF.out.1]; simp, bel_nx HE.out.2.1 HF.out.2⟩
                have e19 : vs 19 = .bool false := hall 19 (by simp)
                rw [e19]
                clear hall e19
                have HF : Hid (allN (fun k => (!(D.hs.getD k false) || wsB X (D.pt k) (D.tl k))) (k + 1) = true ∧ Below W5.heap.size W5 u) := ⟨allN_succ HA.out (by show (!(D.hs.getD k false) || wsB X (D.pt k) (D.tl k)) = true; rw [HHS.out, HT.out.2.2.2.2.2]; rfl), bel_nx HW.out.2 hR⟩
                clear hR HP HT HA HW
                go_simp
                go_wp2
                go_roundw
                case rel => exact ⟨k + 1, by omega, by go_num, HF.out⟩
                case measure => simp [intOf]; omega
              intro u i o ρ hR ho hρ hc hf hd
              have hi : i < 20 := by
                have := (Array.getElem?_eq_some_iff.1 ho).1
                simpa using this
              obtain rfl | rfl | rfl | rfl | rfl | rfl | rfl | rfl | rfl | rfl | rfl | rfl | rfl | rfl | rfl | rfl | rfl | rfl | rfl | rfl : i = 0 ∨ i = 1 ∨ i = 2 ∨ i = 3 ∨ i = 4 ∨ i = 5 ∨ i = 6 ∨ i = 7 ∨ i = 8 ∨ i = 9 ∨ i = 10 ∨ i = 11 ∨ i = 12 ∨ i = 13 ∨ i = 14 ∨ i = 15 ∨ i = 16 ∨ i = 17 ∨ i = 18 ∨ i = 19 := by omega
              all_goals (simp only [List.getElem?_toArray, List.getElem?_cons_zero, List.getElem?_cons_succ, Option.some.injEq] at ho; subst ho)
              · have s7 : ρ (.tmp 7) = .pointer (some ⟨G5, 0, none⟩) := (hρ 7 (by kernel_rfl)).trans rfl
                exact .inl ⟨rfl, .inl ⟨_, u, run_field_op rfl s7 (by go_simp), rfl, hR, Below.refl _ _⟩⟩
              · have h0 : _ = _ := hd ⟨0, .data⟩ (by simp) rfl 85 rfl
                have y9 : u.cell? ⟨G5, 11, none⟩ = some (.slice (some ⟨b4, o4, none⟩) D.hs.length u4) := ((HN.out.2.2.2.below HW.out.2).below hR).rng 11 _ rfl
                have hr : (Instr.loadAt 81 (.pointer (some ⟨G5, 11, none⟩))).run Tryz.prog u = .ok (.slice (some ⟨b4, o4, none⟩) D.hs.length u4) u := by go_simp
                exact .inl ⟨rfl, .inl ⟨_, u, run_load_op rfl h0 hr, rfl, hR, Below.refl _ _⟩⟩
              · have s8 : ρ (.tmp 8) = .int .i64 (k : Int) := (hρ 8 (by kernel_rfl)).trans rfl
                exact .inl ⟨rfl, .inl ⟨_, u, rfl, s8, hR, Below.refl _ _⟩⟩
              · have h1 : _ = _ := hd ⟨1, .data⟩ (by simp) rfl 86 rfl
                have h2 : _ = _ := hd ⟨2, .data⟩ (by simp) rfl 87 rfl
                exact .inl ⟨rfl, .inl ⟨_, u, run_index_op rfl h1 h2 (by go_simp), rfl, hR, Below.refl _ _⟩⟩
              · cases hs
                · have h3 : _ = _ := hd ⟨3, .data⟩ (by simp) rfl 88 rfl
                  have y9 : u.cell? ⟨b4, o4 + k, none⟩ = some (.bool false) := (rangeAt_below HH.out.2 HH.out.1 hR) 0 _ rfl
                  have hr : (Instr.loadAt 4 (.pointer (some ⟨b4, o4 + k, none⟩))).run Tryz.prog u = .ok (.bool false) u := by go_simp
                  exact .inl ⟨rfl, .inl ⟨_, u, run_load_op rfl h3 hr, rfl, hR, Below.refl _ _⟩⟩
                have h3 : _ = _ := hd ⟨3, .data⟩ (by simp) rfl 88 rfl
                have y9 : u.cell? ⟨b4, o4 + k, none⟩ = some (.bool true) := (rangeAt_below HH.out.2 HH.out.1 hR) 0 _ rfl
                have hr : (Instr.loadAt 4 (.pointer (some ⟨b4, o4 + k, none⟩))).run Tryz.prog u = .ok (.bool true) u := by go_simp
                exact .inl ⟨rfl, .inl ⟨_, u, run_load_op rfl h3 hr, rfl, hR, Below.refl _ _⟩⟩
              · have h4 : _ = _ := hd ⟨4, .data⟩ (by simp) rfl 89 rfl
                exact .inl ⟨rfl, .inl ⟨_, u, rfl, h4, hR, Below.refl _ _⟩⟩
              · cases hs
                · exact .inr ⟨nog (x := .bool false) rfl rfl (hd ⟨5, .guard⟩ (by simp) rfl 90 rfl) rfl, rfl⟩
                have g5 : ρ (.tmp 90) = .bool true := hd ⟨5, .guard⟩ (by simp) rfl 90 rfl
                have s1 : ρ (.tmp 1) = .pointer (some ⟨G, 0, none⟩) := (hρ 1 (by kernel_rfl)).trans rfl
                have hr : (Instr.loadAt 67 (.pointer (some ⟨G, 0, none⟩))).run Tryz.prog u = .ok (.agg (xwL X a1 X.fb.set.n c1 (some ⟨b, off, none⟩) X.fb.op.m c2 a3 X.fb.nl c3 a4 X.ns c4 a5 X.nk c5 a6 X.nr c6 a7 X.ne c7).toArray) u := run_loadAt_mid u G (0) 67 (xwL X a1 X.fb.set.n c1 (some ⟨b, off, none⟩) X.fb.op.m c2 a3 X.fb.nl c3 a4 X.ns c4 a5 X.nk c5 a6 X.nr c6 a7 X.ne c7) _ ((HE.out.1.below HW.out.1).below hR).rng Tryz.underlying67 rfl (by kernel_rfl)
                exact .inl ⟨(by show (match ρ (.tmp 90) with | .bool b => b == true | _ => false) = true; rw [g5]; rfl), .inl ⟨_, u, run_load_op rfl s1 hr, rfl, hR, Below.refl _ _⟩⟩
              · cases hs
                · exact .inr ⟨nog (x := .bool false) rfl rfl (hd ⟨5, .guard⟩ (by simp) rfl 90 rfl) rfl, rfl⟩
                have g5 : ρ (.tmp 90) = .bool true := hd ⟨5, .guard⟩ (by simp) rfl 90 rfl
                have s7 : ρ (.tmp 7) = .pointer (some ⟨G5, 0, none⟩) := (hρ 7 (by kernel_rfl)).trans rfl
                exact .inl ⟨(by show (match ρ (.tmp 90) with | .bool b => b == true | _ => false) = true; rw [g5]; rfl), .inl ⟨_, u, run_field_op rfl s7 (by go_simp), rfl, hR, Below.refl _ _⟩⟩
              · cases hs
                · exact .inr ⟨nog (x := .bool false) rfl rfl (hd ⟨5, .guard⟩ (by simp) rfl 90 rfl) rfl, rfl⟩
                have g5 : ρ (.tmp 90) = .bool true := hd ⟨5, .guard⟩ (by simp) rfl 90 rfl
                have h7 : _ = _ := hd ⟨7, .data⟩ (by simp) rfl 92 rfl
                have y9 : u.cell? ⟨G5, 10, none⟩ = some (.slice (some ⟨b3, o3, none⟩) D.np u3) := ((HN.out.2.2.2.below HW.out.2).below hR).rng 10 _ rfl
                have hr : (Instr.loadAt 128 (.pointer (some ⟨G5, 10, none⟩))).run Tryz.prog u = .ok (.slice (some ⟨b3, o3, none⟩) D.np u3) u := by go_simp
                exact .inl ⟨(by show (match ρ (.tmp 90) with | .bool b => b == true | _ => false) = true; rw [g5]; rfl), .inl ⟨_, u, run_load_op rfl h7 hr, rfl, hR, Below.refl _ _⟩⟩
              · cases hs
                · exact .inr ⟨nog (x := .bool false) rfl rfl (hd ⟨5, .guard⟩ (by simp) rfl 90 rfl) rfl, rfl⟩
                have g5 : ρ (.tmp 90) = .bool true := hd ⟨5, .guard⟩ (by simp) rfl 90 rfl
                have s8 : ρ (.tmp 8) = .int .i64 (k : Int) := (hρ 8 (by kernel_rfl)).trans rfl
                exact .inl ⟨(by show (match ρ (.tmp 90) with | .bool b => b == true | _ => false) = true; rw [g5]; rfl), .inl ⟨_, u, rfl, s8, hR, Below.refl _ _⟩⟩
              · cases hs
                · exact .inr ⟨nog (x := .bool false) rfl rfl (hd ⟨5, .guard⟩ (by simp) rfl 90 rfl) rfl, rfl⟩
                have g5 : ρ (.tmp 90) = .bool true := hd ⟨5, .guard⟩ (by simp) rfl 90 rfl
                have h8 : _ = _ := hd ⟨8, .data⟩ (by simp) rfl 93 rfl
                have h9 : _ = _ := hd ⟨9, .data⟩ (by simp) rfl 94 rfl
                exact .inl ⟨(by show (match ρ (.tmp 90) with | .bool b => b == true | _ => false) = true; rw [g5]; rfl), .inl ⟨_, u, run_index_op rfl h8 h9 (by go_simp), rfl, hR, Below.refl _ _⟩⟩
              · cases hs
                · exact .inr ⟨nog (x := .bool false) rfl rfl (hd ⟨5, .guard⟩ (by simp) rfl 90 rfl) rfl, rfl⟩
                have g5 : ρ (.tmp 90) = .bool true := hd ⟨5, .guard⟩ (by simp) rfl 90 rfl
                have h10 : _ = _ := hd ⟨10, .data⟩ (by simp) rfl 95 rfl
                have hr : (Instr.loadAt 134 (.pointer (some ⟨b3, o3 + k * 8, none⟩))).run Tryz.prog u = .ok (.agg (pL (D.pt k) b1 (D.pt k).q.ws.length d1 b2 (D.pt k).q.bs.length d2).toArray) u := run_loadAt_mid u b3 (o3 + k * 8) 134 (pL (D.pt k) b1 (D.pt k).q.ws.length d1 b2 (D.pt k).q.bs.length d2) _ (rangeAt_below HP.out.2.1 HP.out.1 hR) Tryz.underlying134 rfl (by kernel_rfl)
                exact .inl ⟨(by show (match ρ (.tmp 90) with | .bool b => b == true | _ => false) = true; rw [g5]; rfl), .inl ⟨_, u, run_load_op rfl h10 hr, rfl, hR, Below.refl _ _⟩⟩
              · cases hs
                · exact .inr ⟨nog (x := .bool false) rfl rfl (hd ⟨5, .guard⟩ (by simp) rfl 90 rfl) rfl, rfl⟩
                have g5 : ρ (.tmp 90) = .bool true := hd ⟨5, .guard⟩ (by simp) rfl 90 rfl
                have s7 : ρ (.tmp 7) = .pointer (some ⟨G5, 0, none⟩) := (hρ 7 (by kernel_rfl)).trans rfl
                exact .inl ⟨(by show (match ρ (.tmp 90) with | .bool b => b == true | _ => false) = true; rw [g5]; rfl), .inl ⟨_, u, run_field_op rfl s7 (by go_simp), rfl, hR, Below.refl _ _⟩⟩
              · cases hs
                · exact .inr ⟨nog (x := .bool false) rfl rfl (hd ⟨5, .guard⟩ (by simp) rfl 90 rfl) rfl, rfl⟩
                have g5 : ρ (.tmp 90) = .bool true := hd ⟨5, .guard⟩ (by simp) rfl 90 rfl
                have h12 : _ = _ := hd ⟨12, .data⟩ (by simp) rfl 97 rfl
                have y9 : u.cell? ⟨G5, 12, none⟩ = some (.slice (some ⟨b5, o5, none⟩) D.nt u5) := ((HN.out.2.2.2.below HW.out.2).below hR).rng 12 _ rfl
                have hr : (Instr.loadAt 129 (.pointer (some ⟨G5, 12, none⟩))).run Tryz.prog u = .ok (.slice (some ⟨b5, o5, none⟩) D.nt u5) u := by go_simp
                exact .inl ⟨(by show (match ρ (.tmp 90) with | .bool b => b == true | _ => false) = true; rw [g5]; rfl), .inl ⟨_, u, run_load_op rfl h12 hr, rfl, hR, Below.refl _ _⟩⟩
              · cases hs
                · exact .inr ⟨nog (x := .bool false) rfl rfl (hd ⟨5, .guard⟩ (by simp) rfl 90 rfl) rfl, rfl⟩
                have g5 : ρ (.tmp 90) = .bool true := hd ⟨5, .guard⟩ (by simp) rfl 90 rfl
                have s8 : ρ (.tmp 8) = .int .i64 (k : Int) := (hρ 8 (by kernel_rfl)).trans rfl
                exact .inl ⟨(by show (match ρ (.tmp 90) with | .bool b => b == true | _ => false) = true; rw [g5]; rfl), .inl ⟨_, u, rfl, s8, hR, Below.refl _ _⟩⟩
              · cases hs
                · exact .inr ⟨nog (x := .bool false) rfl rfl (hd ⟨5, .guard⟩ (by simp) rfl 90 rfl) rfl, rfl⟩
                have g5 : ρ (.tmp 90) = .bool true := hd ⟨5, .guard⟩ (by simp) rfl 90 rfl
                have h13 : _ = _ := hd ⟨13, .data⟩ (by simp) rfl 98 rfl
                have h14 : _ = _ := hd ⟨14, .data⟩ (by simp) rfl 99 rfl
                exact .inl ⟨(by show (match ρ (.tmp 90) with | .bool b => b == true | _ => false) = true; rw [g5]; rfl), .inl ⟨_, u, run_index_op rfl h13 h14 (by go_simp), rfl, hR, Below.refl _ _⟩⟩
              · cases hs
                · exact .inr ⟨nog (x := .bool false) rfl rfl (hd ⟨5, .guard⟩ (by simp) rfl 90 rfl) rfl, rfl⟩
                have g5 : ρ (.tmp 90) = .bool true := hd ⟨5, .guard⟩ (by simp) rfl 90 rfl
                have h15 : _ = _ := hd ⟨15, .data⟩ (by simp) rfl 100 rfl
                have hr : (Instr.loadAt 117 (.pointer (some ⟨b5, o5 + k * 6, none⟩))).run Tryz.prog u = .ok (.agg (aL (D.tl k) s1 (D.tl k).ws.length t1 s2 (D.tl k).bs.length t2).toArray) u := run_loadAt_mid u b5 (o5 + k * 6) 117 (aL (D.tl k) s1 (D.tl k).ws.length t1 s2 (D.tl k).bs.length t2) _ (rangeAt_below HP.out.2.2.2 HP.out.2.2.1 hR) Tryz.underlying117 rfl (by kernel_rfl)
                exact .inl ⟨(by show (match ρ (.tmp 90) with | .bool b => b == true | _ => false) = true; rw [g5]; rfl), .inl ⟨_, u, run_load_op rfl h15 hr, rfl, hR, Below.refl _ _⟩⟩
              · cases hs
                · exact .inr ⟨nog (x := .bool false) rfl rfl (hd ⟨5, .guard⟩ (by simp) rfl 90 rfl) rfl, rfl⟩
                cases y
                · have g5 : ρ (.tmp 90) = .bool true := hd ⟨5, .guard⟩ (by simp) rfl 90 rfl
                  have h6 : _ = _ := hd ⟨6, .data⟩ (by simp) rfl 91 rfl
                  have h11 : _ = _ := hd ⟨11, .data⟩ (by simp) rfl 96 rfl
                  have h16 : _ = _ := hd ⟨16, .data⟩ (by simp) rfl 101 rfl
                  refine .inl ⟨(by show (match ρ (.tmp 90) with | .bool b => b == true | _ => false) = true; rw [g5]; rfl), .inr ⟨_, _, run_call_op rfl (hf _) (args := #[.agg (xwL X a1 X.fb.set.n c1 (some ⟨b, off, none⟩) X.fb.op.m c2 a3 X.fb.nl c3 a4 X.ns c4 a5 X.nk c5 a6 X.nr c6 a7 X.ne c7).toArray, .agg (pL (D.pt k) b1 (D.pt k).q.ws.length d1 b2 (D.pt k).q.bs.length d2).toArray, .agg (aL (D.tl k) s1 (D.tl k).ws.length t1 s2 (D.tl k).bs.length t2).toArray]) (by simp [h6, h11, h16]) (by kernel_rfl), ?_⟩⟩
                  refine (l16Served_any X (D.pt k) (D.tl k) a1 c1 (some ⟨b, off, none⟩) c2 a3 c3 a4 c4 a5 c5 a6 c6 a7 c7 b1 d1 b2 d2 s1 t1 s2 t2 _ (HE.out.2.2.2.2.2.1.below (bel_nx HW.out.1 hR)) ⟨HT.out.1.below hR, HT.out.2.1.below hR, HT.out.2.2.1.below hR, HT.out.2.2.2.1.below hR⟩ HE.out.2.2.1 HT.out.2.2.2.2.1 false HT.out.2.2.2.2.2).mono ?_
                  rintro e u' ⟨he, b'⟩
                  exact ⟨_, he.trans rfl, rfl, bel_nx hR b', b'⟩
                have g5 : ρ (.tmp 90) = .bool true := hd ⟨5, .guard⟩ (by simp) rfl 90 rfl
                have h6 : _ = _ := hd ⟨6, .data⟩ (by simp) rfl 91 rfl
                have h11 : _ = _ := hd ⟨11, .data⟩ (by simp) rfl 96 rfl
                have h16 : _ = _ := hd ⟨16, .data⟩ (by simp) rfl 101 rfl
                refine .inl ⟨(by show (match ρ (.tmp 90) with | .bool b => b == true | _ => false) = true; rw [g5]; rfl), .inr ⟨_, _, run_call_op rfl (hf _) (args := #[.agg (xwL X a1 X.fb.set.n c1 (some ⟨b, off, none⟩) X.fb.op.m c2 a3 X.fb.nl c3 a4 X.ns c4 a5 X.nk c5 a6 X.nr c6 a7 X.ne c7).toArray, .agg (pL (D.pt k) b1 (D.pt k).q.ws.length d1 b2 (D.pt k).q.bs.length d2).toArray, .agg (aL (D.tl k) s1 (D.tl k).ws.length t1 s2 (D.tl k).bs.length t2).toArray]) (by simp [h6, h11, h16]) (by kernel_rfl), ?_⟩⟩
                refine (l16Served_any X (D.pt k) (D.tl k) a1 c1 (some ⟨b, off, none⟩) c2 a3 c3 a4 c4 a5 c5 a6 c6 a7 c7 b1 d1 b2 d2 s1 t1 s2 t2 _ (HE.out.2.2.2.2.2.1.below (bel_nx HW.out.1 hR)) ⟨HT.out.1.below hR, HT.out.2.1.below hR, HT.out.2.2.1.below hR, HT.out.2.2.2.1.below hR⟩ HE.out.2.2.1 HT.out.2.2.2.2.1 true HT.out.2.2.2.2.2).mono ?_
                rintro e u' ⟨he, b'⟩
                exact ⟨_, he.trans rfl, rfl, bel_nx hR b', b'⟩
              · cases hs
                · exact .inr ⟨nog (x := .bool false) rfl rfl (hd ⟨5, .guard⟩ (by simp) rfl 90 rfl) rfl, rfl⟩
                have g5 : ρ (.tmp 90) = .bool true := hd ⟨5, .guard⟩ (by simp) rfl 90 rfl
                have h17 : _ = _ := hd ⟨17, .data⟩ (by simp) rfl 102 rfl
                exact .inl ⟨(by show (match ρ (.tmp 90) with | .bool b => b == true | _ => false) = true; rw [g5]; rfl), .inl ⟨_, u, run_un_op rfl h17 (by go_simp), rfl, hR, Below.refl _ _⟩⟩
              · cases hs
                · have h5 : _ = _ := hd ⟨5, .data⟩ (by simp) rfl 90 rfl
                  exact .inl ⟨rfl, .inl ⟨_, u, run_pick_op rfl h5, (by simpa using hc _), hR, Below.refl _ _⟩⟩
                have h5 : _ = _ := hd ⟨5, .data⟩ (by simp) rfl 90 rfl
                have h18 : _ = _ := hd ⟨18, .data⟩ (by simp) rfl 103 rfl
                exact .inl ⟨rfl, .inl ⟨_, u, run_pick_op rfl h5, (by simpa using h18), hR, Below.refl _ _⟩⟩
            · have e9 : k = mn := by omega
              have HF : Hid (allN (fun i => pdB X (X.fb.op.f i)) (ii + 1) = true ∧ Below W.heap.size W wr) := ⟨allN_succ HN.out.2.1 (by show pdB X (X.fb.op.f ii) = true; rw [← HN.out.1]; unfold pdB; rw [← HMN.out, ← e9]; exact hall), bel_nx HN.out.2.2.1 hbl⟩
              clear hall hbl
              by_cases h3 : (k : Int) < (D.np : Int)
              · by_cases h4 : (k : Int) < (D.hs.length : Int)
                · have h5 : ¬ (k : Int) < (D.nt : Int) := by have := HMN.out; omega
                  go_wp2
                  go_roundw
                  case rel => exact ⟨ii + 1, by omega, by go_num, HF.out⟩
                  case measure => simp [intOf]; omega
                · skip
                  go_wp2
                  go_roundw
                  case rel => exact ⟨ii + 1, by omega, by go_num, HF.out⟩
                  case measure => simp [intOf]; omega
              · skip
                go_wp2
                go_roundw
                case rel => exact ⟨ii + 1, by omega, by go_num, HF.out⟩
                case measure => simp [intOf]; omega
        · have hi : ¬ (ii : Int) < (X.fb.op.m : Int) := by omega
          have e9 : ii = X.fb.op.m := by omega
          have H1 : Hid (x1 = true ∧ Below W.heap.size W wr) := ⟨by rw [← HX.out.2, ← e9]; exact hall, hbl⟩
          clear hall hbl e9
          go_wp2
          go_ret
          exact ⟨by rw [H0.out.1, H1.out.1]; rfl, bel_nx HE.out.2.1 H1.out.2⟩
end Go.Proofs.YtpgcankjhkchjaaGreat
