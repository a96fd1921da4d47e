/- Is all there, of the model. -/
import Derived.Test.YtmbkfoemhnhoiaaDev22
namespace Go.Proofs.Ytmbkfoemhnhoiaa
open Go.RowKit

set_option linter.unusedVariables false

set_option linter.unusedSimpArgs false

theorem slI_lit4 (w : World) (x0 x1 x2 x3 : Int) : SlI (w.alloc (.cells #[.int .i64 x0, .int .i64 x1, .int .i64 x2, .int .i64 x3] 3)) (some ⟨w.heap.size, 0, none⟩) [x0, x1, x2, x3] :=
  .inr ⟨w.heap.size, 0, rfl, by simp, fun i hi => by
    have : i = 0 ∨ i = 1 ∨ i = 2 ∨ i = 3 := by simp at hi; omega
    rcases this with rfl | rfl | rfl | rfl <;> simp⟩

set_option maxRecDepth 20000 in
set_option maxHeartbeats 2000000 in
theorem l5There_any (a1 a2 a3 a4 : Option Addr) (l1 l2 l3 l4 c1 c2 c3 c4 : Nat) (kd pl nn wa : Int) (q1 q2 : Option Addr) (m1 m2 k1 k2 : Nat) (ws : List Int) (bs : List Bool) (w : World) (h1 : m1 = ws.length) (h2 : m2 = bs.length) (s1 : SlI w q1 ws) (s2 : SlB w q2 bs) (hl1 : ws.length ≤ 2000000) (hl2 : bs.length ≤ 2000000) (hok : okR kd pl nn wa ws m1 m2 = true) (n1 : l1 ≤ 2000000) (n2 : l2 ≤ 2000000) (n3 : l3 ≤ 2000000) (n4 : l4 ≤ 2000000) (b : Bool) (hb : svAll l1 l2 l3 l4 kd pl nn wa m1 m2 = b) :
    Calls Try.prog 76 #[dv a1 a2 a3 a4 l1 l2 l3 l4 c1 c2 c3 c4, rq kd pl nn wa q1 q2 m1 m2 k1 k2] w fun e w' => e = .returned (.bool b) ∧ Below w.heap.size w w' := by
  obtain ⟨z, hz⟩ : ∃ z, z = (w.alloc (.cells #[.slice a1 l1 c1, .slice a2 l2 c2, .slice a3 l3 c3, .slice a4 l4 c4] 36)).alloc (.cells #[.int .i64 kd, .int .i64 pl, .int .i64 nn, .slice q1 m1 k1, .slice q2 m2 k2, .int .i64 wa] 27) := ⟨_, rfl⟩
  have HZ : Hid (z = _) := hz
  have b0 : Below w.heap.size w z := by rw [hz]; exact bel_next (bel_alloc w _) (bel_alloc _ _)
  have X0 : Blk z w.heap.size 36 #[.slice a1 l1 c1, .slice a2 l2 c2, .slice a3 l3 c3, .slice a4 l4 c4] := by rw [hz]; exact (Blk.new w _ _).below (bel_alloc _ _)
  have Y0 : Blk z (w.heap.size + 1) 27 #[.int .i64 kd, .int .i64 pl, .int .i64 nn, .slice q1 m1 k1, .slice q2 m2 k2, .int .i64 wa] := by rw [hz]; have := Blk.new (w.alloc (.cells #[.slice a1 l1 c1, .slice a2 l2 c2, .slice a3 l3 c3, .slice a4 l4 c4] 36)) #[.int .i64 kd, .int .i64 pl, .int .i64 nn, .slice q1 m1 k1, .slice q2 m2 k2, .int .i64 wa] 27; simpa using this
  have HQ : Hid (m1 = ws.length ∧ m2 = bs.length ∧ SlI z q1 ws ∧ SlB z q2 bs ∧ ws.length ≤ 2000000 ∧ bs.length ≤ 2000000) := ⟨h1, h2, s1.below b0, s2.below b0, hl1, hl2⟩
  have f := okR_f hok
  have hs0 : 0 ≤ spc0 kd ∧ spc0 kd < 4 := by unfold spc0; split <;> (try split) <;> (try split) <;> omega
  have hsN : 0 ≤ spcN kd nn m1 m2 ∧ spcN kd nn m1 m2 ≤ 2000000 := by unfold spcN; split <;> (try split) <;> (try split) <;> omega
  have h23 : kd = 23 → spc0 kd = 2 ∧ 0 ≤ wa ∧ wa ≤ 65535 ∧ m1 ≤ 121 := by intro h; refine ⟨by rw [h]; rfl, ?_⟩; omega
  have hV : spcV (okR kd pl nn wa ws m1 m2) kd pl nn m1 m2 = .tuple #[.int .i64 (spc0 kd), .int .i64 pl, .int .i64 (spcN kd nn m1 m2)] := by rw [hok]; rfl
  have HV : Hid (spcV (okR kd pl nn wa ws m1 m2) kd pl nn m1 m2 = .tuple #[.int .i64 (spc0 kd), .int .i64 pl, .int .i64 (spcN kd nn m1 m2)]) := hV
  obtain ⟨hp0, hp1⟩ := f.1
  unfold svAll at hb
  clear hz h1 h2 s1 s2 hl1 hl2 f hV hok
  generalize spcN kd nn m1 m2 = n at *
  generalize spc0 kd = sp at *
  obtain ⟨i, rfl⟩ := Int.eq_ofNat_of_zero_le hs0.1
  have hi4 : i < 4 := by omega
  rw [show ((i : Int)).toNat = i by omega] at hb
  generalize hsz : [(l1 : Int), (l2 : Int), (l3 : Int), (l4 : Int)].getD i 0 = sz at *
  have hszb : 0 ≤ sz ∧ sz ≤ 2000000 := by
    rw [← hsz]
    match i, hi4 with
    | 0, _ => simp; omega
    | 1, _ => simp; omega
    | 2, _ => simp; omega
    | 3, _ => simp; omega
  have h2sz : i = 2 → sz = (l3 : Int) := by intro h; rw [← hsz, h]; rfl
  obtain ⟨x0, x1, x2, x3⟩ := X0.four
  obtain ⟨y0, y1, y2, y3, y4, y5⟩ := Y0.six
  have i4 : (i : Int) < 4 := by omega
  have HS : Hid ([(l1 : Int), (l2 : Int), (l3 : Int), (l4 : Int)].getD i 0 = sz) := hsz
  clear hsz
  go_enter Try.func76, Try.ntmps76
  go_upto_region 1 with fail
  rw [← HZ.out]
  obtain ⟨z1, hz1⟩ : ∃ z1, z1 = z.alloc (.cells #[.int .i64 (l1 : Int), .int .i64 (l2 : Int), .int .i64 (l3 : Int), .int .i64 (l4 : Int)] 3) := ⟨_, rfl⟩
  have HZ1 : Hid (z1 = _) := hz1
  have b1' : Below z.heap.size z z1 := by rw [hz1]; exact bel_alloc _ _
  have SL : SlI z1 (some ⟨z.heap.size, 0, none⟩) [(l1 : Int), (l2 : Int), (l3 : Int), (l4 : Int)] := by rw [hz1]; exact slI_lit4 z _ _ _ _
  have b1 := bel_next b0 b1'
  have X1 := X0.below b1'
  have Y1 := Y0.below b1'
  clear hz1
  go_upto_region 2 with fail
  rw [← HZ1.out]
  clear x0 x1 x2 x3 y0 y1 y2 y3 y4 y5 X0 Y0
  obtain ⟨y0, y1, y2, y3, y4, y5⟩ := Y1.six
  go_wp2_with fail
  refine (specSpaces_t kd pl nn wa q1 q2 m1 m2 k1 k2 ws bs _ HQ.out.1 HQ.out.2.1 (HQ.out.2.2.1.below b1') (HQ.out.2.2.2.1.below b1') HQ.out.2.2.2.2.1 HQ.out.2.2.2.2.2 (i : Int) pl n HV.out).mono ?_
  rintro e w3 ⟨rfl, b3'⟩
  have b3 := bel_next b1 b3'
  have Y3 := Y1.below b3'
  have S3 := SL.below b3'
  obtain ⟨bq, off, eq, hbq, hci⟩ := cell_atI S3 (k := i) (by simp; omega)
  obtain ⟨bq', off', eq', _, hc2⟩ := cell_atI S3 (k := 2) (by simp)
  simp only [Option.some.injEq, Addr.mk.injEq, and_true] at eq eq'
  obtain ⟨rfl, rfl⟩ := eq
  obtain ⟨rfl, rfl⟩ := eq'
  rw [HS.out] at hci
  simp only [Nat.zero_add] at hci hc2
  have hc2' : w3.cell? ⟨z.heap.size, 2, none⟩ = some (.int .i64 (l3 : Int)) := by simpa using hc2
  clear y0 y1 y2 y3 y4 y5 Y1 SL S3 hc2 b1 b1' b3' b0
  obtain ⟨y0, y1, y2, y3, y4, y5⟩ := Y3.six
  generalize z.heap.size = G at *
  by_cases t1 : pl + n ≤ sz
  case neg =>
    obtain rfl : b = false := by
      rw [← hb]; unfold hsB
      split
      · rfl
      · exact decide_eq_false t1
    have t1' : decide (pl + n ≤ sz) = false := decide_eq_false t1
    clear hb
    go_upto_region 3 with fail
    go_quiet (fail)
    go_wp2_with fail
    go_ret
    exact ⟨rfl, bel_drewN b3 _⟩
  by_cases t2 : kd = 23
  case neg =>
    obtain rfl : b = true := by
      rw [← hb, hsB_2 (fun h => t2 h.1)]
      exact decide_eq_true t1
    have t2' : (kd != 23) = true := by simpa using t2
    have t1' : decide (pl + n ≤ sz) = true := decide_eq_true t1
    clear hb
    go_upto_region 3 with fail
    go_quiet (fail)
    go_wp2_with fail
    go_ret
    exact ⟨rfl, bel_drewN b3 _⟩
  subst t2
  obtain ⟨hw2, hw0, hw1, hwm⟩ := h23 rfl
  have iw : IntKind.i64.wrap (wa + (m1 : Int)) = wa + (m1 : Int) := by rw [IntKind.wrap_i64]; omega
  have iw2 : ((23 : Int) != 23) = false := by decide
  have e3 := h2sz (by omega)
  by_cases t3 : wa + (m1 : Int) ≤ (l3 : Int)
  · obtain rfl : b = true := by
      rw [← hb, hsB_2 (fun h => by omega)]
      exact decide_eq_true t1
    have t3' : decide (wa + (m1 : Int) ≤ (l3 : Int)) = true := decide_eq_true t3
    have t1' : decide (pl + n ≤ sz) = true := decide_eq_true t1
    clear hb e3 h2sz h23 hw2
    go_upto_region 3 with fail
    go_quiet (fail)
    go_wp2_with fail
    go_ret
    exact ⟨rfl, bel_drewN b3 _⟩
  · obtain rfl : b = false := by
      rw [← hb]; exact hsB_1 rfl (by omega)
    have t3' : decide (wa + (m1 : Int) ≤ (l3 : Int)) = false := decide_eq_false t3
    have t1' : decide (pl + n ≤ sz) = true := decide_eq_true t1
    clear hb e3 h2sz h23 hw2
    go_upto_region 3 with fail
    go_quiet (fail)
    go_wp2_with fail
    go_ret
    exact ⟨rfl, bel_drewN b3 _⟩

end Go.Proofs.Ytmbkfoemhnhoiaa
