/- Texts that the proof needs, joined: Tr13. -/
import Derived.Test.YtplaoagcedgdfaaV4
import Derived.Test.YtplaoagcedgdfaaV6
set_option linter.unusedVariables false
set_option linter.unusedSimpArgs false
set_option maxHeartbeats 4000000
set_option maxRecDepth 20000
namespace Go.Proofs.Ytplaoagcedgdfaa
open Go.RowKit Go.Joins
theorem eqDevice_t (X : VI) (a1 : Option Addr) (l1 c1 : Nat) (a2 : Option Addr) (l2 c2 : Nat) (a3 : Option Addr) (l3 c3 : Nat) (a4 : Option Addr) (l4 c4 : Nat) (a1' : Option Addr) (c1' : Nat) (a2' : Option Addr) (c2' : Nat) (a3' : Option Addr) (c3' : Nat) (a4' : Option Addr) (c4' : Nat) (w : World) (r1 : Rd w 0 (boolsT X.co) (.slice a1 l1 c1)) (r2 : Rd w 0 (boolsT X.ip) (.slice a2 l2 c2)) (r3 : Rd w 0 (intsT X.ho) (.slice a3 l3 c3)) (r4 : Rd w 0 (intsT X.wd) (.slice a4 l4 c4)) (r1' : Rd w 0 (boolsT X.co) (.slice a1' l1 c1')) (r2' : Rd w 0 (boolsT X.ip) (.slice a2' l2 c2')) (r3' : Rd w 0 (intsT X.ho) (.slice a3' l3 c3')) (r4' : Rd w 0 (intsT X.wd) (.slice a4' l4 c4')) (hz : szT 4 (trs (xdT X)) <= 1048576) :
 Calls Try.prog 64 #[.agg (xdL X a1 l1 c1 a2 l2 c2 a3 l3 c3 a4 l4 c4).toArray, .agg (xdL X a1' l1 c1' a2' l2 c2' a3' l3 c3' a4' l4 c4').toArray] w fun e w' => e = .returned (.bool true) /\ Below w.heap.size w w' := by
 obtain ⟨W, hW⟩ : ∃ W, W = (w.alloc (.cells (xdL X a1 l1 c1 a2 l2 c2 a3 l3 c3 a4 l4 c4).toArray 100)).alloc (.cells (xdL X a1' l1 c1' a2' l2 c2' a3' l3 c3' a4' l4 c4').toArray 100) := ⟨_, rfl⟩
 have HZ : Hid (X.co.length <= 1048576 /\ X.ip.length <= 1048576 /\ X.ho.length <= 1048576 /\ X.wd.length <= 1048576) := by
  rw [szT_xd] at hz
  show X.co.length <= 1048576 /\ X.ip.length <= 1048576 /\ X.ho.length <= 1048576 /\ X.wd.length <= 1048576
  try simp only [szT_q, szT_a, szT_p, szT_d, szT_t, szT_xr, szT_xc, szT_xl, szT_xn, szT_xf, szT_xd, szT_xs, szT_xk, szT_xy, szT_xe, szT_xw, true_and]
  omega
 have HR : Hid (Rd w 0 (boolsT X.co) (.slice a1 l1 c1) /\ Rd w 0 (boolsT X.ip) (.slice a2 l2 c2) /\ Rd w 0 (intsT X.ho) (.slice a3 l3 c3) /\ Rd w 0 (intsT X.wd) (.slice a4 l4 c4) /\ Rd w 0 (boolsT X.co) (.slice a1' l1 c1') /\ Rd w 0 (boolsT X.ip) (.slice a2' l2 c2') /\ Rd w 0 (intsT X.ho) (.slice a3' l3 c3') /\ Rd w 0 (intsT X.wd) (.slice a4' l4 c4')) := ⟨r1, r2, r3, r4, r1', r2', r3', r4'⟩
 have G0 : Hid (Below w.heap.size w W /\ Blk W w.heap.size 100 (xdL X a1 l1 c1 a2 l2 c2 a3 l3 c3 a4 l4 c4).toArray /\ Blk W (w.heap.size + 1) 100 (xdL X a1' l1 c1' a2' l2 c2' a3' l3 c3' a4' l4 c4').toArray) := ⟨by rw [hW]; exact bel_nx (bel_alloc _ _) (bel_alloc _ _), by rw [hW]; exact (Blk.new w _ _).below (bel_alloc _ _), by rw [hW]; have := Blk.new (w.alloc (.cells (xdL X a1 l1 c1 a2 l2 c2 a3 l3 c3 a4 l4 c4).toArray 100)) (xdL X a1' l1 c1' a2' l2 c2' a3' l3 c3' a4' l4 c4').toArray 100; simpa using this⟩
 clear hz r1 r2 r3 r4 r1' r2' r3' r4'
 go_enter Try.func64, Try.ntmps64
 go_upto_region 1 with fail
 rw [<- hW]
 clear hW
 obtain ⟨⟨y0, y1, y2, y3⟩, yf⟩ := G0.out.2.1.tc4
 obtain ⟨⟨z0, z1, z2, z3⟩, zf⟩ := G0.out.2.2.tc4
 clear yf zf
 go_wp2_with fail
 refine (eqBoolS_t X.co a1 l1 c1 a1' c1' _ (HR.out.1.below G0.out.1) (HR.out.2.2.2.2.1.below G0.out.1) HZ.out.1).mono ?_
 rintro e w1 ⟨rfl, hb1⟩
 have G1 : Hid (Below w.heap.size w w1 /\ Blk w1 w.heap.size 100 (xdL X a1 l1 c1 a2 l2 c2 a3 l3 c3 a4 l4 c4).toArray /\ Blk w1 (w.heap.size + 1) 100 (xdL X a1' l1 c1' a2' l2 c2' a3' l3 c3' a4' l4 c4').toArray) := ⟨bel_nx G0.out.1 hb1, G0.out.2.1.below hb1, G0.out.2.2.below hb1⟩
 clear hb1 y0 y1 y2 y3 z0 z1 z2 z3
 obtain ⟨⟨y0, y1, y2, y3⟩, yf⟩ := G1.out.2.1.tc4
 obtain ⟨⟨z0, z1, z2, z3⟩, zf⟩ := G1.out.2.2.tc4
 clear yf zf
 go_wp2_with fail
 refine (eqBoolS_t X.ip a2 l2 c2 a2' c2' _ (HR.out.2.1.below G1.out.1) (HR.out.2.2.2.2.2.1.below G1.out.1) HZ.out.2.1).mono ?_
 rintro e w2 ⟨rfl, hb2⟩
 have G2 : Hid (Below w.heap.size w w2 /\ Blk w2 w.heap.size 100 (xdL X a1 l1 c1 a2 l2 c2 a3 l3 c3 a4 l4 c4).toArray /\ Blk w2 (w.heap.size + 1) 100 (xdL X a1' l1 c1' a2' l2 c2' a3' l3 c3' a4' l4 c4').toArray) := ⟨bel_nx G1.out.1 hb2, G1.out.2.1.below hb2, G1.out.2.2.below hb2⟩
 clear hb2 y0 y1 y2 y3 z0 z1 z2 z3
 obtain ⟨⟨y0, y1, y2, y3⟩, yf⟩ := G2.out.2.1.tc4
 obtain ⟨⟨z0, z1, z2, z3⟩, zf⟩ := G2.out.2.2.tc4
 clear yf zf
 go_wp2_with fail
 refine (eqIntS_t X.ho a3 l3 c3 a3' c3' _ (HR.out.2.2.1.below G2.out.1) (HR.out.2.2.2.2.2.2.1.below G2.out.1) HZ.out.2.2.1).mono ?_
 rintro e w3 ⟨rfl, hb3⟩
 have G3 : Hid (Below w.heap.size w w3 /\ Blk w3 w.heap.size 100 (xdL X a1 l1 c1 a2 l2 c2 a3 l3 c3 a4 l4 c4).toArray /\ Blk w3 (w.heap.size + 1) 100 (xdL X a1' l1 c1' a2' l2 c2' a3' l3 c3' a4' l4 c4').toArray) := ⟨bel_nx G2.out.1 hb3, G2.out.2.1.below hb3, G2.out.2.2.below hb3⟩
 clear hb3 y0 y1 y2 y3 z0 z1 z2 z3
 obtain ⟨⟨y0, y1, y2, y3⟩, yf⟩ := G3.out.2.1.tc4
 obtain ⟨⟨z0, z1, z2, z3⟩, zf⟩ := G3.out.2.2.tc4
 clear yf zf
 go_wp2_with fail
 refine (eqIntS_t X.wd a4 l4 c4 a4' c4' _ (HR.out.2.2.2.1.below G3.out.1) (HR.out.2.2.2.2.2.2.2.below G3.out.1) HZ.out.2.2.2).mono ?_
 rintro e w4 ⟨rfl, hb4⟩
 have G4 : Hid (Below w.heap.size w w4 /\ Blk w4 w.heap.size 100 (xdL X a1 l1 c1 a2 l2 c2 a3 l3 c3 a4 l4 c4).toArray /\ Blk w4 (w.heap.size + 1) 100 (xdL X a1' l1 c1' a2' l2 c2' a3' l3 c3' a4' l4 c4').toArray) := ⟨bel_nx G3.out.1 hb4, G3.out.2.1.below hb4, G3.out.2.2.below hb4⟩
 clear hb4 y0 y1 y2 y3 z0 z1 z2 z3
 go_wp2
 go_ret
 exact ⟨rfl, G4.out.1⟩
theorem eqPost_t (X : VS) (a1 : Option Addr) (l1 c1 : Nat) (a2 : Option Addr) (l2 c2 : Nat) (a3 : Option Addr) (l3 c3 : Nat) (a4 : Option Addr) (l4 c4 : Nat) (a1' : Option Addr) (c1' : Nat) (a2' : Option Addr) (c2' : Nat) (a3' : Option Addr) (c3' : Nat) (a4' : Option Addr) (c4' : Nat) (w : World) (r1 : Rd w 0 (boolsT X.d.co) (.slice a1 l1 c1)) (r2 : Rd w 0 (boolsT X.d.ip) (.slice a2 l2 c2)) (r3 : Rd w 0 (intsT X.d.ho) (.slice a3 l3 c3)) (r4 : Rd w 0 (intsT X.d.wd) (.slice a4 l4 c4)) (r1' : Rd w 0 (boolsT X.d.co) (.slice a1' l1 c1')) (r2' : Rd w 0 (boolsT X.d.ip) (.slice a2' l2 c2')) (r3' : Rd w 0 (intsT X.d.ho) (.slice a3' l3 c3')) (r4' : Rd w 0 (intsT X.d.wd) (.slice a4' l4 c4')) (hz : szT 6 (trs (xsT X)) <= 1048576) :
 Calls Try.prog 41 #[.agg (xsL X a1 l1 c1 a2 l2 c2 a3 l3 c3 a4 l4 c4).toArray, .agg (xsL X a1' l1 c1' a2' l2 c2' a3' l3 c3' a4' l4 c4').toArray] w fun e w' => e = .returned (.bool true) /\ Below w.heap.size w w' := by
 obtain ⟨W, hW⟩ : ∃ W, W = (w.alloc (.cells (xsL X a1 l1 c1 a2 l2 c2 a3 l3 c3 a4 l4 c4).toArray 102)).alloc (.cells (xsL X a1' l1 c1' a2' l2 c2' a3' l3 c3' a4' l4 c4').toArray 102) := ⟨_, rfl⟩
 have HZ : Hid (szT 4 (trs (xdT X.d)) <= 1048576) := by
  rw [szT_xs] at hz
  show szT 4 (trs (xdT X.d)) <= 1048576
  try simp only [szT_q, szT_a, szT_p, szT_d, szT_t, szT_xr, szT_xc, szT_xl, szT_xn, szT_xf, szT_xd, szT_xs, szT_xk, szT_xy, szT_xe, szT_xw, true_and]
  omega
 have HR : Hid (Rd w 0 (boolsT X.d.co) (.slice a1 l1 c1) /\ Rd w 0 (boolsT X.d.ip) (.slice a2 l2 c2) /\ Rd w 0 (intsT X.d.ho) (.slice a3 l3 c3) /\ Rd w 0 (intsT X.d.wd) (.slice a4 l4 c4) /\ Rd w 0 (boolsT X.d.co) (.slice a1' l1 c1') /\ Rd w 0 (boolsT X.d.ip) (.slice a2' l2 c2') /\ Rd w 0 (intsT X.d.ho) (.slice a3' l3 c3') /\ Rd w 0 (intsT X.d.wd) (.slice a4' l4 c4')) := ⟨r1, r2, r3, r4, r1', r2', r3', r4'⟩
 have G0 : Hid (Below w.heap.size w W /\ Blk W w.heap.size 102 (xsL X a1 l1 c1 a2 l2 c2 a3 l3 c3 a4 l4 c4).toArray /\ Blk W (w.heap.size + 1) 102 (xsL X a1' l1 c1' a2' l2 c2' a3' l3 c3' a4' l4 c4').toArray) := ⟨by rw [hW]; exact bel_nx (bel_alloc _ _) (bel_alloc _ _), by rw [hW]; exact (Blk.new w _ _).below (bel_alloc _ _), by rw [hW]; have := Blk.new (w.alloc (.cells (xsL X a1 l1 c1 a2 l2 c2 a3 l3 c3 a4 l4 c4).toArray 102)) (xsL X a1' l1 c1' a2' l2 c2' a3' l3 c3' a4' l4 c4').toArray 102; simpa using this⟩
 clear hz r1 r2 r3 r4 r1' r2' r3' r4'
 go_enter Try.func41, Try.ntmps41
 go_upto_region 1 with fail
 rw [<- hW]
 clear hW
 obtain ⟨⟨y0, y1, y2, y3, y4, y5⟩, yf⟩ := G0.out.2.1.tc6
 obtain ⟨⟨z0, z1, z2, z3, z4, z5⟩, zf⟩ := G0.out.2.2.tc6
 clear yf zf
 go_wp2_with fail
 refine (eqDevice_t X.d a1 l1 c1 a2 l2 c2 a3 l3 c3 a4 l4 c4 a1' c1' a2' c2' a3' c3' a4' c4' _ (HR.out.1.below G0.out.1) (HR.out.2.1.below G0.out.1) (HR.out.2.2.1.below G0.out.1) (HR.out.2.2.2.1.below G0.out.1) (HR.out.2.2.2.2.1.below G0.out.1) (HR.out.2.2.2.2.2.1.below G0.out.1) (HR.out.2.2.2.2.2.2.1.below G0.out.1) (HR.out.2.2.2.2.2.2.2.below G0.out.1) HZ.out).mono ?_
 rintro e w1 ⟨rfl, hb1⟩
 have G1 : Hid (Below w.heap.size w w1 /\ Blk w1 w.heap.size 102 (xsL X a1 l1 c1 a2 l2 c2 a3 l3 c3 a4 l4 c4).toArray /\ Blk w1 (w.heap.size + 1) 102 (xsL X a1' l1 c1' a2' l2 c2' a3' l3 c3' a4' l4 c4').toArray) := ⟨bel_nx G0.out.1 hb1, G0.out.2.1.below hb1, G0.out.2.2.below hb1⟩
 clear hb1 y0 y1 y2 y3 y4 y5 z0 z1 z2 z3 z4 z5
 go_wp2
 go_ret
 exact ⟨rfl, G1.out.1⟩
theorem eqPostS_t (n : Nat) (f : Nat -> VS) (a : Option Addr) (n' cap : Nat) (a' : Option Addr) (cap' : Nat) (w : World) (hs : Rd w 0 (.list 6 n (fun k => trs (xsT (f k)))) (.slice a n' cap)) (hs' : Rd w 0 (.list 6 n (fun k => trs (xsT (f k)))) (.slice a' n' cap')) (hz : (Tr.list 6 n (fun k => trs (xsT (f k)))).sz <= 1048576) :
 Calls Try.prog 20 #[.slice a n' cap, .slice a' n' cap'] w fun e w' => e = .returned (.bool true) /\ Below w.heap.size w w' := by
 obtain ⟨a9, c9, h9, -, hn⟩ := hs.shape
 simp only [Value.slice.injEq] at h9
 obtain ⟨-, rfl, -⟩ := h9
 clear a9 c9 hn
 have hn1 : n' <= 1048576 := by rw [Tr.sz_list] at hz; omega
 have HZ : Hid (∀ k, k < n' -> szT 6 (trs (xsT (f k))) <= 1048576) := by
  show ∀ k, k < n' -> szT 6 (trs (xsT (f k))) <= 1048576
  intro k hk
  rw [Tr.sz_list] at hz
  have := sumN_at (fun k => szT 6 (trs (xsT (f k)))) hk
  omega
 have HS : Hid (Rd w 0 (.list 6 n' (fun k => trs (xsT (f k)))) (.slice a n' cap) /\ Rd w 0 (.list 6 n' (fun k => trs (xsT (f k)))) (.slice a' n' cap')) := ⟨hs, hs'⟩
 clear hs hs' hz
 go_enter Try.func20, Try.ntmps20
 go_wp2
 go_loopw [5] (fun i wr => ∃ z : Nat, z <= n' /\ i = .int .i64 z /\ Below w.heap.size w wr) (fun i _ => n' - (intOf i).toNat)
 case atStart => exact ⟨0, Nat.zero_le _, rfl, Below.refl _ _⟩
 case round =>
  obtain ⟨k, hk, rfl, hbl⟩ := hrel
  by_cases hlt : k < n'
  ·have hi : (k : Int) < (n' : Int) := by omega
   obtain ⟨b, off, vs, rfl, _, hb0, hlen, hr, hrd⟩ := (HS.out.1.below hbl).at hlt
   obtain ⟨a1, c1, a2, c2, a3, c3, a4, c4, rfl, r1, r2, r3, r4⟩ := VS.cells hrd hlen
   clear hlen hrd hb0
   obtain ⟨b', off', vs, rfl, _, hb0, hlen, hr', hrd⟩ := (HS.out.2.below hbl).at hlt
   obtain ⟨a1', c1', a2', c2', a3', c3', a4', c4', rfl, r1', r2', r3', r4'⟩ := VS.cells hrd hlen
   clear hlen hrd hb0
   have d09 : wr.cell? ⟨b, off + k * 6, none⟩ = _ := hr 0 _ rfl
   have e09 : wr.cell? ⟨b', off' + k * 6, none⟩ = _ := hr' 0 _ rfl
   have d19 : wr.cell? ⟨b, off + k * 6 + 1, none⟩ = _ := hr 1 _ rfl
   have e19 : wr.cell? ⟨b', off' + k * 6 + 1, none⟩ = _ := hr' 1 _ rfl
   have d29 : wr.cell? ⟨b, off + k * 6 + 2, none⟩ = _ := hr 2 _ rfl
   have e29 : wr.cell? ⟨b', off' + k * 6 + 2, none⟩ = _ := hr' 2 _ rfl
   have d39 : wr.cell? ⟨b, off + k * 6 + 3, none⟩ = _ := hr 3 _ rfl
   have e39 : wr.cell? ⟨b', off' + k * 6 + 3, none⟩ = _ := hr' 3 _ rfl
   have d49 : wr.cell? ⟨b, off + k * 6 + 4, none⟩ = _ := hr 4 _ rfl
   have e49 : wr.cell? ⟨b', off' + k * 6 + 4, none⟩ = _ := hr' 4 _ rfl
   have d59 : wr.cell? ⟨b, off + k * 6 + 5, none⟩ = _ := hr 5 _ rfl
   have e59 : wr.cell? ⟨b', off' + k * 6 + 5, none⟩ = _ := hr' 5 _ rfl
   have HC := hide (fun u (hu : Below wr.heap.size wr u) => (eqPost_t (f k) a1 ((f k).d.co.length) c1 a2 ((f k).d.ip.length) c2 a3 ((f k).d.ho.length) c3 a4 ((f k).d.wd.length) c4 a1' c1' a2' c2' a3' c3' a4' c4' u (r1.below hu) (r2.below hu) (r3.below hu) (r4.below hu) (r1'.below hu) (r2'.below hu) (r3'.below hu) (r4'.below hu) (HZ.out k hlt)).mono (fun e w1 h => (⟨h.1, bel_nx hu h.2⟩ : e = .returned (.bool true) /\ Below wr.heap.size wr w1)))
   have HB := hide hbl
   clear r1 r2 r3 r4 r1' r2' r3' r4' hr hr' hbl
   go_wp2_with fail
   go_region_with (go_at_call 41; refine (HC.out _ (by first | exact Below.refl _ _ | exact (Below.refl _ _).drew | exact (Below.refl _ _).drew.drew)).mono ?_; rintro e w1 ⟨rfl, b1⟩)
   all_goals (
    have B1 := bel_nx HB.out b1
    clear HC HB b1 d09 e09 d19 e19 d29 e29 d39 e39 d49 e49 d59 e59
    go_wp2
    go_roundw
    case rel => exact ⟨k + 1, by omega, by go_num, B1⟩
    case measure => simp [intOf]; omega)
  have hi : ¬ (k : Int) < (n' : Int) := by omega
  go_wp2
  go_ret
  exact ⟨rfl, hbl⟩
theorem eqPacket_t (X : VK) (a1 : Option Addr) (l1 c1 : Nat) (a2 : Option Addr) (l2 c2 : Nat) (a3 : Option Addr) (l3 c3 : Nat) (a4 : Option Addr) (l4 c4 : Nat) (a1' : Option Addr) (c1' : Nat) (a2' : Option Addr) (c2' : Nat) (a3' : Option Addr) (c3' : Nat) (a4' : Option Addr) (c4' : Nat) (w : World) (r1 : Rd w 0 (intsT X.q.ws) (.slice a1 l1 c1)) (r2 : Rd w 0 (boolsT X.q.bs) (.slice a2 l2 c2)) (r3 : Rd w 0 (intsT X.a.ws) (.slice a3 l3 c3)) (r4 : Rd w 0 (boolsT X.a.bs) (.slice a4 l4 c4)) (r1' : Rd w 0 (intsT X.q.ws) (.slice a1' l1 c1')) (r2' : Rd w 0 (boolsT X.q.bs) (.slice a2' l2 c2')) (r3' : Rd w 0 (intsT X.a.ws) (.slice a3' l3 c3')) (r4' : Rd w 0 (boolsT X.a.bs) (.slice a4' l4 c4')) (hz : szT 16 (trs (xkT X)) <= 1048576) :
 Calls Try.prog 42 #[.agg (xkL X a1 l1 c1 a2 l2 c2 a3 l3 c3 a4 l4 c4).toArray, .agg (xkL X a1' l1 c1' a2' l2 c2' a3' l3 c3' a4' l4 c4').toArray] w fun e w' => e = .returned (.bool true) /\ Below w.heap.size w w' := by
 obtain ⟨W, hW⟩ : ∃ W, W = (w.alloc (.cells (xkL X a1 l1 c1 a2 l2 c2 a3 l3 c3 a4 l4 c4).toArray 107)).alloc (.cells (xkL X a1' l1 c1' a2' l2 c2' a3' l3 c3' a4' l4 c4').toArray 107) := ⟨_, rfl⟩
 have HZ : Hid (szT 6 (trs (qT X.q)) <= 1048576 /\ szT 6 (trs (aT X.a)) <= 1048576) := by
  rw [szT_xk] at hz
  show szT 6 (trs (qT X.q)) <= 1048576 /\ szT 6 (trs (aT X.a)) <= 1048576
  try simp only [szT_q, szT_a, szT_p, szT_d, szT_t, szT_xr, szT_xc, szT_xl, szT_xn, szT_xf, szT_xd, szT_xs, szT_xk, szT_xy, szT_xe, szT_xw, true_and]
  omega
 have HR : Hid (Rd w 0 (intsT X.q.ws) (.slice a1 l1 c1) /\ Rd w 0 (boolsT X.q.bs) (.slice a2 l2 c2) /\ Rd w 0 (intsT X.a.ws) (.slice a3 l3 c3) /\ Rd w 0 (boolsT X.a.bs) (.slice a4 l4 c4) /\ Rd w 0 (intsT X.q.ws) (.slice a1' l1 c1') /\ Rd w 0 (boolsT X.q.bs) (.slice a2' l2 c2') /\ Rd w 0 (intsT X.a.ws) (.slice a3' l3 c3') /\ Rd w 0 (boolsT X.a.bs) (.slice a4' l4 c4')) := ⟨r1, r2, r3, r4, r1', r2', r3', r4'⟩
 have G0 : Hid (Below w.heap.size w W /\ Blk W w.heap.size 107 (xkL X a1 l1 c1 a2 l2 c2 a3 l3 c3 a4 l4 c4).toArray /\ Blk W (w.heap.size + 1) 107 (xkL X a1' l1 c1' a2' l2 c2' a3' l3 c3' a4' l4 c4').toArray) := ⟨by rw [hW]; exact bel_nx (bel_alloc _ _) (bel_alloc _ _), by rw [hW]; exact (Blk.new w _ _).below (bel_alloc _ _), by rw [hW]; have := Blk.new (w.alloc (.cells (xkL X a1 l1 c1 a2 l2 c2 a3 l3 c3 a4 l4 c4).toArray 107)) (xkL X a1' l1 c1' a2' l2 c2' a3' l3 c3' a4' l4 c4').toArray 107; simpa using this⟩
 clear hz r1 r2 r3 r4 r1' r2' r3' r4'
 go_enter Try.func42, Try.ntmps42
 go_upto_region 1 with fail
 rw [<- hW]
 clear hW
 obtain ⟨⟨y0, y1, y2, y3, y4, y5, y6, y7, y8, y9, y10, y11, y12, y13, y14, y15⟩, yf⟩ := G0.out.2.1.tc16
 obtain ⟨⟨z0, z1, z2, z3, z4, z5, z6, z7, z8, z9, z10, z11, z12, z13, z14, z15⟩, zf⟩ := G0.out.2.2.tc16
 clear yf zf
 go_wp2_with fail
 refine (eqReq_t X.q a1 l1 c1 a2 l2 c2 a1' c1' a2' c2' _ (HR.out.1.below G0.out.1) (HR.out.2.1.below G0.out.1) (HR.out.2.2.2.2.1.below G0.out.1) (HR.out.2.2.2.2.2.1.below G0.out.1) HZ.out.1).mono ?_
 rintro e w1 ⟨rfl, hb1⟩
 have G1 : Hid (Below w.heap.size w w1 /\ Blk w1 w.heap.size 107 (xkL X a1 l1 c1 a2 l2 c2 a3 l3 c3 a4 l4 c4).toArray /\ Blk w1 (w.heap.size + 1) 107 (xkL X a1' l1 c1' a2' l2 c2' a3' l3 c3' a4' l4 c4').toArray) := ⟨bel_nx G0.out.1 hb1, G0.out.2.1.below hb1, G0.out.2.2.below hb1⟩
 clear hb1 y0 y1 y2 y3 y4 y5 y6 y7 y8 y9 y10 y11 y12 y13 y14 y15 z0 z1 z2 z3 z4 z5 z6 z7 z8 z9 z10 z11 z12 z13 z14 z15
 obtain ⟨⟨y0, y1, y2, y3, y4, y5, y6, y7, y8, y9, y10, y11, y12, y13, y14, y15⟩, yf⟩ := G1.out.2.1.tc16
 obtain ⟨⟨z0, z1, z2, z3, z4, z5, z6, z7, z8, z9, z10, z11, z12, z13, z14, z15⟩, zf⟩ := G1.out.2.2.tc16
 clear yf zf
 go_wp2_with fail
 refine (eqResp_t X.a a3 l3 c3 a4 l4 c4 a3' c3' a4' c4' _ (HR.out.2.2.1.below G1.out.1) (HR.out.2.2.2.1.below G1.out.1) (HR.out.2.2.2.2.2.2.1.below G1.out.1) (HR.out.2.2.2.2.2.2.2.below G1.out.1) HZ.out.2).mono ?_
 rintro e w2 ⟨rfl, hb2⟩
 have G2 : Hid (Below w.heap.size w w2 /\ Blk w2 w.heap.size 107 (xkL X a1 l1 c1 a2 l2 c2 a3 l3 c3 a4 l4 c4).toArray /\ Blk w2 (w.heap.size + 1) 107 (xkL X a1' l1 c1' a2' l2 c2' a3' l3 c3' a4' l4 c4').toArray) := ⟨bel_nx G1.out.1 hb2, G1.out.2.1.below hb2, G1.out.2.2.below hb2⟩
 clear hb2 y0 y1 y2 y3 y4 y5 y6 y7 y8 y9 y10 y11 y12 y13 y14 y15 z0 z1 z2 z3 z4 z5 z6 z7 z8 z9 z10 z11 z12 z13 z14 z15
 go_wp2
 go_ret
 exact ⟨rfl, G2.out.1⟩
theorem eqPacketS_t (n : Nat) (f : Nat -> VK) (a : Option Addr) (n' cap : Nat) (a' : Option Addr) (cap' : Nat) (w : World) (hs : Rd w 0 (.list 16 n (fun k => trs (xkT (f k)))) (.slice a n' cap)) (hs' : Rd w 0 (.list 16 n (fun k => trs (xkT (f k)))) (.slice a' n' cap')) (hz : (Tr.list 16 n (fun k => trs (xkT (f k)))).sz <= 1048576) :
 Calls Try.prog 21 #[.slice a n' cap, .slice a' n' cap'] w fun e w' => e = .returned (.bool true) /\ Below w.heap.size w w' := by
 obtain ⟨a9, c9, h9, -, hn⟩ := hs.shape
 simp only [Value.slice.injEq] at h9
 obtain ⟨-, rfl, -⟩ := h9
 clear a9 c9 hn
 have hn1 : n' <= 1048576 := by rw [Tr.sz_list] at hz; omega
 have HZ : Hid (∀ k, k < n' -> szT 16 (trs (xkT (f k))) <= 1048576) := by
  show ∀ k, k < n' -> szT 16 (trs (xkT (f k))) <= 1048576
  intro k hk
  rw [Tr.sz_list] at hz
  have := sumN_at (fun k => szT 16 (trs (xkT (f k)))) hk
  omega
 have HS : Hid (Rd w 0 (.list 16 n' (fun k => trs (xkT (f k)))) (.slice a n' cap) /\ Rd w 0 (.list 16 n' (fun k => trs (xkT (f k)))) (.slice a' n' cap')) := ⟨hs, hs'⟩
 clear hs hs' hz
 go_enter Try.func21, Try.ntmps21
 go_wp2
 go_loopw [5] (fun i wr => ∃ z : Nat, z <= n' /\ i = .int .i64 z /\ Below w.heap.size w wr) (fun i _ => n' - (intOf i).toNat)
 case atStart => exact ⟨0, Nat.zero_le _, rfl, Below.refl _ _⟩
 case round =>
  obtain ⟨k, hk, rfl, hbl⟩ := hrel
  by_cases hlt : k < n'
  ·have hi : (k : Int) < (n' : Int) := by omega
   obtain ⟨b, off, vs, rfl, _, hb0, hlen, hr, hrd⟩ := (HS.out.1.below hbl).at hlt
   obtain ⟨a1, c1, a2, c2, a3, c3, a4, c4, rfl, r1, r2, r3, r4⟩ := VK.cells hrd hlen
   clear hlen hrd hb0
   obtain ⟨b', off', vs, rfl, _, hb0, hlen, hr', hrd⟩ := (HS.out.2.below hbl).at hlt
   obtain ⟨a1', c1', a2', c2', a3', c3', a4', c4', rfl, r1', r2', r3', r4'⟩ := VK.cells hrd hlen
   clear hlen hrd hb0
   have d09 : wr.cell? ⟨b, off + k * 16, none⟩ = _ := hr 0 _ rfl
   have e09 : wr.cell? ⟨b', off' + k * 16, none⟩ = _ := hr' 0 _ rfl
   have d19 : wr.cell? ⟨b, off + k * 16 + 1, none⟩ = _ := hr 1 _ rfl
   have e19 : wr.cell? ⟨b', off' + k * 16 + 1, none⟩ = _ := hr' 1 _ rfl
   have d29 : wr.cell? ⟨b, off + k * 16 + 2, none⟩ = _ := hr 2 _ rfl
   have e29 : wr.cell? ⟨b', off' + k * 16 + 2, none⟩ = _ := hr' 2 _ rfl
   have d39 : wr.cell? ⟨b, off + k * 16 + 3, none⟩ = _ := hr 3 _ rfl
   have e39 : wr.cell? ⟨b', off' + k * 16 + 3, none⟩ = _ := hr' 3 _ rfl
   have d49 : wr.cell? ⟨b, off + k * 16 + 4, none⟩ = _ := hr 4 _ rfl
   have e49 : wr.cell? ⟨b', off' + k * 16 + 4, none⟩ = _ := hr' 4 _ rfl
   have d59 : wr.cell? ⟨b, off + k * 16 + 5, none⟩ = _ := hr 5 _ rfl
   have e59 : wr.cell? ⟨b', off' + k * 16 + 5, none⟩ = _ := hr' 5 _ rfl
   have d69 : wr.cell? ⟨b, off + k * 16 + 6, none⟩ = _ := hr 6 _ rfl
   have e69 : wr.cell? ⟨b', off' + k * 16 + 6, none⟩ = _ := hr' 6 _ rfl
   have d79 : wr.cell? ⟨b, off + k * 16 + 7, none⟩ = _ := hr 7 _ rfl
   have e79 : wr.cell? ⟨b', off' + k * 16 + 7, none⟩ = _ := hr' 7 _ rfl
   have d89 : wr.cell? ⟨b, off + k * 16 + 8, none⟩ = _ := hr 8 _ rfl
   have e89 : wr.cell? ⟨b', off' + k * 16 + 8, none⟩ = _ := hr' 8 _ rfl
   have d99 : wr.cell? ⟨b, off + k * 16 + 9, none⟩ = _ := hr 9 _ rfl
   have e99 : wr.cell? ⟨b', off' + k * 16 + 9, none⟩ = _ := hr' 9 _ rfl
   have d109 : wr.cell? ⟨b, off + k * 16 + 10, none⟩ = _ := hr 10 _ rfl
   have e109 : wr.cell? ⟨b', off' + k * 16 + 10, none⟩ = _ := hr' 10 _ rfl
   have d119 : wr.cell? ⟨b, off + k * 16 + 11, none⟩ = _ := hr 11 _ rfl
   have e119 : wr.cell? ⟨b', off' + k * 16 + 11, none⟩ = _ := hr' 11 _ rfl
   have d129 : wr.cell? ⟨b, off + k * 16 + 12, none⟩ = _ := hr 12 _ rfl
   have e129 : wr.cell? ⟨b', off' + k * 16 + 12, none⟩ = _ := hr' 12 _ rfl
   have d139 : wr.cell? ⟨b, off + k * 16 + 13, none⟩ = _ := hr 13 _ rfl
   have e139 : wr.cell? ⟨b', off' + k * 16 + 13, none⟩ = _ := hr' 13 _ rfl
   have d149 : wr.cell? ⟨b, off + k * 16 + 14, none⟩ = _ := hr 14 _ rfl
   have e149 : wr.cell? ⟨b', off' + k * 16 + 14, none⟩ = _ := hr' 14 _ rfl
   have d159 : wr.cell? ⟨b, off + k * 16 + 15, none⟩ = _ := hr 15 _ rfl
   have e159 : wr.cell? ⟨b', off' + k * 16 + 15, none⟩ = _ := hr' 15 _ rfl
   have HC := hide (fun u (hu : Below wr.heap.size wr u) => (eqPacket_t (f k) a1 ((f k).q.ws.length) c1 a2 ((f k).q.bs.length) c2 a3 ((f k).a.ws.length) c3 a4 ((f k).a.bs.length) c4 a1' c1' a2' c2' a3' c3' a4' c4' u (r1.below hu) (r2.below hu) (r3.below hu) (r4.below hu) (r1'.below hu) (r2'.below hu) (r3'.below hu) (r4'.below hu) (HZ.out k hlt)).mono (fun e w1 h => (⟨h.1, bel_nx hu h.2⟩ : e = .returned (.bool true) /\ Below wr.heap.size wr w1)))
   have HB := hide hbl
   clear r1 r2 r3 r4 r1' r2' r3' r4' hr hr' hbl
   go_wp2_with fail
   go_region_with (go_at_call 42; refine (HC.out _ (by first | exact Below.refl _ _ | exact (Below.refl _ _).drew | exact (Below.refl _ _).drew.drew)).mono ?_; rintro e w1 ⟨rfl, b1⟩)
   all_goals (
    have B1 := bel_nx HB.out b1
    clear HC HB b1 d09 e09 d19 e19 d29 e29 d39 e39 d49 e49 d59 e59 d69 e69 d79 e79 d89 e89 d99 e99 d109 e109 d119 e119 d129 e129 d139 e139 d149 e149 d159 e159
    go_wp2
    go_roundw
    case rel => exact ⟨k + 1, by omega, by go_num, B1⟩
    case measure => simp [intOf]; omega)
  have hi : ¬ (k : Int) < (n' : Int) := by omega
  go_wp2
  go_ret
  exact ⟨rfl, hbl⟩
theorem eqReply_t (X : VR) (a1 : Option Addr) (l1 c1 : Nat) (a2 : Option Addr) (l2 c2 : Nat) (a3 : Option Addr) (l3 c3 : Nat) (a4 : Option Addr) (l4 c4 : Nat) (a5 : Option Addr) (l5 c5 : Nat) (a6 : Option Addr) (l6 c6 : Nat) (a1' : Option Addr) (c1' : Nat) (a2' : Option Addr) (c2' : Nat) (a3' : Option Addr) (c3' : Nat) (a4' : Option Addr) (c4' : Nat) (a5' : Option Addr) (c5' : Nat) (a6' : Option Addr) (c6' : Nat) (w : World) (r1 : Rd w 0 (intsT X.q.ws) (.slice a1 l1 c1)) (r2 : Rd w 0 (boolsT X.q.bs) (.slice a2 l2 c2)) (r3 : Rd w 0 (.list 8 X.np (fun i => trs (pT (X.pt i)))) (.slice a3 l3 c3)) (r4 : Rd w 0 (.list 6 X.nt (fun i => trs (aT (X.tl i)))) (.slice a4 l4 c4)) (r5 : Rd w 0 (intsT X.a.ws) (.slice a5 l5 c5)) (r6 : Rd w 0 (boolsT X.a.bs) (.slice a6 l6 c6)) (r1' : Rd w 0 (intsT X.q.ws) (.slice a1' l1 c1')) (r2' : Rd w 0 (boolsT X.q.bs) (.slice a2' l2 c2')) (r3' : Rd w 0 (.list 8 X.np (fun i => trs (pT (X.pt i)))) (.slice a3' l3 c3')) (r4' : Rd w 0 (.list 6 X.nt (fun i => trs (aT (X.tl i)))) (.slice a4' l4 c4')) (r5' : Rd w 0 (intsT X.a.ws) (.slice a5' l5 c5')) (r6' : Rd w 0 (boolsT X.a.bs) (.slice a6' l6 c6')) (hz : szT 16 (trs (xyT X)) <= 1048576) :
 Calls Try.prog 43 #[.agg (xyL X a1 l1 c1 a2 l2 c2 a3 l3 c3 a4 l4 c4 a5 l5 c5 a6 l6 c6).toArray, .agg (xyL X a1' l1 c1' a2' l2 c2' a3' l3 c3' a4' l4 c4' a5' l5 c5' a6' l6 c6').toArray] w fun e w' => e = .returned (.bool true) /\ Below w.heap.size w w' := by
 obtain ⟨W, hW⟩ : ∃ W, W = (w.alloc (.cells (xyL X a1 l1 c1 a2 l2 c2 a3 l3 c3 a4 l4 c4 a5 l5 c5 a6 l6 c6).toArray 112)).alloc (.cells (xyL X a1' l1 c1' a2' l2 c2' a3' l3 c3' a4' l4 c4' a5' l5 c5' a6' l6 c6').toArray 112) := ⟨_, rfl⟩
 have HZ : Hid (szT 6 (trs (qT X.q)) <= 1048576 /\ (Tr.list 8 X.np (fun i => trs (pT (X.pt i)))).sz <= 1048576 /\ (Tr.list 6 X.nt (fun i => trs (aT (X.tl i)))).sz <= 1048576 /\ szT 6 (trs (aT X.a)) <= 1048576) := by
  rw [szT_xy] at hz
  show szT 6 (trs (qT X.q)) <= 1048576 /\ (Tr.list 8 X.np (fun i => trs (pT (X.pt i)))).sz <= 1048576 /\ (Tr.list 6 X.nt (fun i => trs (aT (X.tl i)))).sz <= 1048576 /\ szT 6 (trs (aT X.a)) <= 1048576
  try simp only [szT_q, szT_a, szT_p, szT_d, szT_t, szT_xr, szT_xc, szT_xl, szT_xn, szT_xf, szT_xd, szT_xs, szT_xk, szT_xy, szT_xe, szT_xw, true_and]
  omega
 have HR : Hid (Rd w 0 (intsT X.q.ws) (.slice a1 l1 c1) /\ Rd w 0 (boolsT X.q.bs) (.slice a2 l2 c2) /\ Rd w 0 (.list 8 X.np (fun i => trs (pT (X.pt i)))) (.slice a3 l3 c3) /\ Rd w 0 (.list 6 X.nt (fun i => trs (aT (X.tl i)))) (.slice a4 l4 c4) /\ Rd w 0 (intsT X.a.ws) (.slice a5 l5 c5) /\ Rd w 0 (boolsT X.a.bs) (.slice a6 l6 c6) /\ Rd w 0 (intsT X.q.ws) (.slice a1' l1 c1') /\ Rd w 0 (boolsT X.q.bs) (.slice a2' l2 c2') /\ Rd w 0 (.list 8 X.np (fun i => trs (pT (X.pt i)))) (.slice a3' l3 c3') /\ Rd w 0 (.list 6 X.nt (fun i => trs (aT (X.tl i)))) (.slice a4' l4 c4') /\ Rd w 0 (intsT X.a.ws) (.slice a5' l5 c5') /\ Rd w 0 (boolsT X.a.bs) (.slice a6' l6 c6')) := ⟨r1, r2, r3, r4, r5, r6, r1', r2', r3', r4', r5', r6'⟩
 have G0 : Hid (Below w.heap.size w W /\ Blk W w.heap.size 112 (xyL X a1 l1 c1 a2 l2 c2 a3 l3 c3 a4 l4 c4 a5 l5 c5 a6 l6 c6).toArray /\ Blk W (w.heap.size + 1) 112 (xyL X a1' l1 c1' a2' l2 c2' a3' l3 c3' a4' l4 c4' a5' l5 c5' a6' l6 c6').toArray) := ⟨by rw [hW]; exact bel_nx (bel_alloc _ _) (bel_alloc _ _), by rw [hW]; exact (Blk.new w _ _).below (bel_alloc _ _), by rw [hW]; have := Blk.new (w.alloc (.cells (xyL X a1 l1 c1 a2 l2 c2 a3 l3 c3 a4 l4 c4 a5 l5 c5 a6 l6 c6).toArray 112)) (xyL X a1' l1 c1' a2' l2 c2' a3' l3 c3' a4' l4 c4' a5' l5 c5' a6' l6 c6').toArray 112; simpa using this⟩
 clear hz r1 r2 r3 r4 r5 r6 r1' r2' r3' r4' r5' r6'
 go_enter Try.func43, Try.ntmps43
 go_upto_region 1 with fail
 rw [<- hW]
 clear hW
 obtain ⟨⟨y0, y1, y2, y3, y4, y5, y6, y7, y8, y9, y10, y11, y12, y13, y14, y15⟩, yf⟩ := G0.out.2.1.tc16
 obtain ⟨⟨z0, z1, z2, z3, z4, z5, z6, z7, z8, z9, z10, z11, z12, z13, z14, z15⟩, zf⟩ := G0.out.2.2.tc16
 clear yf zf
 go_wp2_with fail
 refine (eqReq_t X.q a1 l1 c1 a2 l2 c2 a1' c1' a2' c2' _ (HR.out.1.below G0.out.1) (HR.out.2.1.below G0.out.1) (HR.out.2.2.2.2.2.2.1.below G0.out.1) (HR.out.2.2.2.2.2.2.2.1.below G0.out.1) HZ.out.1).mono ?_
 rintro e w1 ⟨rfl, hb1⟩
 have G1 : Hid (Below w.heap.size w w1 /\ Blk w1 w.heap.size 112 (xyL X a1 l1 c1 a2 l2 c2 a3 l3 c3 a4 l4 c4 a5 l5 c5 a6 l6 c6).toArray /\ Blk w1 (w.heap.size + 1) 112 (xyL X a1' l1 c1' a2' l2 c2' a3' l3 c3' a4' l4 c4' a5' l5 c5' a6' l6 c6').toArray) := ⟨bel_nx G0.out.1 hb1, G0.out.2.1.below hb1, G0.out.2.2.below hb1⟩
 clear hb1 y0 y1 y2 y3 y4 y5 y6 y7 y8 y9 y10 y11 y12 y13 y14 y15 z0 z1 z2 z3 z4 z5 z6 z7 z8 z9 z10 z11 z12 z13 z14 z15
 obtain ⟨⟨y0, y1, y2, y3, y4, y5, y6, y7, y8, y9, y10, y11, y12, y13, y14, y15⟩, yf⟩ := G1.out.2.1.tc16
 obtain ⟨⟨z0, z1, z2, z3, z4, z5, z6, z7, z8, z9, z10, z11, z12, z13, z14, z15⟩, zf⟩ := G1.out.2.2.tc16
 clear yf zf
 go_wp2_with fail
 refine (eqPartS_t X.np X.pt a3 l3 c3 a3' c3' _ (HR.out.2.2.1.below G1.out.1) (HR.out.2.2.2.2.2.2.2.2.1.below G1.out.1) HZ.out.2.1).mono ?_
 rintro e w2 ⟨rfl, hb2⟩
 have G2 : Hid (Below w.heap.size w w2 /\ Blk w2 w.heap.size 112 (xyL X a1 l1 c1 a2 l2 c2 a3 l3 c3 a4 l4 c4 a5 l5 c5 a6 l6 c6).toArray /\ Blk w2 (w.heap.size + 1) 112 (xyL X a1' l1 c1' a2' l2 c2' a3' l3 c3' a4' l4 c4' a5' l5 c5' a6' l6 c6').toArray) := ⟨bel_nx G1.out.1 hb2, G1.out.2.1.below hb2, G1.out.2.2.below hb2⟩
 clear hb2 y0 y1 y2 y3 y4 y5 y6 y7 y8 y9 y10 y11 y12 y13 y14 y15 z0 z1 z2 z3 z4 z5 z6 z7 z8 z9 z10 z11 z12 z13 z14 z15
 obtain ⟨⟨y0, y1, y2, y3, y4, y5, y6, y7, y8, y9, y10, y11, y12, y13, y14, y15⟩, yf⟩ := G2.out.2.1.tc16
 obtain ⟨⟨z0, z1, z2, z3, z4, z5, z6, z7, z8, z9, z10, z11, z12, z13, z14, z15⟩, zf⟩ := G2.out.2.2.tc16
 clear yf zf
 go_wp2_with fail
 refine (eqRespS_t X.nt X.tl a4 l4 c4 a4' c4' _ (HR.out.2.2.2.1.below G2.out.1) (HR.out.2.2.2.2.2.2.2.2.2.1.below G2.out.1) HZ.out.2.2.1).mono ?_
 rintro e w3 ⟨rfl, hb3⟩
 have G3 : Hid (Below w.heap.size w w3 /\ Blk w3 w.heap.size 112 (xyL X a1 l1 c1 a2 l2 c2 a3 l3 c3 a4 l4 c4 a5 l5 c5 a6 l6 c6).toArray /\ Blk w3 (w.heap.size + 1) 112 (xyL X a1' l1 c1' a2' l2 c2' a3' l3 c3' a4' l4 c4' a5' l5 c5' a6' l6 c6').toArray) := ⟨bel_nx G2.out.1 hb3, G2.out.2.1.below hb3, G2.out.2.2.below hb3⟩
 clear hb3 y0 y1 y2 y3 y4 y5 y6 y7 y8 y9 y10 y11 y12 y13 y14 y15 z0 z1 z2 z3 z4 z5 z6 z7 z8 z9 z10 z11 z12 z13 z14 z15
 obtain ⟨⟨y0, y1, y2, y3, y4, y5, y6, y7, y8, y9, y10, y11, y12, y13, y14, y15⟩, yf⟩ := G3.out.2.1.tc16
 obtain ⟨⟨z0, z1, z2, z3, z4, z5, z6, z7, z8, z9, z10, z11, z12, z13, z14, z15⟩, zf⟩ := G3.out.2.2.tc16
 clear yf zf
 go_wp2_with fail
 refine (eqResp_t X.a a5 l5 c5 a6 l6 c6 a5' c5' a6' c6' _ (HR.out.2.2.2.2.1.below G3.out.1) (HR.out.2.2.2.2.2.1.below G3.out.1) (HR.out.2.2.2.2.2.2.2.2.2.2.1.below G3.out.1) (HR.out.2.2.2.2.2.2.2.2.2.2.2.below G3.out.1) HZ.out.2.2.2).mono ?_
 rintro e w4 ⟨rfl, hb4⟩
 have G4 : Hid (Below w.heap.size w w4 /\ Blk w4 w.heap.size 112 (xyL X a1 l1 c1 a2 l2 c2 a3 l3 c3 a4 l4 c4 a5 l5 c5 a6 l6 c6).toArray /\ Blk w4 (w.heap.size + 1) 112 (xyL X a1' l1 c1' a2' l2 c2' a3' l3 c3' a4' l4 c4' a5' l5 c5' a6' l6 c6').toArray) := ⟨bel_nx G3.out.1 hb4, G3.out.2.1.below hb4, G3.out.2.2.below hb4⟩
 clear hb4 y0 y1 y2 y3 y4 y5 y6 y7 y8 y9 y10 y11 y12 y13 y14 y15 z0 z1 z2 z3 z4 z5 z6 z7 z8 z9 z10 z11 z12 z13 z14 z15
 go_wp2
 go_ret
 exact ⟨rfl, G4.out.1⟩
theorem eqReplyS_t (n : Nat) (f : Nat -> VR) (a : Option Addr) (n' cap : Nat) (a' : Option Addr) (cap' : Nat) (w : World) (hs : Rd w 0 (.list 16 n (fun k => trs (xyT (f k)))) (.slice a n' cap)) (hs' : Rd w 0 (.list 16 n (fun k => trs (xyT (f k)))) (.slice a' n' cap')) (hz : (Tr.list 16 n (fun k => trs (xyT (f k)))).sz <= 1048576) :
 Calls Try.prog 22 #[.slice a n' cap, .slice a' n' cap'] w fun e w' => e = .returned (.bool true) /\ Below w.heap.size w w' := by
 obtain ⟨a9, c9, h9, -, hn⟩ := hs.shape
 simp only [Value.slice.injEq] at h9
 obtain ⟨-, rfl, -⟩ := h9
 clear a9 c9 hn
 have hn1 : n' <= 1048576 := by rw [Tr.sz_list] at hz; omega
 have HZ : Hid (∀ k, k < n' -> szT 16 (trs (xyT (f k))) <= 1048576) := by
  show ∀ k, k < n' -> szT 16 (trs (xyT (f k))) <= 1048576
  intro k hk
  rw [Tr.sz_list] at hz
  have := sumN_at (fun k => szT 16 (trs (xyT (f k)))) hk
  omega
 have HS : Hid (Rd w 0 (.list 16 n' (fun k => trs (xyT (f k)))) (.slice a n' cap) /\ Rd w 0 (.list 16 n' (fun k => trs (xyT (f k)))) (.slice a' n' cap')) := ⟨hs, hs'⟩
 clear hs hs' hz
 go_enter Try.func22, Try.ntmps22
 go_wp2
 go_loopw [5] (fun i wr => ∃ z : Nat, z <= n' /\ i = .int .i64 z /\ Below w.heap.size w wr) (fun i _ => n' - (intOf i).toNat)
 case atStart => exact ⟨0, Nat.zero_le _, rfl, Below.refl _ _⟩
 case round =>
  obtain ⟨k, hk, rfl, hbl⟩ := hrel
  by_cases hlt : k < n'
  ·have hi : (k : Int) < (n' : Int) := by omega
   obtain ⟨b, off, vs, rfl, _, hb0, hlen, hr, hrd⟩ := (HS.out.1.below hbl).at hlt
   obtain ⟨a1, c1, a2, c2, a3, c3, a4, c4, a5, c5, a6, c6, rfl, r1, r2, r3, r4, r5, r6⟩ := VR.cells hrd hlen
   clear hlen hrd hb0
   obtain ⟨b', off', vs, rfl, _, hb0, hlen, hr', hrd⟩ := (HS.out.2.below hbl).at hlt
   obtain ⟨a1', c1', a2', c2', a3', c3', a4', c4', a5', c5', a6', c6', rfl, r1', r2', r3', r4', r5', r6'⟩ := VR.cells hrd hlen
   clear hlen hrd hb0
   have d09 : wr.cell? ⟨b, off + k * 16, none⟩ = _ := hr 0 _ rfl
   have e09 : wr.cell? ⟨b', off' + k * 16, none⟩ = _ := hr' 0 _ rfl
   have d19 : wr.cell? ⟨b, off + k * 16 + 1, none⟩ = _ := hr 1 _ rfl
   have e19 : wr.cell? ⟨b', off' + k * 16 + 1, none⟩ = _ := hr' 1 _ rfl
   have d29 : wr.cell? ⟨b, off + k * 16 + 2, none⟩ = _ := hr 2 _ rfl
   have e29 : wr.cell? ⟨b', off' + k * 16 + 2, none⟩ = _ := hr' 2 _ rfl
   have d39 : wr.cell? ⟨b, off + k * 16 + 3, none⟩ = _ := hr 3 _ rfl
   have e39 : wr.cell? ⟨b', off' + k * 16 + 3, none⟩ = _ := hr' 3 _ rfl
   have d49 : wr.cell? ⟨b, off + k * 16 + 4, none⟩ = _ := hr 4 _ rfl
   have e49 : wr.cell? ⟨b', off' + k * 16 + 4, none⟩ = _ := hr' 4 _ rfl
   have d59 : wr.cell? ⟨b, off + k * 16 + 5, none⟩ = _ := hr 5 _ rfl
   have e59 : wr.cell? ⟨b', off' + k * 16 + 5, none⟩ = _ := hr' 5 _ rfl
   have d69 : wr.cell? ⟨b, off + k * 16 + 6, none⟩ = _ := hr 6 _ rfl
   have e69 : wr.cell? ⟨b', off' + k * 16 + 6, none⟩ = _ := hr' 6 _ rfl
   have d79 : wr.cell? ⟨b, off + k * 16 + 7, none⟩ = _ := hr 7 _ rfl
   have e79 : wr.cell? ⟨b', off' + k * 16 + 7, none⟩ = _ := hr' 7 _ rfl
   have d89 : wr.cell? ⟨b, off + k * 16 + 8, none⟩ = _ := hr 8 _ rfl
   have e89 : wr.cell? ⟨b', off' + k * 16 + 8, none⟩ = _ := hr' 8 _ rfl
   have d99 : wr.cell? ⟨b, off + k * 16 + 9, none⟩ = _ := hr 9 _ rfl
   have e99 : wr.cell? ⟨b', off' + k * 16 + 9, none⟩ = _ := hr' 9 _ rfl
   have d109 : wr.cell? ⟨b, off + k * 16 + 10, none⟩ = _ := hr 10 _ rfl
   have e109 : wr.cell? ⟨b', off' + k * 16 + 10, none⟩ = _ := hr' 10 _ rfl
   have d119 : wr.cell? ⟨b, off + k * 16 + 11, none⟩ = _ := hr 11 _ rfl
   have e119 : wr.cell? ⟨b', off' + k * 16 + 11, none⟩ = _ := hr' 11 _ rfl
   have d129 : wr.cell? ⟨b, off + k * 16 + 12, none⟩ = _ := hr 12 _ rfl
   have e129 : wr.cell? ⟨b', off' + k * 16 + 12, none⟩ = _ := hr' 12 _ rfl
   have d139 : wr.cell? ⟨b, off + k * 16 + 13, none⟩ = _ := hr 13 _ rfl
   have e139 : wr.cell? ⟨b', off' + k * 16 + 13, none⟩ = _ := hr' 13 _ rfl
   have d149 : wr.cell? ⟨b, off + k * 16 + 14, none⟩ = _ := hr 14 _ rfl
   have e149 : wr.cell? ⟨b', off' + k * 16 + 14, none⟩ = _ := hr' 14 _ rfl
   have d159 : wr.cell? ⟨b, off + k * 16 + 15, none⟩ = _ := hr 15 _ rfl
   have e159 : wr.cell? ⟨b', off' + k * 16 + 15, none⟩ = _ := hr' 15 _ rfl
   have HC := hide (fun u (hu : Below wr.heap.size wr u) => (eqReply_t (f k) a1 ((f k).q.ws.length) c1 a2 ((f k).q.bs.length) c2 a3 ((f k).np) c3 a4 ((f k).nt) c4 a5 ((f k).a.ws.length) c5 a6 ((f k).a.bs.length) c6 a1' c1' a2' c2' a3' c3' a4' c4' a5' c5' a6' c6' u (r1.below hu) (r2.below hu) (r3.below hu) (r4.below hu) (r5.below hu) (r6.below hu) (r1'.below hu) (r2'.below hu) (r3'.below hu) (r4'.below hu) (r5'.below hu) (r6'.below hu) (HZ.out k hlt)).mono (fun e w1 h => (⟨h.1, bel_nx hu h.2⟩ : e = .returned (.bool true) /\ Below wr.heap.size wr w1)))
   have HB := hide hbl
   clear r1 r2 r3 r4 r5 r6 r1' r2' r3' r4' r5' r6' hr hr' hbl
   go_wp2_with fail
   go_region_with (go_at_call 43; refine (HC.out _ (by first | exact Below.refl _ _ | exact (Below.refl _ _).drew | exact (Below.refl _ _).drew.drew)).mono ?_; rintro e w1 ⟨rfl, b1⟩)
   all_goals (
    have B1 := bel_nx HB.out b1
    clear HC HB b1 d09 e09 d19 e19 d29 e29 d39 e39 d49 e49 d59 e59 d69 e69 d79 e79 d89 e89 d99 e99 d109 e109 d119 e119 d129 e129 d139 e139 d149 e149 d159 e159
    go_wp2
    go_roundw
    case rel => exact ⟨k + 1, by omega, by go_num, B1⟩
    case measure => simp [intOf]; omega)
  have hi : ¬ (k : Int) < (n' : Int) := by omega
  go_wp2
  go_ret
  exact ⟨rfl, hbl⟩
theorem eqServed_t (X : VE) (a1 : Option Addr) (l1 c1 : Nat) (a2 : Option Addr) (l2 c2 : Nat) (a3 : Option Addr) (l3 c3 : Nat) (a4 : Option Addr) (l4 c4 : Nat) (a1' : Option Addr) (c1' : Nat) (a2' : Option Addr) (c2' : Nat) (a3' : Option Addr) (c3' : Nat) (a4' : Option Addr) (c4' : Nat) (w : World) (r1 : Rd w 0 (intsT X.q.ws) (.slice a1 l1 c1)) (r2 : Rd w 0 (boolsT X.q.bs) (.slice a2 l2 c2)) (r3 : Rd w 0 (intsT X.a.ws) (.slice a3 l3 c3)) (r4 : Rd w 0 (boolsT X.a.bs) (.slice a4 l4 c4)) (r1' : Rd w 0 (intsT X.q.ws) (.slice a1' l1 c1')) (r2' : Rd w 0 (boolsT X.q.bs) (.slice a2' l2 c2')) (r3' : Rd w 0 (intsT X.a.ws) (.slice a3' l3 c3')) (r4' : Rd w 0 (boolsT X.a.bs) (.slice a4' l4 c4')) (hz : szT 15 (trs (xeT X)) <= 1048576) :
 Calls Try.prog 44 #[.agg (xeL X a1 l1 c1 a2 l2 c2 a3 l3 c3 a4 l4 c4).toArray, .agg (xeL X a1' l1 c1' a2' l2 c2' a3' l3 c3' a4' l4 c4').toArray] w fun e w' => e = .returned (.bool true) /\ Below w.heap.size w w' := by
 obtain ⟨W, hW⟩ : ∃ W, W = (w.alloc (.cells (xeL X a1 l1 c1 a2 l2 c2 a3 l3 c3 a4 l4 c4).toArray 115)).alloc (.cells (xeL X a1' l1 c1' a2' l2 c2' a3' l3 c3' a4' l4 c4').toArray 115) := ⟨_, rfl⟩
 have HZ : Hid (szT 6 (trs (qT X.q)) <= 1048576 /\ szT 6 (trs (aT X.a)) <= 1048576) := by
  rw [szT_xe] at hz
  show szT 6 (trs (qT X.q)) <= 1048576 /\ szT 6 (trs (aT X.a)) <= 1048576
  try simp only [szT_q, szT_a, szT_p, szT_d, szT_t, szT_xr, szT_xc, szT_xl, szT_xn, szT_xf, szT_xd, szT_xs, szT_xk, szT_xy, szT_xe, szT_xw, true_and]
  omega
 have HR : Hid (Rd w 0 (intsT X.q.ws) (.slice a1 l1 c1) /\ Rd w 0 (boolsT X.q.bs) (.slice a2 l2 c2) /\ Rd w 0 (intsT X.a.ws) (.slice a3 l3 c3) /\ Rd w 0 (boolsT X.a.bs) (.slice a4 l4 c4) /\ Rd w 0 (intsT X.q.ws) (.slice a1' l1 c1') /\ Rd w 0 (boolsT X.q.bs) (.slice a2' l2 c2') /\ Rd w 0 (intsT X.a.ws) (.slice a3' l3 c3') /\ Rd w 0 (boolsT X.a.bs) (.slice a4' l4 c4')) := ⟨r1, r2, r3, r4, r1', r2', r3', r4'⟩
 have G0 : Hid (Below w.heap.size w W /\ Blk W w.heap.size 115 (xeL X a1 l1 c1 a2 l2 c2 a3 l3 c3 a4 l4 c4).toArray /\ Blk W (w.heap.size + 1) 115 (xeL X a1' l1 c1' a2' l2 c2' a3' l3 c3' a4' l4 c4').toArray) := ⟨by rw [hW]; exact bel_nx (bel_alloc _ _) (bel_alloc _ _), by rw [hW]; exact (Blk.new w _ _).below (bel_alloc _ _), by rw [hW]; have := Blk.new (w.alloc (.cells (xeL X a1 l1 c1 a2 l2 c2 a3 l3 c3 a4 l4 c4).toArray 115)) (xeL X a1' l1 c1' a2' l2 c2' a3' l3 c3' a4' l4 c4').toArray 115; simpa using this⟩
 clear hz r1 r2 r3 r4 r1' r2' r3' r4'
 go_enter Try.func44, Try.ntmps44
 go_upto_region 1 with fail
 rw [<- hW]
 clear hW
 obtain ⟨⟨y0, y1, y2, y3, y4, y5, y6, y7, y8, y9, y10, y11, y12, y13, y14⟩, yf⟩ := G0.out.2.1.tc15
 obtain ⟨⟨z0, z1, z2, z3, z4, z5, z6, z7, z8, z9, z10, z11, z12, z13, z14⟩, zf⟩ := G0.out.2.2.tc15
 clear yf zf
 go_wp2_with fail
 refine (eqReq_t X.q a1 l1 c1 a2 l2 c2 a1' c1' a2' c2' _ (HR.out.1.below G0.out.1) (HR.out.2.1.below G0.out.1) (HR.out.2.2.2.2.1.below G0.out.1) (HR.out.2.2.2.2.2.1.below G0.out.1) HZ.out.1).mono ?_
 rintro e w1 ⟨rfl, hb1⟩
 have G1 : Hid (Below w.heap.size w w1 /\ Blk w1 w.heap.size 115 (xeL X a1 l1 c1 a2 l2 c2 a3 l3 c3 a4 l4 c4).toArray /\ Blk w1 (w.heap.size + 1) 115 (xeL X a1' l1 c1' a2' l2 c2' a3' l3 c3' a4' l4 c4').toArray) := ⟨bel_nx G0.out.1 hb1, G0.out.2.1.below hb1, G0.out.2.2.below hb1⟩
 clear hb1 y0 y1 y2 y3 y4 y5 y6 y7 y8 y9 y10 y11 y12 y13 y14 z0 z1 z2 z3 z4 z5 z6 z7 z8 z9 z10 z11 z12 z13 z14
 obtain ⟨⟨y0, y1, y2, y3, y4, y5, y6, y7, y8, y9, y10, y11, y12, y13, y14⟩, yf⟩ := G1.out.2.1.tc15
 obtain ⟨⟨z0, z1, z2, z3, z4, z5, z6, z7, z8, z9, z10, z11, z12, z13, z14⟩, zf⟩ := G1.out.2.2.tc15
 clear yf zf
 go_wp2_with fail
 refine (eqResp_t X.a a3 l3 c3 a4 l4 c4 a3' c3' a4' c4' _ (HR.out.2.2.1.below G1.out.1) (HR.out.2.2.2.1.below G1.out.1) (HR.out.2.2.2.2.2.2.1.below G1.out.1) (HR.out.2.2.2.2.2.2.2.below G1.out.1) HZ.out.2).mono ?_
 rintro e w2 ⟨rfl, hb2⟩
 have G2 : Hid (Below w.heap.size w w2 /\ Blk w2 w.heap.size 115 (xeL X a1 l1 c1 a2 l2 c2 a3 l3 c3 a4 l4 c4).toArray /\ Blk w2 (w.heap.size + 1) 115 (xeL X a1' l1 c1' a2' l2 c2' a3' l3 c3' a4' l4 c4').toArray) := ⟨bel_nx G1.out.1 hb2, G1.out.2.1.below hb2, G1.out.2.2.below hb2⟩
 clear hb2 y0 y1 y2 y3 y4 y5 y6 y7 y8 y9 y10 y11 y12 y13 y14 z0 z1 z2 z3 z4 z5 z6 z7 z8 z9 z10 z11 z12 z13 z14
 go_wp2
 go_ret
 exact ⟨rfl, G2.out.1⟩
theorem eqServedS_t (n : Nat) (f : Nat -> VE) (a : Option Addr) (n' cap : Nat) (a' : Option Addr) (cap' : Nat) (w : World) (hs : Rd w 0 (.list 15 n (fun k => trs (xeT (f k)))) (.slice a n' cap)) (hs' : Rd w 0 (.list 15 n (fun k => trs (xeT (f k)))) (.slice a' n' cap')) (hz : (Tr.list 15 n (fun k => trs (xeT (f k)))).sz <= 1048576) :
 Calls Try.prog 23 #[.slice a n' cap, .slice a' n' cap'] w fun e w' => e = .returned (.bool true) /\ Below w.heap.size w w' := by
 obtain ⟨a9, c9, h9, -, hn⟩ := hs.shape
 simp only [Value.slice.injEq] at h9
 obtain ⟨-, rfl, -⟩ := h9
 clear a9 c9 hn
 have hn1 : n' <= 1048576 := by rw [Tr.sz_list] at hz; omega
 have HZ : Hid (∀ k, k < n' -> szT 15 (trs (xeT (f k))) <= 1048576) := by
  show ∀ k, k < n' -> szT 15 (trs (xeT (f k))) <= 1048576
  intro k hk
  rw [Tr.sz_list] at hz
  have := sumN_at (fun k => szT 15 (trs (xeT (f k)))) hk
  omega
 have HS : Hid (Rd w 0 (.list 15 n' (fun k => trs (xeT (f k)))) (.slice a n' cap) /\ Rd w 0 (.list 15 n' (fun k => trs (xeT (f k)))) (.slice a' n' cap')) := ⟨hs, hs'⟩
 clear hs hs' hz
 go_enter Try.func23, Try.ntmps23
 go_wp2
 go_loopw [5] (fun i wr => ∃ z : Nat, z <= n' /\ i = .int .i64 z /\ Below w.heap.size w wr) (fun i _ => n' - (intOf i).toNat)
 case atStart => exact ⟨0, Nat.zero_le _, rfl, Below.refl _ _⟩
 case round =>
  obtain ⟨k, hk, rfl, hbl⟩ := hrel
  by_cases hlt : k < n'
  ·have hi : (k : Int) < (n' : Int) := by omega
   obtain ⟨b, off, vs, rfl, _, hb0, hlen, hr, hrd⟩ := (HS.out.1.below hbl).at hlt
   obtain ⟨a1, c1, a2, c2, a3, c3, a4, c4, rfl, r1, r2, r3, r4⟩ := VE.cells hrd hlen
   clear hlen hrd hb0
   obtain ⟨b', off', vs, rfl, _, hb0, hlen, hr', hrd⟩ := (HS.out.2.below hbl).at hlt
   obtain ⟨a1', c1', a2', c2', a3', c3', a4', c4', rfl, r1', r2', r3', r4'⟩ := VE.cells hrd hlen
   clear hlen hrd hb0
   have d09 : wr.cell? ⟨b, off + k * 15, none⟩ = _ := hr 0 _ rfl
   have e09 : wr.cell? ⟨b', off' + k * 15, none⟩ = _ := hr' 0 _ rfl
   have d19 : wr.cell? ⟨b, off + k * 15 + 1, none⟩ = _ := hr 1 _ rfl
   have e19 : wr.cell? ⟨b', off' + k * 15 + 1, none⟩ = _ := hr' 1 _ rfl
   have d29 : wr.cell? ⟨b, off + k * 15 + 2, none⟩ = _ := hr 2 _ rfl
   have e29 : wr.cell? ⟨b', off' + k * 15 + 2, none⟩ = _ := hr' 2 _ rfl
   have d39 : wr.cell? ⟨b, off + k * 15 + 3, none⟩ = _ := hr 3 _ rfl
   have e39 : wr.cell? ⟨b', off' + k * 15 + 3, none⟩ = _ := hr' 3 _ rfl
   have d49 : wr.cell? ⟨b, off + k * 15 + 4, none⟩ = _ := hr 4 _ rfl
   have e49 : wr.cell? ⟨b', off' + k * 15 + 4, none⟩ = _ := hr' 4 _ rfl
   have d59 : wr.cell? ⟨b, off + k * 15 + 5, none⟩ = _ := hr 5 _ rfl
   have e59 : wr.cell? ⟨b', off' + k * 15 + 5, none⟩ = _ := hr' 5 _ rfl
   have d69 : wr.cell? ⟨b, off + k * 15 + 6, none⟩ = _ := hr 6 _ rfl
   have e69 : wr.cell? ⟨b', off' + k * 15 + 6, none⟩ = _ := hr' 6 _ rfl
   have d79 : wr.cell? ⟨b, off + k * 15 + 7, none⟩ = _ := hr 7 _ rfl
   have e79 : wr.cell? ⟨b', off' + k * 15 + 7, none⟩ = _ := hr' 7 _ rfl
   have d89 : wr.cell? ⟨b, off + k * 15 + 8, none⟩ = _ := hr 8 _ rfl
   have e89 : wr.cell? ⟨b', off' + k * 15 + 8, none⟩ = _ := hr' 8 _ rfl
   have d99 : wr.cell? ⟨b, off + k * 15 + 9, none⟩ = _ := hr 9 _ rfl
   have e99 : wr.cell? ⟨b', off' + k * 15 + 9, none⟩ = _ := hr' 9 _ rfl
   have d109 : wr.cell? ⟨b, off + k * 15 + 10, none⟩ = _ := hr 10 _ rfl
   have e109 : wr.cell? ⟨b', off' + k * 15 + 10, none⟩ = _ := hr' 10 _ rfl
   have d119 : wr.cell? ⟨b, off + k * 15 + 11, none⟩ = _ := hr 11 _ rfl
   have e119 : wr.cell? ⟨b', off' + k * 15 + 11, none⟩ = _ := hr' 11 _ rfl
   have d129 : wr.cell? ⟨b, off + k * 15 + 12, none⟩ = _ := hr 12 _ rfl
   have e129 : wr.cell? ⟨b', off' + k * 15 + 12, none⟩ = _ := hr' 12 _ rfl
   have d139 : wr.cell? ⟨b, off + k * 15 + 13, none⟩ = _ := hr 13 _ rfl
   have e139 : wr.cell? ⟨b', off' + k * 15 + 13, none⟩ = _ := hr' 13 _ rfl
   have d149 : wr.cell? ⟨b, off + k * 15 + 14, none⟩ = _ := hr 14 _ rfl
   have e149 : wr.cell? ⟨b', off' + k * 15 + 14, none⟩ = _ := hr' 14 _ rfl
   have HC := hide (fun u (hu : Below wr.heap.size wr u) => (eqServed_t (f k) a1 ((f k).q.ws.length) c1 a2 ((f k).q.bs.length) c2 a3 ((f k).a.ws.length) c3 a4 ((f k).a.bs.length) c4 a1' c1' a2' c2' a3' c3' a4' c4' u (r1.below hu) (r2.below hu) (r3.below hu) (r4.below hu) (r1'.below hu) (r2'.below hu) (r3'.below hu) (r4'.below hu) (HZ.out k hlt)).mono (fun e w1 h => (⟨h.1, bel_nx hu h.2⟩ : e = .returned (.bool true) /\ Below wr.heap.size wr w1)))
   have HB := hide hbl
   clear r1 r2 r3 r4 r1' r2' r3' r4' hr hr' hbl
   go_wp2_with fail
   go_region_with (go_at_call 44; refine (HC.out _ (by first | exact Below.refl _ _ | exact (Below.refl _ _).drew | exact (Below.refl _ _).drew.drew)).mono ?_; rintro e w1 ⟨rfl, b1⟩)
   all_goals (
    have B1 := bel_nx HB.out b1
    clear HC HB b1 d09 e09 d19 e19 d29 e29 d39 e39 d49 e49 d59 e59 d69 e69 d79 e79 d89 e89 d99 e99 d109 e109 d119 e119 d129 e129 d139 e139 d149 e149
    go_wp2
    go_roundw
    case rel => exact ⟨k + 1, by omega, by go_num, B1⟩
    case measure => simp [intOf]; omega)
  have hi : ¬ (k : Int) < (n' : Int) := by omega
  go_wp2
  go_ret
  exact ⟨rfl, hbl⟩
theorem eqWorld_t (X : VW) (a1 : Option Addr) (l1 c1 : Nat) (a2 : Option Addr) (l2 c2 : Nat) (a3 : Option Addr) (l3 c3 : Nat) (a4 : Option Addr) (l4 c4 : Nat) (a5 : Option Addr) (l5 c5 : Nat) (a6 : Option Addr) (l6 c6 : Nat) (a7 : Option Addr) (l7 c7 : Nat) (a1' : Option Addr) (c1' : Nat) (a2' : Option Addr) (c2' : Nat) (a3' : Option Addr) (c3' : Nat) (a4' : Option Addr) (c4' : Nat) (a5' : Option Addr) (c5' : Nat) (a6' : Option Addr) (c6' : Nat) (a7' : Option Addr) (c7' : Nat) (w : World) (r1 : Rd w 0 (.list 7 X.fb.set.n (fun i => trs (xrT (X.fb.set.f i)))) (.slice a1 l1 c1)) (r2 : Rd w 0 (.list 13 X.fb.op.m (fun i => trs (dT (X.fb.op.f i)))) (.slice a2 l2 c2)) (r3 : Rd w 0 (.list 17 X.fb.nl (fun i => trs (xnT (X.fb.lf i)))) (.slice a3 l3 c3)) (r4 : Rd w 0 (.list 6 X.ns (fun i => trs (xsT (X.sf i)))) (.slice a4 l4 c4)) (r5 : Rd w 0 (.list 16 X.nk (fun i => trs (xkT (X.kf i)))) (.slice a5 l5 c5)) (r6 : Rd w 0 (.list 16 X.nr (fun i => trs (xyT (X.rf i)))) (.slice a6 l6 c6)) (r7 : Rd w 0 (.list 15 X.ne (fun i => trs (xeT (X.ef i)))) (.slice a7 l7 c7)) (r1' : Rd w 0 (.list 7 X.fb.set.n (fun i => trs (xrT (X.fb.set.f i)))) (.slice a1' l1 c1')) (r2' : Rd w 0 (.list 13 X.fb.op.m (fun i => trs (dT (X.fb.op.f i)))) (.slice a2' l2 c2')) (r3' : Rd w 0 (.list 17 X.fb.nl (fun i => trs (xnT (X.fb.lf i)))) (.slice a3' l3 c3')) (r4' : Rd w 0 (.list 6 X.ns (fun i => trs (xsT (X.sf i)))) (.slice a4' l4 c4')) (r5' : Rd w 0 (.list 16 X.nk (fun i => trs (xkT (X.kf i)))) (.slice a5' l5 c5')) (r6' : Rd w 0 (.list 16 X.nr (fun i => trs (xyT (X.rf i)))) (.slice a6' l6 c6')) (r7' : Rd w 0 (.list 15 X.ne (fun i => trs (xeT (X.ef i)))) (.slice a7' l7 c7')) (hz : szT 15 (trs (xwT X)) <= 1048576) :
 Calls Try.prog 8 #[.agg (xwL X a1 l1 c1 a2 l2 c2 a3 l3 c3 a4 l4 c4 a5 l5 c5 a6 l6 c6 a7 l7 c7).toArray, .agg (xwL X a1' l1 c1' a2' l2 c2' a3' l3 c3' a4' l4 c4' a5' l5 c5' a6' l6 c6' a7' l7 c7').toArray] w fun e w' => e = .returned (.bool true) /\ Below w.heap.size w w' := by
 obtain ⟨W, hW⟩ : ∃ W, W = (w.alloc (.cells (xwL X a1 l1 c1 a2 l2 c2 a3 l3 c3 a4 l4 c4 a5 l5 c5 a6 l6 c6 a7 l7 c7).toArray 53)).alloc (.cells (xwL X a1' l1 c1' a2' l2 c2' a3' l3 c3' a4' l4 c4' a5' l5 c5' a6' l6 c6' a7' l7 c7').toArray 53) := ⟨_, rfl⟩
 have HZ : Hid (szT 11 (trs (xfT X.fb)) <= 1048576 /\ (Tr.list 6 X.ns (fun i => trs (xsT (X.sf i)))).sz <= 1048576 /\ (Tr.list 16 X.nk (fun i => trs (xkT (X.kf i)))).sz <= 1048576 /\ (Tr.list 16 X.nr (fun i => trs (xyT (X.rf i)))).sz <= 1048576 /\ (Tr.list 15 X.ne (fun i => trs (xeT (X.ef i)))).sz <= 1048576) := by
  rw [szT_xw] at hz
  show szT 11 (trs (xfT X.fb)) <= 1048576 /\ (Tr.list 6 X.ns (fun i => trs (xsT (X.sf i)))).sz <= 1048576 /\ (Tr.list 16 X.nk (fun i => trs (xkT (X.kf i)))).sz <= 1048576 /\ (Tr.list 16 X.nr (fun i => trs (xyT (X.rf i)))).sz <= 1048576 /\ (Tr.list 15 X.ne (fun i => trs (xeT (X.ef i)))).sz <= 1048576
  try simp only [szT_q, szT_a, szT_p, szT_d, szT_t, szT_xr, szT_xc, szT_xl, szT_xn, szT_xf, szT_xd, szT_xs, szT_xk, szT_xy, szT_xe, szT_xw, true_and]
  omega
 have HR : Hid (Rd w 0 (.list 7 X.fb.set.n (fun i => trs (xrT (X.fb.set.f i)))) (.slice a1 l1 c1) /\ Rd w 0 (.list 13 X.fb.op.m (fun i => trs (dT (X.fb.op.f i)))) (.slice a2 l2 c2) /\ Rd w 0 (.list 17 X.fb.nl (fun i => trs (xnT (X.fb.lf i)))) (.slice a3 l3 c3) /\ Rd w 0 (.list 6 X.ns (fun i => trs (xsT (X.sf i)))) (.slice a4 l4 c4) /\ Rd w 0 (.list 16 X.nk (fun i => trs (xkT (X.kf i)))) (.slice a5 l5 c5) /\ Rd w 0 (.list 16 X.nr (fun i => trs (xyT (X.rf i)))) (.slice a6 l6 c6) /\ Rd w 0 (.list 15 X.ne (fun i => trs (xeT (X.ef i)))) (.slice a7 l7 c7) /\ Rd w 0 (.list 7 X.fb.set.n (fun i => trs (xrT (X.fb.set.f i)))) (.slice a1' l1 c1') /\ Rd w 0 (.list 13 X.fb.op.m (fun i => trs (dT (X.fb.op.f i)))) (.slice a2' l2 c2') /\ Rd w 0 (.list 17 X.fb.nl (fun i => trs (xnT (X.fb.lf i)))) (.slice a3' l3 c3') /\ Rd w 0 (.list 6 X.ns (fun i => trs (xsT (X.sf i)))) (.slice a4' l4 c4') /\ Rd w 0 (.list 16 X.nk (fun i => trs (xkT (X.kf i)))) (.slice a5' l5 c5') /\ Rd w 0 (.list 16 X.nr (fun i => trs (xyT (X.rf i)))) (.slice a6' l6 c6') /\ Rd w 0 (.list 15 X.ne (fun i => trs (xeT (X.ef i)))) (.slice a7' l7 c7')) := ⟨r1, r2, r3, r4, r5, r6, r7, r1', r2', r3', r4', r5', r6', r7'⟩
 have G0 : Hid (Below w.heap.size w W /\ Blk W w.heap.size 53 (xwL X a1 l1 c1 a2 l2 c2 a3 l3 c3 a4 l4 c4 a5 l5 c5 a6 l6 c6 a7 l7 c7).toArray /\ Blk W (w.heap.size + 1) 53 (xwL X a1' l1 c1' a2' l2 c2' a3' l3 c3' a4' l4 c4' a5' l5 c5' a6' l6 c6' a7' l7 c7').toArray) := ⟨by rw [hW]; exact bel_nx (bel_alloc _ _) (bel_alloc _ _), by rw [hW]; exact (Blk.new w _ _).below (bel_alloc _ _), by rw [hW]; have := Blk.new (w.alloc (.cells (xwL X a1 l1 c1 a2 l2 c2 a3 l3 c3 a4 l4 c4 a5 l5 c5 a6 l6 c6 a7 l7 c7).toArray 53)) (xwL X a1' l1 c1' a2' l2 c2' a3' l3 c3' a4' l4 c4' a5' l5 c5' a6' l6 c6' a7' l7 c7').toArray 53; simpa using this⟩
 clear hz r1 r2 r3 r4 r5 r6 r7 r1' r2' r3' r4' r5' r6' r7'
 go_enter Try.func8, Try.ntmps8
 go_upto_region 1 with fail
 rw [<- hW]
 clear hW
 obtain ⟨⟨y0, y1, y2, y3, y4, y5, y6, y7, y8, y9, y10, y11, y12, y13, y14⟩, yf⟩ := G0.out.2.1.tc15
 obtain ⟨⟨z0, z1, z2, z3, z4, z5, z6, z7, z8, z9, z10, z11, z12, z13, z14⟩, zf⟩ := G0.out.2.2.tc15
 clear yf zf
 go_wp2_with fail
 refine (eqFabric_t X.fb a1 l1 c1 a2 l2 c2 a3 l3 c3 a1' c1' a2' c2' a3' c3' _ (HR.out.1.below G0.out.1) (HR.out.2.1.below G0.out.1) (HR.out.2.2.1.below G0.out.1) (HR.out.2.2.2.2.2.2.2.1.below G0.out.1) (HR.out.2.2.2.2.2.2.2.2.1.below G0.out.1) (HR.out.2.2.2.2.2.2.2.2.2.1.below G0.out.1) HZ.out.1).mono ?_
 rintro e w1 ⟨rfl, hb1⟩
 have G1 : Hid (Below w.heap.size w w1 /\ Blk w1 w.heap.size 53 (xwL X a1 l1 c1 a2 l2 c2 a3 l3 c3 a4 l4 c4 a5 l5 c5 a6 l6 c6 a7 l7 c7).toArray /\ Blk w1 (w.heap.size + 1) 53 (xwL X a1' l1 c1' a2' l2 c2' a3' l3 c3' a4' l4 c4' a5' l5 c5' a6' l6 c6' a7' l7 c7').toArray) := ⟨bel_nx G0.out.1 hb1, G0.out.2.1.below hb1, G0.out.2.2.below hb1⟩
 clear hb1 y0 y1 y2 y3 y4 y5 y6 y7 y8 y9 y10 y11 y12 y13 y14 z0 z1 z2 z3 z4 z5 z6 z7 z8 z9 z10 z11 z12 z13 z14
 obtain ⟨⟨y0, y1, y2, y3, y4, y5, y6, y7, y8, y9, y10, y11, y12, y13, y14⟩, yf⟩ := G1.out.2.1.tc15
 obtain ⟨⟨z0, z1, z2, z3, z4, z5, z6, z7, z8, z9, z10, z11, z12, z13, z14⟩, zf⟩ := G1.out.2.2.tc15
 clear yf zf
 go_wp2_with fail
 refine (eqPostS_t X.ns X.sf a4 l4 c4 a4' c4' _ (HR.out.2.2.2.1.below G1.out.1) (HR.out.2.2.2.2.2.2.2.2.2.2.1.below G1.out.1) HZ.out.2.1).mono ?_
 rintro e w2 ⟨rfl, hb2⟩
 have G2 : Hid (Below w.heap.size w w2 /\ Blk w2 w.heap.size 53 (xwL X a1 l1 c1 a2 l2 c2 a3 l3 c3 a4 l4 c4 a5 l5 c5 a6 l6 c6 a7 l7 c7).toArray /\ Blk w2 (w.heap.size + 1) 53 (xwL X a1' l1 c1' a2' l2 c2' a3' l3 c3' a4' l4 c4' a5' l5 c5' a6' l6 c6' a7' l7 c7').toArray) := ⟨bel_nx G1.out.1 hb2, G1.out.2.1.below hb2, G1.out.2.2.below hb2⟩
 clear hb2 y0 y1 y2 y3 y4 y5 y6 y7 y8 y9 y10 y11 y12 y13 y14 z0 z1 z2 z3 z4 z5 z6 z7 z8 z9 z10 z11 z12 z13 z14
 obtain ⟨⟨y0, y1, y2, y3, y4, y5, y6, y7, y8, y9, y10, y11, y12, y13, y14⟩, yf⟩ := G2.out.2.1.tc15
 obtain ⟨⟨z0, z1, z2, z3, z4, z5, z6, z7, z8, z9, z10, z11, z12, z13, z14⟩, zf⟩ := G2.out.2.2.tc15
 clear yf zf
 go_wp2_with fail
 refine (eqPacketS_t X.nk X.kf a5 l5 c5 a5' c5' _ (HR.out.2.2.2.2.1.below G2.out.1) (HR.out.2.2.2.2.2.2.2.2.2.2.2.1.below G2.out.1) HZ.out.2.2.1).mono ?_
 rintro e w3 ⟨rfl, hb3⟩
 have G3 : Hid (Below w.heap.size w w3 /\ Blk w3 w.heap.size 53 (xwL X a1 l1 c1 a2 l2 c2 a3 l3 c3 a4 l4 c4 a5 l5 c5 a6 l6 c6 a7 l7 c7).toArray /\ Blk w3 (w.heap.size + 1) 53 (xwL X a1' l1 c1' a2' l2 c2' a3' l3 c3' a4' l4 c4' a5' l5 c5' a6' l6 c6' a7' l7 c7').toArray) := ⟨bel_nx G2.out.1 hb3, G2.out.2.1.below hb3, G2.out.2.2.below hb3⟩
 clear hb3 y0 y1 y2 y3 y4 y5 y6 y7 y8 y9 y10 y11 y12 y13 y14 z0 z1 z2 z3 z4 z5 z6 z7 z8 z9 z10 z11 z12 z13 z14
 obtain ⟨⟨y0, y1, y2, y3, y4, y5, y6, y7, y8, y9, y10, y11, y12, y13, y14⟩, yf⟩ := G3.out.2.1.tc15
 obtain ⟨⟨z0, z1, z2, z3, z4, z5, z6, z7, z8, z9, z10, z11, z12, z13, z14⟩, zf⟩ := G3.out.2.2.tc15
 clear yf zf
 go_wp2_with fail
 refine (eqReplyS_t X.nr X.rf a6 l6 c6 a6' c6' _ (HR.out.2.2.2.2.2.1.below G3.out.1) (HR.out.2.2.2.2.2.2.2.2.2.2.2.2.1.below G3.out.1) HZ.out.2.2.2.1).mono ?_
 rintro e w4 ⟨rfl, hb4⟩
 have G4 : Hid (Below w.heap.size w w4 /\ Blk w4 w.heap.size 53 (xwL X a1 l1 c1 a2 l2 c2 a3 l3 c3 a4 l4 c4 a5 l5 c5 a6 l6 c6 a7 l7 c7).toArray /\ Blk w4 (w.heap.size + 1) 53 (xwL X a1' l1 c1' a2' l2 c2' a3' l3 c3' a4' l4 c4' a5' l5 c5' a6' l6 c6' a7' l7 c7').toArray) := ⟨bel_nx G3.out.1 hb4, G3.out.2.1.below hb4, G3.out.2.2.below hb4⟩
 clear hb4 y0 y1 y2 y3 y4 y5 y6 y7 y8 y9 y10 y11 y12 y13 y14 z0 z1 z2 z3 z4 z5 z6 z7 z8 z9 z10 z11 z12 z13 z14
 obtain ⟨⟨y0, y1, y2, y3, y4, y5, y6, y7, y8, y9, y10, y11, y12, y13, y14⟩, yf⟩ := G4.out.2.1.tc15
 obtain ⟨⟨z0, z1, z2, z3, z4, z5, z6, z7, z8, z9, z10, z11, z12, z13, z14⟩, zf⟩ := G4.out.2.2.tc15
 clear yf zf
 go_wp2_with fail
 refine (eqServedS_t X.ne X.ef a7 l7 c7 a7' c7' _ (HR.out.2.2.2.2.2.2.1.below G4.out.1) (HR.out.2.2.2.2.2.2.2.2.2.2.2.2.2.below G4.out.1) HZ.out.2.2.2.2).mono ?_
 rintro e w5 ⟨rfl, hb5⟩
 have G5 : Hid (Below w.heap.size w w5 /\ Blk w5 w.heap.size 53 (xwL X a1 l1 c1 a2 l2 c2 a3 l3 c3 a4 l4 c4 a5 l5 c5 a6 l6 c6 a7 l7 c7).toArray /\ Blk w5 (w.heap.size + 1) 53 (xwL X a1' l1 c1' a2' l2 c2' a3' l3 c3' a4' l4 c4' a5' l5 c5' a6' l6 c6' a7' l7 c7').toArray) := ⟨bel_nx G4.out.1 hb5, G4.out.2.1.below hb5, G4.out.2.2.below hb5⟩
 clear hb5 y0 y1 y2 y3 y4 y5 y6 y7 y8 y9 y10 y11 y12 y13 y14 z0 z1 z2 z3 z4 z5 z6 z7 z8 z9 z10 z11 z12 z13 z14
 go_wp2
 go_ret
 exact ⟨rfl, G5.out.1⟩
end Go.Proofs.Ytplaoagcedgdfaa
