/- Parts of the proof. -/
import Derived.Test.YtplaoagcedgdfaaGreatZq4
import Derived.Test.YtplaoagcedgdfaaGreatZq6
set_option linter.unusedVariables false
set_option linter.unusedSimpArgs false
set_option maxHeartbeats 4000000
set_option maxRecDepth 20000
namespace Go.Proofs.YtplaoagcedgdfaaGreat
open Go.RowKit Go.Joins Go.Proofs.Tryz
theorem oy (X : VI) (a1 : Option Addr) (l1 c1 : Nat) (a2 : Option Addr) (l2 c2 : Nat) (a3 : Option Addr) (l3 c3 : Nat) (a4 : Option Addr) (l4 c4 : Nat) (a1' : Option Addr) (c1' : Nat) (a2' : Option Addr) (c2' : Nat) (a3' : Option Addr) (c3' : Nat) (a4' : Option Addr) (c4' : Nat) (w : World) (r1 : Rd w 0 (af X.co) (.slice a1 l1 c1)) (r2 : Rd w 0 (af X.ip) (.slice a2 l2 c2)) (r3 : Rd w 0 (ah X.ho) (.slice a3 l3 c3)) (r4 : Rd w 0 (ah X.wd) (.slice a4 l4 c4)) (r1' : Rd w 0 (af X.co) (.slice a1' l1 c1')) (r2' : Rd w 0 (af X.ip) (.slice a2' l2 c2')) (r3' : Rd w 0 (ah X.ho) (.slice a3' l3 c3')) (r4' : Rd w 0 (ah X.wd) (.slice a4' l4 c4')) (hz : ao 4 (aa (eu X)) <= 1048576) :
 Calls prog 192 #[.agg (dn X a1 l1 c1 a2 l2 c2 a3 l3 c3 a4 l4 c4).toArray, .agg (dn X a1' l1 c1' a2' l2 c2' a3' l3 c3' a4' l4 c4').toArray] w fun e w' => e = .returned (.bool true) /\ Below w.heap.size w w' := by
 obtain ⟨W, hW⟩ : ∃ W, W = (w.alloc (.cells (dn X a1 l1 c1 a2 l2 c2 a3 l3 c3 a4 l4 c4).toArray 178)).alloc (.cells (dn X a1' l1 c1' a2' l2 c2' a3' l3 c3' a4' l4 c4').toArray 178) := ⟨_, rfl⟩
 have HZ : Hid (X.co.length <= 1048576 /\ X.ip.length <= 1048576 /\ X.ho.length <= 1048576 /\ X.wd.length <= 1048576) := by
  rw [fp] at hz
  show X.co.length <= 1048576 /\ X.ip.length <= 1048576 /\ X.ho.length <= 1048576 /\ X.wd.length <= 1048576
  omega
 have HR : Hid (Rd w 0 (af X.co) (.slice a1 l1 c1) /\ Rd w 0 (af X.ip) (.slice a2 l2 c2) /\ Rd w 0 (ah X.ho) (.slice a3 l3 c3) /\ Rd w 0 (ah X.wd) (.slice a4 l4 c4) /\ Rd w 0 (af X.co) (.slice a1' l1 c1') /\ Rd w 0 (af X.ip) (.slice a2' l2 c2') /\ Rd w 0 (ah X.ho) (.slice a3' l3 c3') /\ Rd w 0 (ah X.wd) (.slice a4' l4 c4')) := ⟨r1, r2, r3, r4, r1', r2', r3', r4'⟩
 have G0 : Hid (Below w.heap.size w W /\ ag W w.heap.size 178 (dn X a1 l1 c1 a2 l2 c2 a3 l3 c3 a4 l4 c4).toArray /\ ag W (w.heap.size + 1) 178 (dn X a1' l1 c1' a2' l2 c2' a3' l3 c3' a4' l4 c4').toArray) := ⟨by rw [hW]; exact ae (ac _ _) (ac _ _), by rw [hW]; exact (ag.new w _ _).below (ac _ _), by rw [hW]; have := ag.new (w.alloc (.cells (dn X a1 l1 c1 a2 l2 c2 a3 l3 c3 a4 l4 c4).toArray 178)) (dn X a1' l1 c1' a2' l2 c2' a3' l3 c3' a4' l4 c4').toArray 178; simpa using this⟩
 clear hz r1 r2 r3 r4 r1' r2' r3' r4'
 go_enter func192, ntmps192
 go_upto_region 1 with fail
 rw [<- hW]
 clear hW
 obtain ⟨⟨y0, y1, y2, y3⟩, yf⟩ := G0.out.2.1.tc4
 obtain ⟨⟨z0, z1, z2, z3⟩, zf⟩ := G0.out.2.2.tc4
 clear yf zf
 go_wp2_with fail
 refine (iK X.co a1 l1 c1 a1' c1' _ (HR.out.1.below G0.out.1) (HR.out.2.2.2.2.1.below G0.out.1) HZ.out.1).mono ?_
 rintro e w1 ⟨rfl, hb1⟩
 have G1 : Hid (Below w.heap.size w w1 /\ ag w1 w.heap.size 178 (dn X a1 l1 c1 a2 l2 c2 a3 l3 c3 a4 l4 c4).toArray /\ ag w1 (w.heap.size + 1) 178 (dn X a1' l1 c1' a2' l2 c2' a3' l3 c3' a4' l4 c4').toArray) := ⟨ae G0.out.1 hb1, G0.out.2.1.below hb1, G0.out.2.2.below hb1⟩
 clear hb1 y0 y1 y2 y3 z0 z1 z2 z3
 obtain ⟨⟨y0, y1, y2, y3⟩, yf⟩ := G1.out.2.1.tc4
 obtain ⟨⟨z0, z1, z2, z3⟩, zf⟩ := G1.out.2.2.tc4
 clear yf zf
 go_wp2_with fail
 refine (iK X.ip a2 l2 c2 a2' c2' _ (HR.out.2.1.below G1.out.1) (HR.out.2.2.2.2.2.1.below G1.out.1) HZ.out.2.1).mono ?_
 rintro e w2 ⟨rfl, hb2⟩
 have G2 : Hid (Below w.heap.size w w2 /\ ag w2 w.heap.size 178 (dn X a1 l1 c1 a2 l2 c2 a3 l3 c3 a4 l4 c4).toArray /\ ag w2 (w.heap.size + 1) 178 (dn X a1' l1 c1' a2' l2 c2' a3' l3 c3' a4' l4 c4').toArray) := ⟨ae G1.out.1 hb2, G1.out.2.1.below hb2, G1.out.2.2.below hb2⟩
 clear hb2 y0 y1 y2 y3 z0 z1 z2 z3
 obtain ⟨⟨y0, y1, y2, y3⟩, yf⟩ := G2.out.2.1.tc4
 obtain ⟨⟨z0, z1, z2, z3⟩, zf⟩ := G2.out.2.2.tc4
 clear yf zf
 go_wp2_with fail
 refine (mA X.ho a3 l3 c3 a3' c3' _ (HR.out.2.2.1.below G2.out.1) (HR.out.2.2.2.2.2.2.1.below G2.out.1) HZ.out.2.2.1).mono ?_
 rintro e w3 ⟨rfl, hb3⟩
 have G3 : Hid (Below w.heap.size w w3 /\ ag w3 w.heap.size 178 (dn X a1 l1 c1 a2 l2 c2 a3 l3 c3 a4 l4 c4).toArray /\ ag w3 (w.heap.size + 1) 178 (dn X a1' l1 c1' a2' l2 c2' a3' l3 c3' a4' l4 c4').toArray) := ⟨ae G2.out.1 hb3, G2.out.2.1.below hb3, G2.out.2.2.below hb3⟩
 clear hb3 y0 y1 y2 y3 z0 z1 z2 z3
 obtain ⟨⟨y0, y1, y2, y3⟩, yf⟩ := G3.out.2.1.tc4
 obtain ⟨⟨z0, z1, z2, z3⟩, zf⟩ := G3.out.2.2.tc4
 clear yf zf
 go_wp2_with fail
 refine (mA X.wd a4 l4 c4 a4' c4' _ (HR.out.2.2.2.1.below G3.out.1) (HR.out.2.2.2.2.2.2.2.below G3.out.1) HZ.out.2.2.2).mono ?_
 rintro e w4 ⟨rfl, hb4⟩
 have G4 : Hid (Below w.heap.size w w4 /\ ag w4 w.heap.size 178 (dn X a1 l1 c1 a2 l2 c2 a3 l3 c3 a4 l4 c4).toArray /\ ag w4 (w.heap.size + 1) 178 (dn X a1' l1 c1' a2' l2 c2' a3' l3 c3' a4' l4 c4').toArray) := ⟨ae G3.out.1 hb4, G3.out.2.1.below hb4, G3.out.2.2.below hb4⟩
 clear hb4 y0 y1 y2 y3 z0 z1 z2 z3
 go_wp2
 go_ret
 exact ⟨rfl, G4.out.1⟩
theorem rl (X : VS) (a1 : Option Addr) (l1 c1 : Nat) (a2 : Option Addr) (l2 c2 : Nat) (a3 : Option Addr) (l3 c3 : Nat) (a4 : Option Addr) (l4 c4 : Nat) (a1' : Option Addr) (c1' : Nat) (a2' : Option Addr) (c2' : Nat) (a3' : Option Addr) (c3' : Nat) (a4' : Option Addr) (c4' : Nat) (w : World) (r1 : Rd w 0 (af X.d.co) (.slice a1 l1 c1)) (r2 : Rd w 0 (af X.d.ip) (.slice a2 l2 c2)) (r3 : Rd w 0 (ah X.d.ho) (.slice a3 l3 c3)) (r4 : Rd w 0 (ah X.d.wd) (.slice a4 l4 c4)) (r1' : Rd w 0 (af X.d.co) (.slice a1' l1 c1')) (r2' : Rd w 0 (af X.d.ip) (.slice a2' l2 c2')) (r3' : Rd w 0 (ah X.d.ho) (.slice a3' l3 c3')) (r4' : Rd w 0 (ah X.d.wd) (.slice a4' l4 c4')) (hz : ao 6 (aa (bn X)) <= 1048576) :
 Calls prog 127 #[.agg (cz X a1 l1 c1 a2 l2 c2 a3 l3 c3 a4 l4 c4).toArray, .agg (cz X a1' l1 c1' a2' l2 c2' a3' l3 c3' a4' l4 c4').toArray] w fun e w' => e = .returned (.bool true) /\ Below w.heap.size w w' := by
 obtain ⟨W, hW⟩ : ∃ W, W = (w.alloc (.cells (cz X a1 l1 c1 a2 l2 c2 a3 l3 c3 a4 l4 c4).toArray 180)).alloc (.cells (cz X a1' l1 c1' a2' l2 c2' a3' l3 c3' a4' l4 c4').toArray 180) := ⟨_, rfl⟩
 have HZ : Hid (ao 4 (aa (eu X.d)) <= 1048576) := by
  rw [jY] at hz
  show ao 4 (aa (eu X.d)) <= 1048576
  simp only [fp]
  omega
 have HR : Hid (Rd w 0 (af X.d.co) (.slice a1 l1 c1) /\ Rd w 0 (af X.d.ip) (.slice a2 l2 c2) /\ Rd w 0 (ah X.d.ho) (.slice a3 l3 c3) /\ Rd w 0 (ah X.d.wd) (.slice a4 l4 c4) /\ Rd w 0 (af X.d.co) (.slice a1' l1 c1') /\ Rd w 0 (af X.d.ip) (.slice a2' l2 c2') /\ Rd w 0 (ah X.d.ho) (.slice a3' l3 c3') /\ Rd w 0 (ah X.d.wd) (.slice a4' l4 c4')) := ⟨r1, r2, r3, r4, r1', r2', r3', r4'⟩
 have G0 : Hid (Below w.heap.size w W /\ ag W w.heap.size 180 (cz X a1 l1 c1 a2 l2 c2 a3 l3 c3 a4 l4 c4).toArray /\ ag W (w.heap.size + 1) 180 (cz X a1' l1 c1' a2' l2 c2' a3' l3 c3' a4' l4 c4').toArray) := ⟨by rw [hW]; exact ae (ac _ _) (ac _ _), by rw [hW]; exact (ag.new w _ _).below (ac _ _), by rw [hW]; have := ag.new (w.alloc (.cells (cz X a1 l1 c1 a2 l2 c2 a3 l3 c3 a4 l4 c4).toArray 180)) (cz X a1' l1 c1' a2' l2 c2' a3' l3 c3' a4' l4 c4').toArray 180; simpa using this⟩
 clear hz r1 r2 r3 r4 r1' r2' r3' r4'
 go_enter func127, ntmps127
 go_upto_region 1 with fail
 rw [<- hW]
 clear hW
 obtain ⟨⟨y0, y1, y2, y3, y4, y5⟩, yf⟩ := G0.out.2.1.tc6
 obtain ⟨⟨z0, z1, z2, z3, z4, z5⟩, zf⟩ := G0.out.2.2.tc6
 clear yf zf
 go_wp2_with fail
 refine (oy X.d a1 l1 c1 a2 l2 c2 a3 l3 c3 a4 l4 c4 a1' c1' a2' c2' a3' c3' a4' c4' _ (HR.out.1.below G0.out.1) (HR.out.2.1.below G0.out.1) (HR.out.2.2.1.below G0.out.1) (HR.out.2.2.2.1.below G0.out.1) (HR.out.2.2.2.2.1.below G0.out.1) (HR.out.2.2.2.2.2.1.below G0.out.1) (HR.out.2.2.2.2.2.2.1.below G0.out.1) (HR.out.2.2.2.2.2.2.2.below G0.out.1) HZ.out).mono ?_
 rintro e w1 ⟨rfl, hb1⟩
 have G1 : Hid (Below w.heap.size w w1 /\ ag w1 w.heap.size 180 (cz X a1 l1 c1 a2 l2 c2 a3 l3 c3 a4 l4 c4).toArray /\ ag w1 (w.heap.size + 1) 180 (cz X a1' l1 c1' a2' l2 c2' a3' l3 c3' a4' l4 c4').toArray) := ⟨ae G0.out.1 hb1, G0.out.2.1.below hb1, G0.out.2.2.below hb1⟩
 clear hb1 y0 y1 y2 y3 y4 y5 z0 z1 z2 z3 z4 z5
 go_wp2
 go_ret
 exact ⟨rfl, G1.out.1⟩
theorem pV (n : Nat) (f : Nat -> VS) (a : Option Addr) (n' cap : Nat) (a' : Option Addr) (cap' : Nat) (w : World) (hs : Rd w 0 (.list 6 n (fun k => aa (bn (f k)))) (.slice a n' cap)) (hs' : Rd w 0 (.list 6 n (fun k => aa (bn (f k)))) (.slice a' n' cap')) (hz : (Tr.list 6 n (fun k => aa (bn (f k)))).sz <= 1048576) :
 Calls prog 73 #[.slice a n' cap, .slice a' n' cap'] w fun e w' => e = .returned (.bool true) /\ Below w.heap.size w w' := by
 obtain ⟨a9, c9, h9, -, hn⟩ := hs.shape
 simp only [Value.slice.injEq] at h9
 obtain ⟨-, rfl, -⟩ := h9
 clear a9 c9 hn
 have hn1 : n' <= 1048576 := by rw [Tr.sz_list] at hz; omega
 have HZ : Hid (∀ k, k < n' -> ao 6 (aa (bn (f k))) <= 1048576) := by
  show ∀ k, k < n' -> ao 6 (aa (bn (f k))) <= 1048576
  intro k hk
  rw [Tr.sz_list] at hz
  have := cg (fun k => ao 6 (aa (bn (f k)))) hk
  omega
 have HS : Hid (Rd w 0 (.list 6 n' (fun k => aa (bn (f k)))) (.slice a n' cap) /\ Rd w 0 (.list 6 n' (fun k => aa (bn (f k)))) (.slice a' n' cap')) := ⟨hs, hs'⟩
 clear hs hs' hz
 go_enter func73, ntmps73
 go_wp2
 go_loopw [5] (fun i wr => ∃ z : Nat, z <= n' /\ i = .int .i64 z /\ Below w.heap.size w wr) (fun i _ => n' - (intOf i).toNat)
 case atStart => exact ⟨0, Nat.zero_le _, rfl, Below.refl _ _⟩
 case round =>
  obtain ⟨k, hk, rfl, hbl⟩ := hrel
  by_cases hlt : k < n'
  ·have hi : (k : Int) < (n' : Int) := by omega
   obtain ⟨b, off, vs, rfl, _, hb0, hlen, hr, hrd⟩ := (HS.out.1.below hbl).at hlt
   obtain ⟨a1, c1, a2, c2, a3, c3, a4, c4, rfl, r1, r2, r3, r4⟩ := VS.cells hrd hlen
   clear hlen hrd hb0
   obtain ⟨b', off', vs, rfl, _, hb0, hlen, hr', hrd⟩ := (HS.out.2.below hbl).at hlt
   obtain ⟨a1', c1', a2', c2', a3', c3', a4', c4', rfl, r1', r2', r3', r4'⟩ := VS.cells hrd hlen
   clear hlen hrd hb0
   have d09 : wr.cell? ⟨b, off + k * 6, none⟩ = _ := hr 0 _ rfl
   have e09 : wr.cell? ⟨b', off' + k * 6, none⟩ = _ := hr' 0 _ rfl
   have d19 := hr 1 _ rfl
   have e19 := hr' 1 _ rfl
   have d29 := hr 2 _ rfl
   have e29 := hr' 2 _ rfl
   have d39 := hr 3 _ rfl
   have e39 := hr' 3 _ rfl
   have d49 := hr 4 _ rfl
   have e49 := hr' 4 _ rfl
   have d59 := hr 5 _ rfl
   have e59 := hr' 5 _ rfl
   have HC := bg (fun u (hu : Below wr.heap.size wr u) => (rl (f k) a1 ((f k).d.co.length) c1 a2 ((f k).d.ip.length) c2 a3 ((f k).d.ho.length) c3 a4 ((f k).d.wd.length) c4 a1' c1' a2' c2' a3' c3' a4' c4' u (r1.below hu) (r2.below hu) (r3.below hu) (r4.below hu) (r1'.below hu) (r2'.below hu) (r3'.below hu) (r4'.below hu) (HZ.out k hlt)).mono (fun e w1 h => (⟨h.1, ae hu h.2⟩ : e = .returned (.bool true) /\ Below wr.heap.size wr w1)))
   have HB := bg hbl
   clear r1 r2 r3 r4 r1' r2' r3' r4' hr hr' hbl
   go_wp2_with fail
   go_region_with (go_at_call 127; refine (HC.out _ (by first | exact Below.refl _ _ | exact (Below.refl _ _).drew | exact (Below.refl _ _).drew.drew)).mono ?_; rintro e w1 ⟨rfl, b1⟩)
   all_goals (
    have B1 := ae HB.out b1
    clear HC HB b1 d09 e09 d19 e19 d29 e29 d39 e39 d49 e49 d59 e59
    go_wp2
    go_roundw
    case rel => exact ⟨k + 1, by omega, by go_num, B1⟩
    case measure => simp [intOf]; omega)
  have hi : ¬ (k : Int) < (n' : Int) := by omega
  go_wp2
  go_ret
  exact ⟨rfl, hbl⟩
theorem oz (X : VK) (a1 : Option Addr) (l1 c1 : Nat) (a2 : Option Addr) (l2 c2 : Nat) (a3 : Option Addr) (l3 c3 : Nat) (a4 : Option Addr) (l4 c4 : Nat) (a1' : Option Addr) (c1' : Nat) (a2' : Option Addr) (c2' : Nat) (a3' : Option Addr) (c3' : Nat) (a4' : Option Addr) (c4' : Nat) (w : World) (r1 : Rd w 0 (ah X.q.ws) (.slice a1 l1 c1)) (r2 : Rd w 0 (af X.q.bs) (.slice a2 l2 c2)) (r3 : Rd w 0 (ah X.a.ws) (.slice a3 l3 c3)) (r4 : Rd w 0 (af X.a.bs) (.slice a4 l4 c4)) (r1' : Rd w 0 (ah X.q.ws) (.slice a1' l1 c1')) (r2' : Rd w 0 (af X.q.bs) (.slice a2' l2 c2')) (r3' : Rd w 0 (ah X.a.ws) (.slice a3' l3 c3')) (r4' : Rd w 0 (af X.a.bs) (.slice a4' l4 c4')) (hz : ao 16 (aa (br X)) <= 1048576) :
 Calls prog 128 #[.agg (cr X a1 l1 c1 a2 l2 c2 a3 l3 c3 a4 l4 c4).toArray, .agg (cr X a1' l1 c1' a2' l2 c2' a3' l3 c3' a4' l4 c4').toArray] w fun e w' => e = .returned (.bool true) /\ Below w.heap.size w w' := by
 obtain ⟨W, hW⟩ : ∃ W, W = (w.alloc (.cells (cr X a1 l1 c1 a2 l2 c2 a3 l3 c3 a4 l4 c4).toArray 120)).alloc (.cells (cr X a1' l1 c1' a2' l2 c2' a3' l3 c3' a4' l4 c4').toArray 120) := ⟨_, rfl⟩
 have HZ : Hid (ao 6 (aa (qT X.q)) <= 1048576 /\ ao 6 (aa (aT X.a)) <= 1048576) := by
  rw [jZ] at hz
  show ao 6 (aa (qT X.q)) <= 1048576 /\ ao 6 (aa (aT X.a)) <= 1048576
  simp only [dX, cO]
  omega
 have HR : Hid (Rd w 0 (ah X.q.ws) (.slice a1 l1 c1) /\ Rd w 0 (af X.q.bs) (.slice a2 l2 c2) /\ Rd w 0 (ah X.a.ws) (.slice a3 l3 c3) /\ Rd w 0 (af X.a.bs) (.slice a4 l4 c4) /\ Rd w 0 (ah X.q.ws) (.slice a1' l1 c1') /\ Rd w 0 (af X.q.bs) (.slice a2' l2 c2') /\ Rd w 0 (ah X.a.ws) (.slice a3' l3 c3') /\ Rd w 0 (af X.a.bs) (.slice a4' l4 c4')) := ⟨r1, r2, r3, r4, r1', r2', r3', r4'⟩
 have G0 : Hid (Below w.heap.size w W /\ ag W w.heap.size 120 (cr X a1 l1 c1 a2 l2 c2 a3 l3 c3 a4 l4 c4).toArray /\ ag W (w.heap.size + 1) 120 (cr X a1' l1 c1' a2' l2 c2' a3' l3 c3' a4' l4 c4').toArray) := ⟨by rw [hW]; exact ae (ac _ _) (ac _ _), by rw [hW]; exact (ag.new w _ _).below (ac _ _), by rw [hW]; have := ag.new (w.alloc (.cells (cr X a1 l1 c1 a2 l2 c2 a3 l3 c3 a4 l4 c4).toArray 120)) (cr X a1' l1 c1' a2' l2 c2' a3' l3 c3' a4' l4 c4').toArray 120; simpa using this⟩
 clear hz r1 r2 r3 r4 r1' r2' r3' r4'
 go_enter func128, ntmps128
 go_upto_region 1 with fail
 rw [<- hW]
 clear hW
 obtain ⟨⟨y0, y1, y2, y3, y4, y5, y6, y7, y8, y9, y10, y11, y12, y13, y14, y15⟩, yf⟩ := G0.out.2.1.tc16
 obtain ⟨⟨z0, z1, z2, z3, z4, z5, z6, z7, z8, z9, aR, aV, z12, z13, z14, z15⟩, zf⟩ := G0.out.2.2.tc16
 clear yf zf
 go_wp2_with fail
 refine (fH X.q a1 l1 c1 a2 l2 c2 a1' c1' a2' c2' _ (HR.out.1.below G0.out.1) (HR.out.2.1.below G0.out.1) (HR.out.2.2.2.2.1.below G0.out.1) (HR.out.2.2.2.2.2.1.below G0.out.1) HZ.out.1).mono ?_
 rintro e w1 ⟨rfl, hb1⟩
 have G1 : Hid (Below w.heap.size w w1 /\ ag w1 w.heap.size 120 (cr X a1 l1 c1 a2 l2 c2 a3 l3 c3 a4 l4 c4).toArray /\ ag w1 (w.heap.size + 1) 120 (cr X a1' l1 c1' a2' l2 c2' a3' l3 c3' a4' l4 c4').toArray) := ⟨ae G0.out.1 hb1, G0.out.2.1.below hb1, G0.out.2.2.below hb1⟩
 clear hb1 y0 y1 y2 y3 y4 y5 y6 y7 y8 y9 y10 y11 y12 y13 y14 y15 z0 z1 z2 z3 z4 z5 z6 z7 z8 z9 aR aV z12 z13 z14 z15
 obtain ⟨⟨y0, y1, y2, y3, y4, y5, y6, y7, y8, y9, y10, y11, y12, y13, y14, y15⟩, yf⟩ := G1.out.2.1.tc16
 obtain ⟨⟨z0, z1, z2, z3, z4, z5, z6, z7, z8, z9, aR, aV, z12, z13, z14, z15⟩, zf⟩ := G1.out.2.2.tc16
 clear yf zf
 go_wp2_with fail
 refine (gO X.a a3 l3 c3 a4 l4 c4 a3' c3' a4' c4' _ (HR.out.2.2.1.below G1.out.1) (HR.out.2.2.2.1.below G1.out.1) (HR.out.2.2.2.2.2.2.1.below G1.out.1) (HR.out.2.2.2.2.2.2.2.below G1.out.1) HZ.out.2).mono ?_
 rintro e w2 ⟨rfl, hb2⟩
 have G2 : Hid (Below w.heap.size w w2 /\ ag w2 w.heap.size 120 (cr X a1 l1 c1 a2 l2 c2 a3 l3 c3 a4 l4 c4).toArray /\ ag w2 (w.heap.size + 1) 120 (cr X a1' l1 c1' a2' l2 c2' a3' l3 c3' a4' l4 c4').toArray) := ⟨ae G1.out.1 hb2, G1.out.2.1.below hb2, G1.out.2.2.below hb2⟩
 clear hb2 y0 y1 y2 y3 y4 y5 y6 y7 y8 y9 y10 y11 y12 y13 y14 y15 z0 z1 z2 z3 z4 z5 z6 z7 z8 z9 aR aV z12 z13 z14 z15
 go_wp2
 go_ret
 exact ⟨rfl, G2.out.1⟩
theorem nj (n : Nat) (f : Nat -> VK) (a : Option Addr) (n' cap : Nat) (a' : Option Addr) (cap' : Nat) (w : World) (hs : Rd w 0 (.list 16 n (fun k => aa (br (f k)))) (.slice a n' cap)) (hs' : Rd w 0 (.list 16 n (fun k => aa (br (f k)))) (.slice a' n' cap')) (hz : (Tr.list 16 n (fun k => aa (br (f k)))).sz <= 1048576) :
 Calls prog 74 #[.slice a n' cap, .slice a' n' cap'] w fun e w' => e = .returned (.bool true) /\ Below w.heap.size w w' := by
 obtain ⟨a9, c9, h9, -, hn⟩ := hs.shape
 simp only [Value.slice.injEq] at h9
 obtain ⟨-, rfl, -⟩ := h9
 clear a9 c9 hn
 have hn1 : n' <= 1048576 := by rw [Tr.sz_list] at hz; omega
 have HZ : Hid (∀ k, k < n' -> ao 16 (aa (br (f k))) <= 1048576) := by
  show ∀ k, k < n' -> ao 16 (aa (br (f k))) <= 1048576
  intro k hk
  rw [Tr.sz_list] at hz
  have := cg (fun k => ao 16 (aa (br (f k)))) hk
  omega
 have HS : Hid (Rd w 0 (.list 16 n' (fun k => aa (br (f k)))) (.slice a n' cap) /\ Rd w 0 (.list 16 n' (fun k => aa (br (f k)))) (.slice a' n' cap')) := ⟨hs, hs'⟩
 clear hs hs' hz
 go_enter func74, ntmps74
 go_wp2
 go_loopw [5] (fun i wr => ∃ z : Nat, z <= n' /\ i = .int .i64 z /\ Below w.heap.size w wr) (fun i _ => n' - (intOf i).toNat)
 case atStart => exact ⟨0, Nat.zero_le _, rfl, Below.refl _ _⟩
 case round =>
  obtain ⟨k, hk, rfl, hbl⟩ := hrel
  by_cases hlt : k < n'
  ·have hi : (k : Int) < (n' : Int) := by omega
   obtain ⟨b, off, vs, rfl, _, hb0, hlen, hr, hrd⟩ := (HS.out.1.below hbl).at hlt
   obtain ⟨a1, c1, a2, c2, a3, c3, a4, c4, rfl, r1, r2, r3, r4⟩ := VK.cells hrd hlen
   clear hlen hrd hb0
   obtain ⟨b', off', vs, rfl, _, hb0, hlen, hr', hrd⟩ := (HS.out.2.below hbl).at hlt
   obtain ⟨a1', c1', a2', c2', a3', c3', a4', c4', rfl, r1', r2', r3', r4'⟩ := VK.cells hrd hlen
   clear hlen hrd hb0
   have d09 : wr.cell? ⟨b, off + k * 16, none⟩ = _ := hr 0 _ rfl
   have e09 : wr.cell? ⟨b', off' + k * 16, none⟩ = _ := hr' 0 _ rfl
   have d19 := hr 1 _ rfl
   have e19 := hr' 1 _ rfl
   have d29 := hr 2 _ rfl
   have e29 := hr' 2 _ rfl
   have d39 := hr 3 _ rfl
   have e39 := hr' 3 _ rfl
   have d49 := hr 4 _ rfl
   have e49 := hr' 4 _ rfl
   have d59 := hr 5 _ rfl
   have e59 := hr' 5 _ rfl
   have d69 := hr 6 _ rfl
   have e69 := hr' 6 _ rfl
   have d79 := hr 7 _ rfl
   have e79 := hr' 7 _ rfl
   have d89 := hr 8 _ rfl
   have e89 := hr' 8 _ rfl
   have d99 := hr 9 _ rfl
   have e99 := hr' 9 _ rfl
   have d109 := hr 10 _ rfl
   have e109 := hr' 10 _ rfl
   have d119 := hr 11 _ rfl
   have e119 := hr' 11 _ rfl
   have d129 := hr 12 _ rfl
   have e129 := hr' 12 _ rfl
   have d139 := hr 13 _ rfl
   have e139 := hr' 13 _ rfl
   have d149 := hr 14 _ rfl
   have e149 := hr' 14 _ rfl
   have d159 := hr 15 _ rfl
   have e159 := hr' 15 _ rfl
   have HC := bg (fun u (hu : Below wr.heap.size wr u) => (oz (f k) a1 ((f k).q.ws.length) c1 a2 ((f k).q.bs.length) c2 a3 ((f k).a.ws.length) c3 a4 ((f k).a.bs.length) c4 a1' c1' a2' c2' a3' c3' a4' c4' u (r1.below hu) (r2.below hu) (r3.below hu) (r4.below hu) (r1'.below hu) (r2'.below hu) (r3'.below hu) (r4'.below hu) (HZ.out k hlt)).mono (fun e w1 h => (⟨h.1, ae hu h.2⟩ : e = .returned (.bool true) /\ Below wr.heap.size wr w1)))
   have HB := bg hbl
   clear r1 r2 r3 r4 r1' r2' r3' r4' hr hr' hbl
   go_wp2_with fail
   go_region_with (go_at_call 128; refine (HC.out _ (by first | exact Below.refl _ _ | exact (Below.refl _ _).drew | exact (Below.refl _ _).drew.drew)).mono ?_; rintro e w1 ⟨rfl, b1⟩)
   all_goals (
    have B1 := ae HB.out b1
    clear HC HB b1 d09 e09 d19 e19 d29 e29 d39 e39 d49 e49 d59 e59 d69 e69 d79 e79 d89 e89 d99 e99 d109 e109 d119 e119 d129 e129 d139 e139 d149 e149 d159 e159
    go_wp2
    go_roundw
    case rel => exact ⟨k + 1, by omega, by go_num, B1⟩
    case measure => simp [intOf]; omega)
  have hi : ¬ (k : Int) < (n' : Int) := by omega
  go_wp2
  go_ret
  exact ⟨rfl, hbl⟩
theorem pW (X : VR) (a1 : Option Addr) (l1 c1 : Nat) (a2 : Option Addr) (l2 c2 : Nat) (a3 : Option Addr) (l3 c3 : Nat) (a4 : Option Addr) (l4 c4 : Nat) (a5 : Option Addr) (l5 c5 : Nat) (a6 : Option Addr) (l6 c6 : Nat) (a1' : Option Addr) (c1' : Nat) (a2' : Option Addr) (c2' : Nat) (a3' : Option Addr) (c3' : Nat) (a4' : Option Addr) (c4' : Nat) (a5' : Option Addr) (c5' : Nat) (a6' : Option Addr) (c6' : Nat) (w : World) (r1 : Rd w 0 (ah X.q.ws) (.slice a1 l1 c1)) (r2 : Rd w 0 (af X.q.bs) (.slice a2 l2 c2)) (r3 : Rd w 0 (.list 8 X.np (fun i => aa (pT (X.pt i)))) (.slice a3 l3 c3)) (r4 : Rd w 0 (.list 6 X.nt (fun i => aa (aT (X.tl i)))) (.slice a4 l4 c4)) (r5 : Rd w 0 (ah X.a.ws) (.slice a5 l5 c5)) (r6 : Rd w 0 (af X.a.bs) (.slice a6 l6 c6)) (r1' : Rd w 0 (ah X.q.ws) (.slice a1' l1 c1')) (r2' : Rd w 0 (af X.q.bs) (.slice a2' l2 c2')) (r3' : Rd w 0 (.list 8 X.np (fun i => aa (pT (X.pt i)))) (.slice a3' l3 c3')) (r4' : Rd w 0 (.list 6 X.nt (fun i => aa (aT (X.tl i)))) (.slice a4' l4 c4')) (r5' : Rd w 0 (ah X.a.ws) (.slice a5' l5 c5')) (r6' : Rd w 0 (af X.a.bs) (.slice a6' l6 c6')) (hz : ao 16 (aa (bI X)) <= 1048576) :
 Calls prog 129 #[.agg (de X a1 l1 c1 a2 l2 c2 a3 l3 c3 a4 l4 c4 a5 l5 c5 a6 l6 c6).toArray, .agg (de X a1' l1 c1' a2' l2 c2' a3' l3 c3' a4' l4 c4' a5' l5 c5' a6' l6 c6').toArray] w fun e w' => e = .returned (.bool true) /\ Below w.heap.size w w' := by
 obtain ⟨W, hW⟩ : ∃ W, W = (w.alloc (.cells (de X a1 l1 c1 a2 l2 c2 a3 l3 c3 a4 l4 c4 a5 l5 c5 a6 l6 c6).toArray 187)).alloc (.cells (de X a1' l1 c1' a2' l2 c2' a3' l3 c3' a4' l4 c4' a5' l5 c5' a6' l6 c6').toArray 187) := ⟨_, rfl⟩
 have HZ : Hid (ao 6 (aa (qT X.q)) <= 1048576 /\ (Tr.list 8 X.np (fun i => aa (pT (X.pt i)))).sz <= 1048576 /\ (Tr.list 6 X.nt (fun i => aa (aT (X.tl i)))).sz <= 1048576 /\ ao 6 (aa (aT X.a)) <= 1048576) := by
  rw [mD] at hz
  show ao 6 (aa (qT X.q)) <= 1048576 /\ (Tr.list 8 X.np (fun i => aa (pT (X.pt i)))).sz <= 1048576 /\ (Tr.list 6 X.nt (fun i => aa (aT (X.tl i)))).sz <= 1048576 /\ ao 6 (aa (aT X.a)) <= 1048576
  simp only [dX, cO]
  omega
 have HR : Hid (Rd w 0 (ah X.q.ws) (.slice a1 l1 c1) /\ Rd w 0 (af X.q.bs) (.slice a2 l2 c2) /\ Rd w 0 (.list 8 X.np (fun i => aa (pT (X.pt i)))) (.slice a3 l3 c3) /\ Rd w 0 (.list 6 X.nt (fun i => aa (aT (X.tl i)))) (.slice a4 l4 c4) /\ Rd w 0 (ah X.a.ws) (.slice a5 l5 c5) /\ Rd w 0 (af X.a.bs) (.slice a6 l6 c6) /\ Rd w 0 (ah X.q.ws) (.slice a1' l1 c1') /\ Rd w 0 (af X.q.bs) (.slice a2' l2 c2') /\ Rd w 0 (.list 8 X.np (fun i => aa (pT (X.pt i)))) (.slice a3' l3 c3') /\ Rd w 0 (.list 6 X.nt (fun i => aa (aT (X.tl i)))) (.slice a4' l4 c4') /\ Rd w 0 (ah X.a.ws) (.slice a5' l5 c5') /\ Rd w 0 (af X.a.bs) (.slice a6' l6 c6')) := ⟨r1, r2, r3, r4, r5, r6, r1', r2', r3', r4', r5', r6'⟩
 have G0 : Hid (Below w.heap.size w W /\ ag W w.heap.size 187 (de X a1 l1 c1 a2 l2 c2 a3 l3 c3 a4 l4 c4 a5 l5 c5 a6 l6 c6).toArray /\ ag W (w.heap.size + 1) 187 (de X a1' l1 c1' a2' l2 c2' a3' l3 c3' a4' l4 c4' a5' l5 c5' a6' l6 c6').toArray) := ⟨by rw [hW]; exact ae (ac _ _) (ac _ _), by rw [hW]; exact (ag.new w _ _).below (ac _ _), by rw [hW]; have := ag.new (w.alloc (.cells (de X a1 l1 c1 a2 l2 c2 a3 l3 c3 a4 l4 c4 a5 l5 c5 a6 l6 c6).toArray 187)) (de X a1' l1 c1' a2' l2 c2' a3' l3 c3' a4' l4 c4' a5' l5 c5' a6' l6 c6').toArray 187; simpa using this⟩
 clear hz r1 r2 r3 r4 r5 r6 r1' r2' r3' r4' r5' r6'
 go_enter func129, ntmps129
 go_upto_region 1 with fail
 rw [<- hW]
 clear hW
 obtain ⟨⟨y0, y1, y2, y3, y4, y5, y6, y7, y8, y9, y10, y11, y12, y13, y14, y15⟩, yf⟩ := G0.out.2.1.tc16
 obtain ⟨⟨z0, z1, z2, z3, z4, z5, z6, z7, z8, z9, aR, aV, z12, z13, z14, z15⟩, zf⟩ := G0.out.2.2.tc16
 clear yf zf
 go_wp2_with fail
 refine (fH X.q a1 l1 c1 a2 l2 c2 a1' c1' a2' c2' _ (HR.out.1.below G0.out.1) (HR.out.2.1.below G0.out.1) (HR.out.2.2.2.2.2.2.1.below G0.out.1) (HR.out.2.2.2.2.2.2.2.1.below G0.out.1) HZ.out.1).mono ?_
 rintro e w1 ⟨rfl, hb1⟩
 have G1 : Hid (Below w.heap.size w w1 /\ ag w1 w.heap.size 187 (de X a1 l1 c1 a2 l2 c2 a3 l3 c3 a4 l4 c4 a5 l5 c5 a6 l6 c6).toArray /\ ag w1 (w.heap.size + 1) 187 (de X a1' l1 c1' a2' l2 c2' a3' l3 c3' a4' l4 c4' a5' l5 c5' a6' l6 c6').toArray) := ⟨ae G0.out.1 hb1, G0.out.2.1.below hb1, G0.out.2.2.below hb1⟩
 clear hb1 y0 y1 y2 y3 y4 y5 y6 y7 y8 y9 y10 y11 y12 y13 y14 y15 z0 z1 z2 z3 z4 z5 z6 z7 z8 z9 aR aV z12 z13 z14 z15
 obtain ⟨⟨y0, y1, y2, y3, y4, y5, y6, y7, y8, y9, y10, y11, y12, y13, y14, y15⟩, yf⟩ := G1.out.2.1.tc16
 obtain ⟨⟨z0, z1, z2, z3, z4, z5, z6, z7, z8, z9, aR, aV, z12, z13, z14, z15⟩, zf⟩ := G1.out.2.2.tc16
 clear yf zf
 go_wp2_with fail
 refine (kT X.np X.pt a3 l3 c3 a3' c3' _ (HR.out.2.2.1.below G1.out.1) (HR.out.2.2.2.2.2.2.2.2.1.below G1.out.1) HZ.out.2.1).mono ?_
 rintro e w2 ⟨rfl, hb2⟩
 have G2 : Hid (Below w.heap.size w w2 /\ ag w2 w.heap.size 187 (de X a1 l1 c1 a2 l2 c2 a3 l3 c3 a4 l4 c4 a5 l5 c5 a6 l6 c6).toArray /\ ag w2 (w.heap.size + 1) 187 (de X a1' l1 c1' a2' l2 c2' a3' l3 c3' a4' l4 c4' a5' l5 c5' a6' l6 c6').toArray) := ⟨ae G1.out.1 hb2, G1.out.2.1.below hb2, G1.out.2.2.below hb2⟩
 clear hb2 y0 y1 y2 y3 y4 y5 y6 y7 y8 y9 y10 y11 y12 y13 y14 y15 z0 z1 z2 z3 z4 z5 z6 z7 z8 z9 aR aV z12 z13 z14 z15
 obtain ⟨⟨y0, y1, y2, y3, y4, y5, y6, y7, y8, y9, y10, y11, y12, y13, y14, y15⟩, yf⟩ := G2.out.2.1.tc16
 obtain ⟨⟨z0, z1, z2, z3, z4, z5, z6, z7, z8, z9, aR, aV, z12, z13, z14, z15⟩, zf⟩ := G2.out.2.2.tc16
 clear yf zf
 go_wp2_with fail
 refine (kS X.nt X.tl a4 l4 c4 a4' c4' _ (HR.out.2.2.2.1.below G2.out.1) (HR.out.2.2.2.2.2.2.2.2.2.1.below G2.out.1) HZ.out.2.2.1).mono ?_
 rintro e w3 ⟨rfl, hb3⟩
 have G3 : Hid (Below w.heap.size w w3 /\ ag w3 w.heap.size 187 (de X a1 l1 c1 a2 l2 c2 a3 l3 c3 a4 l4 c4 a5 l5 c5 a6 l6 c6).toArray /\ ag w3 (w.heap.size + 1) 187 (de X a1' l1 c1' a2' l2 c2' a3' l3 c3' a4' l4 c4' a5' l5 c5' a6' l6 c6').toArray) := ⟨ae G2.out.1 hb3, G2.out.2.1.below hb3, G2.out.2.2.below hb3⟩
 clear hb3 y0 y1 y2 y3 y4 y5 y6 y7 y8 y9 y10 y11 y12 y13 y14 y15 z0 z1 z2 z3 z4 z5 z6 z7 z8 z9 aR aV z12 z13 z14 z15
 obtain ⟨⟨y0, y1, y2, y3, y4, y5, y6, y7, y8, y9, y10, y11, y12, y13, y14, y15⟩, yf⟩ := G3.out.2.1.tc16
 obtain ⟨⟨z0, z1, z2, z3, z4, z5, z6, z7, z8, z9, aR, aV, z12, z13, z14, z15⟩, zf⟩ := G3.out.2.2.tc16
 clear yf zf
 go_wp2_with fail
 refine (gO X.a a5 l5 c5 a6 l6 c6 a5' c5' a6' c6' _ (HR.out.2.2.2.2.1.below G3.out.1) (HR.out.2.2.2.2.2.1.below G3.out.1) (HR.out.2.2.2.2.2.2.2.2.2.2.1.below G3.out.1) (HR.out.2.2.2.2.2.2.2.2.2.2.2.below G3.out.1) HZ.out.2.2.2).mono ?_
 rintro e w4 ⟨rfl, hb4⟩
 have G4 : Hid (Below w.heap.size w w4 /\ ag w4 w.heap.size 187 (de X a1 l1 c1 a2 l2 c2 a3 l3 c3 a4 l4 c4 a5 l5 c5 a6 l6 c6).toArray /\ ag w4 (w.heap.size + 1) 187 (de X a1' l1 c1' a2' l2 c2' a3' l3 c3' a4' l4 c4' a5' l5 c5' a6' l6 c6').toArray) := ⟨ae G3.out.1 hb4, G3.out.2.1.below hb4, G3.out.2.2.below hb4⟩
 clear hb4 y0 y1 y2 y3 y4 y5 y6 y7 y8 y9 y10 y11 y12 y13 y14 y15 z0 z1 z2 z3 z4 z5 z6 z7 z8 z9 aR aV z12 z13 z14 z15
 go_wp2
 go_ret
 exact ⟨rfl, G4.out.1⟩
theorem oA (n : Nat) (f : Nat -> VR) (a : Option Addr) (n' cap : Nat) (a' : Option Addr) (cap' : Nat) (w : World) (hs : Rd w 0 (.list 16 n (fun k => aa (bI (f k)))) (.slice a n' cap)) (hs' : Rd w 0 (.list 16 n (fun k => aa (bI (f k)))) (.slice a' n' cap')) (hz : (Tr.list 16 n (fun k => aa (bI (f k)))).sz <= 1048576) :
 Calls prog 75 #[.slice a n' cap, .slice a' n' cap'] w fun e w' => e = .returned (.bool true) /\ Below w.heap.size w w' := by
 obtain ⟨a9, c9, h9, -, hn⟩ := hs.shape
 simp only [Value.slice.injEq] at h9
 obtain ⟨-, rfl, -⟩ := h9
 clear a9 c9 hn
 have hn1 : n' <= 1048576 := by rw [Tr.sz_list] at hz; omega
 have HZ : Hid (∀ k, k < n' -> ao 16 (aa (bI (f k))) <= 1048576) := by
  show ∀ k, k < n' -> ao 16 (aa (bI (f k))) <= 1048576
  intro k hk
  rw [Tr.sz_list] at hz
  have := cg (fun k => ao 16 (aa (bI (f k)))) hk
  omega
 have HS : Hid (Rd w 0 (.list 16 n' (fun k => aa (bI (f k)))) (.slice a n' cap) /\ Rd w 0 (.list 16 n' (fun k => aa (bI (f k)))) (.slice a' n' cap')) := ⟨hs, hs'⟩
 clear hs hs' hz
 go_enter func75, ntmps75
 go_wp2
 go_loopw [5] (fun i wr => ∃ z : Nat, z <= n' /\ i = .int .i64 z /\ Below w.heap.size w wr) (fun i _ => n' - (intOf i).toNat)
 case atStart => exact ⟨0, Nat.zero_le _, rfl, Below.refl _ _⟩
 case round =>
  obtain ⟨k, hk, rfl, hbl⟩ := hrel
  by_cases hlt : k < n'
  ·have hi : (k : Int) < (n' : Int) := by omega
   obtain ⟨b, off, vs, rfl, _, hb0, hlen, hr, hrd⟩ := (HS.out.1.below hbl).at hlt
   obtain ⟨a1, c1, a2, c2, a3, c3, a4, c4, a5, c5, a6, c6, rfl, r1, r2, r3, r4, r5, r6⟩ := VR.cells hrd hlen
   clear hlen hrd hb0
   obtain ⟨b', off', vs, rfl, _, hb0, hlen, hr', hrd⟩ := (HS.out.2.below hbl).at hlt
   obtain ⟨a1', c1', a2', c2', a3', c3', a4', c4', a5', c5', a6', c6', rfl, r1', r2', r3', r4', r5', r6'⟩ := VR.cells hrd hlen
   clear hlen hrd hb0
   have d09 : wr.cell? ⟨b, off + k * 16, none⟩ = _ := hr 0 _ rfl
   have e09 : wr.cell? ⟨b', off' + k * 16, none⟩ = _ := hr' 0 _ rfl
   have d19 := hr 1 _ rfl
   have e19 := hr' 1 _ rfl
   have d29 := hr 2 _ rfl
   have e29 := hr' 2 _ rfl
   have d39 := hr 3 _ rfl
   have e39 := hr' 3 _ rfl
   have d49 := hr 4 _ rfl
   have e49 := hr' 4 _ rfl
   have d59 := hr 5 _ rfl
   have e59 := hr' 5 _ rfl
   have d69 := hr 6 _ rfl
   have e69 := hr' 6 _ rfl
   have d79 := hr 7 _ rfl
   have e79 := hr' 7 _ rfl
   have d89 := hr 8 _ rfl
   have e89 := hr' 8 _ rfl
   have d99 := hr 9 _ rfl
   have e99 := hr' 9 _ rfl
   have d109 := hr 10 _ rfl
   have e109 := hr' 10 _ rfl
   have d119 := hr 11 _ rfl
   have e119 := hr' 11 _ rfl
   have d129 := hr 12 _ rfl
   have e129 := hr' 12 _ rfl
   have d139 := hr 13 _ rfl
   have e139 := hr' 13 _ rfl
   have d149 := hr 14 _ rfl
   have e149 := hr' 14 _ rfl
   have d159 := hr 15 _ rfl
   have e159 := hr' 15 _ rfl
   have HC := bg (fun u (hu : Below wr.heap.size wr u) => (pW (f k) a1 ((f k).q.ws.length) c1 a2 ((f k).q.bs.length) c2 a3 ((f k).np) c3 a4 ((f k).nt) c4 a5 ((f k).a.ws.length) c5 a6 ((f k).a.bs.length) c6 a1' c1' a2' c2' a3' c3' a4' c4' a5' c5' a6' c6' u (r1.below hu) (r2.below hu) (r3.below hu) (r4.below hu) (r5.below hu) (r6.below hu) (r1'.below hu) (r2'.below hu) (r3'.below hu) (r4'.below hu) (r5'.below hu) (r6'.below hu) (HZ.out k hlt)).mono (fun e w1 h => (⟨h.1, ae hu h.2⟩ : e = .returned (.bool true) /\ Below wr.heap.size wr w1)))
   have HB := bg hbl
   clear r1 r2 r3 r4 r5 r6 r1' r2' r3' r4' r5' r6' hr hr' hbl
   go_wp2_with fail
   go_region_with (go_at_call 129; refine (HC.out _ (by first | exact Below.refl _ _ | exact (Below.refl _ _).drew | exact (Below.refl _ _).drew.drew)).mono ?_; rintro e w1 ⟨rfl, b1⟩)
   all_goals (
    have B1 := ae HB.out b1
    clear HC HB b1 d09 e09 d19 e19 d29 e29 d39 e39 d49 e49 d59 e59 d69 e69 d79 e79 d89 e89 d99 e99 d109 e109 d119 e119 d129 e129 d139 e139 d149 e149 d159 e159
    go_wp2
    go_roundw
    case rel => exact ⟨k + 1, by omega, by go_num, B1⟩
    case measure => simp [intOf]; omega)
  have hi : ¬ (k : Int) < (n' : Int) := by omega
  go_wp2
  go_ret
  exact ⟨rfl, hbl⟩
theorem oB (X : VE) (a1 : Option Addr) (l1 c1 : Nat) (a2 : Option Addr) (l2 c2 : Nat) (a3 : Option Addr) (l3 c3 : Nat) (a4 : Option Addr) (l4 c4 : Nat) (a1' : Option Addr) (c1' : Nat) (a2' : Option Addr) (c2' : Nat) (a3' : Option Addr) (c3' : Nat) (a4' : Option Addr) (c4' : Nat) (w : World) (r1 : Rd w 0 (ah X.q.ws) (.slice a1 l1 c1)) (r2 : Rd w 0 (af X.q.bs) (.slice a2 l2 c2)) (r3 : Rd w 0 (ah X.a.ws) (.slice a3 l3 c3)) (r4 : Rd w 0 (af X.a.bs) (.slice a4 l4 c4)) (r1' : Rd w 0 (ah X.q.ws) (.slice a1' l1 c1')) (r2' : Rd w 0 (af X.q.bs) (.slice a2' l2 c2')) (r3' : Rd w 0 (ah X.a.ws) (.slice a3' l3 c3')) (r4' : Rd w 0 (af X.a.bs) (.slice a4' l4 c4')) (hz : ao 15 (aa (bJ X)) <= 1048576) :
 Calls prog 130 #[.agg (dx X a1 l1 c1 a2 l2 c2 a3 l3 c3 a4 l4 c4).toArray, .agg (dx X a1' l1 c1' a2' l2 c2' a3' l3 c3' a4' l4 c4').toArray] w fun e w' => e = .returned (.bool true) /\ Below w.heap.size w w' := by
 obtain ⟨W, hW⟩ : ∃ W, W = (w.alloc (.cells (dx X a1 l1 c1 a2 l2 c2 a3 l3 c3 a4 l4 c4).toArray 190)).alloc (.cells (dx X a1' l1 c1' a2' l2 c2' a3' l3 c3' a4' l4 c4').toArray 190) := ⟨_, rfl⟩
 have HZ : Hid (ao 6 (aa (qT X.q)) <= 1048576 /\ ao 6 (aa (aT X.a)) <= 1048576) := by
  rw [mE] at hz
  show ao 6 (aa (qT X.q)) <= 1048576 /\ ao 6 (aa (aT X.a)) <= 1048576
  simp only [dX, cO]
  omega
 have HR : Hid (Rd w 0 (ah X.q.ws) (.slice a1 l1 c1) /\ Rd w 0 (af X.q.bs) (.slice a2 l2 c2) /\ Rd w 0 (ah X.a.ws) (.slice a3 l3 c3) /\ Rd w 0 (af X.a.bs) (.slice a4 l4 c4) /\ Rd w 0 (ah X.q.ws) (.slice a1' l1 c1') /\ Rd w 0 (af X.q.bs) (.slice a2' l2 c2') /\ Rd w 0 (ah X.a.ws) (.slice a3' l3 c3') /\ Rd w 0 (af X.a.bs) (.slice a4' l4 c4')) := ⟨r1, r2, r3, r4, r1', r2', r3', r4'⟩
 have G0 : Hid (Below w.heap.size w W /\ ag W w.heap.size 190 (dx X a1 l1 c1 a2 l2 c2 a3 l3 c3 a4 l4 c4).toArray /\ ag W (w.heap.size + 1) 190 (dx X a1' l1 c1' a2' l2 c2' a3' l3 c3' a4' l4 c4').toArray) := ⟨by rw [hW]; exact ae (ac _ _) (ac _ _), by rw [hW]; exact (ag.new w _ _).below (ac _ _), by rw [hW]; have := ag.new (w.alloc (.cells (dx X a1 l1 c1 a2 l2 c2 a3 l3 c3 a4 l4 c4).toArray 190)) (dx X a1' l1 c1' a2' l2 c2' a3' l3 c3' a4' l4 c4').toArray 190; simpa using this⟩
 clear hz r1 r2 r3 r4 r1' r2' r3' r4'
 go_enter func130, ntmps130
 go_upto_region 1 with fail
 rw [<- hW]
 clear hW
 obtain ⟨⟨y0, y1, y2, y3, y4, y5, y6, y7, y8, y9, y10, y11, y12, y13, y14⟩, yf⟩ := G0.out.2.1.tc15
 obtain ⟨⟨z0, z1, z2, z3, z4, z5, z6, z7, z8, z9, aR, aV, z12, z13, z14⟩, zf⟩ := G0.out.2.2.tc15
 clear yf zf
 go_wp2_with fail
 refine (fH X.q a1 l1 c1 a2 l2 c2 a1' c1' a2' c2' _ (HR.out.1.below G0.out.1) (HR.out.2.1.below G0.out.1) (HR.out.2.2.2.2.1.below G0.out.1) (HR.out.2.2.2.2.2.1.below G0.out.1) HZ.out.1).mono ?_
 rintro e w1 ⟨rfl, hb1⟩
 have G1 : Hid (Below w.heap.size w w1 /\ ag w1 w.heap.size 190 (dx X a1 l1 c1 a2 l2 c2 a3 l3 c3 a4 l4 c4).toArray /\ ag w1 (w.heap.size + 1) 190 (dx X a1' l1 c1' a2' l2 c2' a3' l3 c3' a4' l4 c4').toArray) := ⟨ae G0.out.1 hb1, G0.out.2.1.below hb1, G0.out.2.2.below hb1⟩
 clear hb1 y0 y1 y2 y3 y4 y5 y6 y7 y8 y9 y10 y11 y12 y13 y14 z0 z1 z2 z3 z4 z5 z6 z7 z8 z9 aR aV z12 z13 z14
 obtain ⟨⟨y0, y1, y2, y3, y4, y5, y6, y7, y8, y9, y10, y11, y12, y13, y14⟩, yf⟩ := G1.out.2.1.tc15
 obtain ⟨⟨z0, z1, z2, z3, z4, z5, z6, z7, z8, z9, aR, aV, z12, z13, z14⟩, zf⟩ := G1.out.2.2.tc15
 clear yf zf
 go_wp2_with fail
 refine (gO X.a a3 l3 c3 a4 l4 c4 a3' c3' a4' c4' _ (HR.out.2.2.1.below G1.out.1) (HR.out.2.2.2.1.below G1.out.1) (HR.out.2.2.2.2.2.2.1.below G1.out.1) (HR.out.2.2.2.2.2.2.2.below G1.out.1) HZ.out.2).mono ?_
 rintro e w2 ⟨rfl, hb2⟩
 have G2 : Hid (Below w.heap.size w w2 /\ ag w2 w.heap.size 190 (dx X a1 l1 c1 a2 l2 c2 a3 l3 c3 a4 l4 c4).toArray /\ ag w2 (w.heap.size + 1) 190 (dx X a1' l1 c1' a2' l2 c2' a3' l3 c3' a4' l4 c4').toArray) := ⟨ae G1.out.1 hb2, G1.out.2.1.below hb2, G1.out.2.2.below hb2⟩
 clear hb2 y0 y1 y2 y3 y4 y5 y6 y7 y8 y9 y10 y11 y12 y13 y14 z0 z1 z2 z3 z4 z5 z6 z7 z8 z9 aR aV z12 z13 z14
 go_wp2
 go_ret
 exact ⟨rfl, G2.out.1⟩
theorem nm (n : Nat) (f : Nat -> VE) (a : Option Addr) (n' cap : Nat) (a' : Option Addr) (cap' : Nat) (w : World) (hs : Rd w 0 (.list 15 n (fun k => aa (bJ (f k)))) (.slice a n' cap)) (hs' : Rd w 0 (.list 15 n (fun k => aa (bJ (f k)))) (.slice a' n' cap')) (hz : (Tr.list 15 n (fun k => aa (bJ (f k)))).sz <= 1048576) :
 Calls prog 76 #[.slice a n' cap, .slice a' n' cap'] w fun e w' => e = .returned (.bool true) /\ Below w.heap.size w w' := by
 obtain ⟨a9, c9, h9, -, hn⟩ := hs.shape
 simp only [Value.slice.injEq] at h9
 obtain ⟨-, rfl, -⟩ := h9
 clear a9 c9 hn
 have hn1 : n' <= 1048576 := by rw [Tr.sz_list] at hz; omega
 have HZ : Hid (∀ k, k < n' -> ao 15 (aa (bJ (f k))) <= 1048576) := by
  show ∀ k, k < n' -> ao 15 (aa (bJ (f k))) <= 1048576
  intro k hk
  rw [Tr.sz_list] at hz
  have := cg (fun k => ao 15 (aa (bJ (f k)))) hk
  omega
 have HS : Hid (Rd w 0 (.list 15 n' (fun k => aa (bJ (f k)))) (.slice a n' cap) /\ Rd w 0 (.list 15 n' (fun k => aa (bJ (f k)))) (.slice a' n' cap')) := ⟨hs, hs'⟩
 clear hs hs' hz
 go_enter func76, ntmps76
 go_wp2
 go_loopw [5] (fun i wr => ∃ z : Nat, z <= n' /\ i = .int .i64 z /\ Below w.heap.size w wr) (fun i _ => n' - (intOf i).toNat)
 case atStart => exact ⟨0, Nat.zero_le _, rfl, Below.refl _ _⟩
 case round =>
  obtain ⟨k, hk, rfl, hbl⟩ := hrel
  by_cases hlt : k < n'
  ·have hi : (k : Int) < (n' : Int) := by omega
   obtain ⟨b, off, vs, rfl, _, hb0, hlen, hr, hrd⟩ := (HS.out.1.below hbl).at hlt
   obtain ⟨a1, c1, a2, c2, a3, c3, a4, c4, rfl, r1, r2, r3, r4⟩ := VE.cells hrd hlen
   clear hlen hrd hb0
   obtain ⟨b', off', vs, rfl, _, hb0, hlen, hr', hrd⟩ := (HS.out.2.below hbl).at hlt
   obtain ⟨a1', c1', a2', c2', a3', c3', a4', c4', rfl, r1', r2', r3', r4'⟩ := VE.cells hrd hlen
   clear hlen hrd hb0
   have d09 : wr.cell? ⟨b, off + k * 15, none⟩ = _ := hr 0 _ rfl
   have e09 : wr.cell? ⟨b', off' + k * 15, none⟩ = _ := hr' 0 _ rfl
   have d19 := hr 1 _ rfl
   have e19 := hr' 1 _ rfl
   have d29 := hr 2 _ rfl
   have e29 := hr' 2 _ rfl
   have d39 := hr 3 _ rfl
   have e39 := hr' 3 _ rfl
   have d49 := hr 4 _ rfl
   have e49 := hr' 4 _ rfl
   have d59 := hr 5 _ rfl
   have e59 := hr' 5 _ rfl
   have d69 := hr 6 _ rfl
   have e69 := hr' 6 _ rfl
   have d79 := hr 7 _ rfl
   have e79 := hr' 7 _ rfl
   have d89 := hr 8 _ rfl
   have e89 := hr' 8 _ rfl
   have d99 := hr 9 _ rfl
   have e99 := hr' 9 _ rfl
   have d109 := hr 10 _ rfl
   have e109 := hr' 10 _ rfl
   have d119 := hr 11 _ rfl
   have e119 := hr' 11 _ rfl
   have d129 := hr 12 _ rfl
   have e129 := hr' 12 _ rfl
   have d139 := hr 13 _ rfl
   have e139 := hr' 13 _ rfl
   have d149 := hr 14 _ rfl
   have e149 := hr' 14 _ rfl
   have HC := bg (fun u (hu : Below wr.heap.size wr u) => (oB (f k) a1 ((f k).q.ws.length) c1 a2 ((f k).q.bs.length) c2 a3 ((f k).a.ws.length) c3 a4 ((f k).a.bs.length) c4 a1' c1' a2' c2' a3' c3' a4' c4' u (r1.below hu) (r2.below hu) (r3.below hu) (r4.below hu) (r1'.below hu) (r2'.below hu) (r3'.below hu) (r4'.below hu) (HZ.out k hlt)).mono (fun e w1 h => (⟨h.1, ae hu h.2⟩ : e = .returned (.bool true) /\ Below wr.heap.size wr w1)))
   have HB := bg hbl
   clear r1 r2 r3 r4 r1' r2' r3' r4' hr hr' hbl
   go_wp2_with fail
   go_region_with (go_at_call 130; refine (HC.out _ (by first | exact Below.refl _ _ | exact (Below.refl _ _).drew | exact (Below.refl _ _).drew.drew)).mono ?_; rintro e w1 ⟨rfl, b1⟩)
   all_goals (
    have B1 := ae HB.out b1
    clear HC HB b1 d09 e09 d19 e19 d29 e29 d39 e39 d49 e49 d59 e59 d69 e69 d79 e79 d89 e89 d99 e99 d109 e109 d119 e119 d129 e129 d139 e139 d149 e149
    go_wp2
    go_roundw
    case rel => exact ⟨k + 1, by omega, by go_num, B1⟩
    case measure => simp [intOf]; omega)
  have hi : ¬ (k : Int) < (n' : Int) := by omega
  go_wp2
  go_ret
  exact ⟨rfl, hbl⟩
theorem pX (X : VW) (a1 : Option Addr) (l1 c1 : Nat) (a2 : Option Addr) (l2 c2 : Nat) (a3 : Option Addr) (l3 c3 : Nat) (a4 : Option Addr) (l4 c4 : Nat) (a5 : Option Addr) (l5 c5 : Nat) (a6 : Option Addr) (l6 c6 : Nat) (a7 : Option Addr) (l7 c7 : Nat) (a1' : Option Addr) (c1' : Nat) (a2' : Option Addr) (c2' : Nat) (a3' : Option Addr) (c3' : Nat) (a4' : Option Addr) (c4' : Nat) (a5' : Option Addr) (c5' : Nat) (a6' : Option Addr) (c6' : Nat) (a7' : Option Addr) (c7' : Nat) (w : World) (r1 : Rd w 0 (.list 7 X.fb.set.n (fun i => aa (bi (X.fb.set.f i)))) (.slice a1 l1 c1)) (r2 : Rd w 0 (.list 13 X.fb.op.m (fun i => aa (dT (X.fb.op.f i)))) (.slice a2 l2 c2)) (r3 : Rd w 0 (.list 17 X.fb.nl (fun i => aa (aU (X.fb.lf i)))) (.slice a3 l3 c3)) (r4 : Rd w 0 (.list 6 X.ns (fun i => aa (bn (X.sf i)))) (.slice a4 l4 c4)) (r5 : Rd w 0 (.list 16 X.nk (fun i => aa (br (X.kf i)))) (.slice a5 l5 c5)) (r6 : Rd w 0 (.list 16 X.nr (fun i => aa (bI (X.rf i)))) (.slice a6 l6 c6)) (r7 : Rd w 0 (.list 15 X.ne (fun i => aa (bJ (X.ef i)))) (.slice a7 l7 c7)) (r1' : Rd w 0 (.list 7 X.fb.set.n (fun i => aa (bi (X.fb.set.f i)))) (.slice a1' l1 c1')) (r2' : Rd w 0 (.list 13 X.fb.op.m (fun i => aa (dT (X.fb.op.f i)))) (.slice a2' l2 c2')) (r3' : Rd w 0 (.list 17 X.fb.nl (fun i => aa (aU (X.fb.lf i)))) (.slice a3' l3 c3')) (r4' : Rd w 0 (.list 6 X.ns (fun i => aa (bn (X.sf i)))) (.slice a4' l4 c4')) (r5' : Rd w 0 (.list 16 X.nk (fun i => aa (br (X.kf i)))) (.slice a5' l5 c5')) (r6' : Rd w 0 (.list 16 X.nr (fun i => aa (bI (X.rf i)))) (.slice a6' l6 c6')) (r7' : Rd w 0 (.list 15 X.ne (fun i => aa (bJ (X.ef i)))) (.slice a7' l7 c7')) (hz : ao 15 (aa (eX X)) <= 1048576) :
 Calls prog 27 #[.agg (bt X a1 l1 c1 a2 l2 c2 a3 l3 c3 a4 l4 c4 a5 l5 c5 a6 l6 c6 a7 l7 c7).toArray, .agg (bt X a1' l1 c1' a2' l2 c2' a3' l3 c3' a4' l4 c4' a5' l5 c5' a6' l6 c6' a7' l7 c7').toArray] w fun e w' => e = .returned (.bool true) /\ Below w.heap.size w w' := by
 obtain ⟨W, hW⟩ : ∃ W, W = (w.alloc (.cells (bt X a1 l1 c1 a2 l2 c2 a3 l3 c3 a4 l4 c4 a5 l5 c5 a6 l6 c6 a7 l7 c7).toArray 67)).alloc (.cells (bt X a1' l1 c1' a2' l2 c2' a3' l3 c3' a4' l4 c4' a5' l5 c5' a6' l6 c6' a7' l7 c7').toArray 67) := ⟨_, rfl⟩
 have HZ : Hid (ao 11 (aa (dS X.fb)) <= 1048576 /\ (Tr.list 6 X.ns (fun i => aa (bn (X.sf i)))).sz <= 1048576 /\ (Tr.list 16 X.nk (fun i => aa (br (X.kf i)))).sz <= 1048576 /\ (Tr.list 16 X.nr (fun i => aa (bI (X.rf i)))).sz <= 1048576 /\ (Tr.list 15 X.ne (fun i => aa (bJ (X.ef i)))).sz <= 1048576) := by
  rw [j8] at hz
  show ao 11 (aa (dS X.fb)) <= 1048576 /\ (Tr.list 6 X.ns (fun i => aa (bn (X.sf i)))).sz <= 1048576 /\ (Tr.list 16 X.nk (fun i => aa (br (X.kf i)))).sz <= 1048576 /\ (Tr.list 16 X.nr (fun i => aa (bI (X.rf i)))).sz <= 1048576 /\ (Tr.list 15 X.ne (fun i => aa (bJ (X.ef i)))).sz <= 1048576
  simp only [fn]
  omega
 have HR : Hid (Rd w 0 (.list 7 X.fb.set.n (fun i => aa (bi (X.fb.set.f i)))) (.slice a1 l1 c1) /\ Rd w 0 (.list 13 X.fb.op.m (fun i => aa (dT (X.fb.op.f i)))) (.slice a2 l2 c2) /\ Rd w 0 (.list 17 X.fb.nl (fun i => aa (aU (X.fb.lf i)))) (.slice a3 l3 c3) /\ Rd w 0 (.list 6 X.ns (fun i => aa (bn (X.sf i)))) (.slice a4 l4 c4) /\ Rd w 0 (.list 16 X.nk (fun i => aa (br (X.kf i)))) (.slice a5 l5 c5) /\ Rd w 0 (.list 16 X.nr (fun i => aa (bI (X.rf i)))) (.slice a6 l6 c6) /\ Rd w 0 (.list 15 X.ne (fun i => aa (bJ (X.ef i)))) (.slice a7 l7 c7) /\ Rd w 0 (.list 7 X.fb.set.n (fun i => aa (bi (X.fb.set.f i)))) (.slice a1' l1 c1') /\ Rd w 0 (.list 13 X.fb.op.m (fun i => aa (dT (X.fb.op.f i)))) (.slice a2' l2 c2') /\ Rd w 0 (.list 17 X.fb.nl (fun i => aa (aU (X.fb.lf i)))) (.slice a3' l3 c3') /\ Rd w 0 (.list 6 X.ns (fun i => aa (bn (X.sf i)))) (.slice a4' l4 c4') /\ Rd w 0 (.list 16 X.nk (fun i => aa (br (X.kf i)))) (.slice a5' l5 c5') /\ Rd w 0 (.list 16 X.nr (fun i => aa (bI (X.rf i)))) (.slice a6' l6 c6') /\ Rd w 0 (.list 15 X.ne (fun i => aa (bJ (X.ef i)))) (.slice a7' l7 c7')) := ⟨r1, r2, r3, r4, r5, r6, r7, r1', r2', r3', r4', r5', r6', r7'⟩
 have G0 : Hid (Below w.heap.size w W /\ ag W w.heap.size 67 (bt X a1 l1 c1 a2 l2 c2 a3 l3 c3 a4 l4 c4 a5 l5 c5 a6 l6 c6 a7 l7 c7).toArray /\ ag W (w.heap.size + 1) 67 (bt X a1' l1 c1' a2' l2 c2' a3' l3 c3' a4' l4 c4' a5' l5 c5' a6' l6 c6' a7' l7 c7').toArray) := ⟨by rw [hW]; exact ae (ac _ _) (ac _ _), by rw [hW]; exact (ag.new w _ _).below (ac _ _), by rw [hW]; have := ag.new (w.alloc (.cells (bt X a1 l1 c1 a2 l2 c2 a3 l3 c3 a4 l4 c4 a5 l5 c5 a6 l6 c6 a7 l7 c7).toArray 67)) (bt X a1' l1 c1' a2' l2 c2' a3' l3 c3' a4' l4 c4' a5' l5 c5' a6' l6 c6' a7' l7 c7').toArray 67; simpa using this⟩
 clear hz r1 r2 r3 r4 r5 r6 r7 r1' r2' r3' r4' r5' r6' r7'
 go_enter func27, ntmps27
 go_upto_region 1 with fail
 rw [<- hW]
 clear hW
 obtain ⟨⟨y0, y1, y2, y3, y4, y5, y6, y7, y8, y9, y10, y11, y12, y13, y14⟩, yf⟩ := G0.out.2.1.tc15
 obtain ⟨⟨z0, z1, z2, z3, z4, z5, z6, z7, z8, z9, aR, aV, z12, z13, z14⟩, zf⟩ := G0.out.2.2.tc15
 clear yf zf
 go_wp2_with fail
 refine (oT X.fb a1 l1 c1 a2 l2 c2 a3 l3 c3 a1' c1' a2' c2' a3' c3' _ (HR.out.1.below G0.out.1) (HR.out.2.1.below G0.out.1) (HR.out.2.2.1.below G0.out.1) (HR.out.2.2.2.2.2.2.2.1.below G0.out.1) (HR.out.2.2.2.2.2.2.2.2.1.below G0.out.1) (HR.out.2.2.2.2.2.2.2.2.2.1.below G0.out.1) HZ.out.1).mono ?_
 rintro e w1 ⟨rfl, hb1⟩
 have G1 : Hid (Below w.heap.size w w1 /\ ag w1 w.heap.size 67 (bt X a1 l1 c1 a2 l2 c2 a3 l3 c3 a4 l4 c4 a5 l5 c5 a6 l6 c6 a7 l7 c7).toArray /\ ag w1 (w.heap.size + 1) 67 (bt X a1' l1 c1' a2' l2 c2' a3' l3 c3' a4' l4 c4' a5' l5 c5' a6' l6 c6' a7' l7 c7').toArray) := ⟨ae G0.out.1 hb1, G0.out.2.1.below hb1, G0.out.2.2.below hb1⟩
 clear hb1 y0 y1 y2 y3 y4 y5 y6 y7 y8 y9 y10 y11 y12 y13 y14 z0 z1 z2 z3 z4 z5 z6 z7 z8 z9 aR aV z12 z13 z14
 obtain ⟨⟨y0, y1, y2, y3, y4, y5, y6, y7, y8, y9, y10, y11, y12, y13, y14⟩, yf⟩ := G1.out.2.1.tc15
 obtain ⟨⟨z0, z1, z2, z3, z4, z5, z6, z7, z8, z9, aR, aV, z12, z13, z14⟩, zf⟩ := G1.out.2.2.tc15
 clear yf zf
 go_wp2_with fail
 refine (pV X.ns X.sf a4 l4 c4 a4' c4' _ (HR.out.2.2.2.1.below G1.out.1) (HR.out.2.2.2.2.2.2.2.2.2.2.1.below G1.out.1) HZ.out.2.1).mono ?_
 rintro e w2 ⟨rfl, hb2⟩
 have G2 : Hid (Below w.heap.size w w2 /\ ag w2 w.heap.size 67 (bt X a1 l1 c1 a2 l2 c2 a3 l3 c3 a4 l4 c4 a5 l5 c5 a6 l6 c6 a7 l7 c7).toArray /\ ag w2 (w.heap.size + 1) 67 (bt X a1' l1 c1' a2' l2 c2' a3' l3 c3' a4' l4 c4' a5' l5 c5' a6' l6 c6' a7' l7 c7').toArray) := ⟨ae G1.out.1 hb2, G1.out.2.1.below hb2, G1.out.2.2.below hb2⟩
 clear hb2 y0 y1 y2 y3 y4 y5 y6 y7 y8 y9 y10 y11 y12 y13 y14 z0 z1 z2 z3 z4 z5 z6 z7 z8 z9 aR aV z12 z13 z14
 obtain ⟨⟨y0, y1, y2, y3, y4, y5, y6, y7, y8, y9, y10, y11, y12, y13, y14⟩, yf⟩ := G2.out.2.1.tc15
 obtain ⟨⟨z0, z1, z2, z3, z4, z5, z6, z7, z8, z9, aR, aV, z12, z13, z14⟩, zf⟩ := G2.out.2.2.tc15
 clear yf zf
 go_wp2_with fail
 refine (nj X.nk X.kf a5 l5 c5 a5' c5' _ (HR.out.2.2.2.2.1.below G2.out.1) (HR.out.2.2.2.2.2.2.2.2.2.2.2.1.below G2.out.1) HZ.out.2.2.1).mono ?_
 rintro e w3 ⟨rfl, hb3⟩
 have G3 : Hid (Below w.heap.size w w3 /\ ag w3 w.heap.size 67 (bt X a1 l1 c1 a2 l2 c2 a3 l3 c3 a4 l4 c4 a5 l5 c5 a6 l6 c6 a7 l7 c7).toArray /\ ag w3 (w.heap.size + 1) 67 (bt X a1' l1 c1' a2' l2 c2' a3' l3 c3' a4' l4 c4' a5' l5 c5' a6' l6 c6' a7' l7 c7').toArray) := ⟨ae G2.out.1 hb3, G2.out.2.1.below hb3, G2.out.2.2.below hb3⟩
 clear hb3 y0 y1 y2 y3 y4 y5 y6 y7 y8 y9 y10 y11 y12 y13 y14 z0 z1 z2 z3 z4 z5 z6 z7 z8 z9 aR aV z12 z13 z14
 obtain ⟨⟨y0, y1, y2, y3, y4, y5, y6, y7, y8, y9, y10, y11, y12, y13, y14⟩, yf⟩ := G3.out.2.1.tc15
 obtain ⟨⟨z0, z1, z2, z3, z4, z5, z6, z7, z8, z9, aR, aV, z12, z13, z14⟩, zf⟩ := G3.out.2.2.tc15
 clear yf zf
 go_wp2_with fail
 refine (oA X.nr X.rf a6 l6 c6 a6' c6' _ (HR.out.2.2.2.2.2.1.below G3.out.1) (HR.out.2.2.2.2.2.2.2.2.2.2.2.2.1.below G3.out.1) HZ.out.2.2.2.1).mono ?_
 rintro e w4 ⟨rfl, hb4⟩
 have G4 : Hid (Below w.heap.size w w4 /\ ag w4 w.heap.size 67 (bt X a1 l1 c1 a2 l2 c2 a3 l3 c3 a4 l4 c4 a5 l5 c5 a6 l6 c6 a7 l7 c7).toArray /\ ag w4 (w.heap.size + 1) 67 (bt X a1' l1 c1' a2' l2 c2' a3' l3 c3' a4' l4 c4' a5' l5 c5' a6' l6 c6' a7' l7 c7').toArray) := ⟨ae G3.out.1 hb4, G3.out.2.1.below hb4, G3.out.2.2.below hb4⟩
 clear hb4 y0 y1 y2 y3 y4 y5 y6 y7 y8 y9 y10 y11 y12 y13 y14 z0 z1 z2 z3 z4 z5 z6 z7 z8 z9 aR aV z12 z13 z14
 obtain ⟨⟨y0, y1, y2, y3, y4, y5, y6, y7, y8, y9, y10, y11, y12, y13, y14⟩, yf⟩ := G4.out.2.1.tc15
 obtain ⟨⟨z0, z1, z2, z3, z4, z5, z6, z7, z8, z9, aR, aV, z12, z13, z14⟩, zf⟩ := G4.out.2.2.tc15
 clear yf zf
 go_wp2_with fail
 refine (nm X.ne X.ef a7 l7 c7 a7' c7' _ (HR.out.2.2.2.2.2.2.1.below G4.out.1) (HR.out.2.2.2.2.2.2.2.2.2.2.2.2.2.below G4.out.1) HZ.out.2.2.2.2).mono ?_
 rintro e w5 ⟨rfl, hb5⟩
 have G5 : Hid (Below w.heap.size w w5 /\ ag w5 w.heap.size 67 (bt X a1 l1 c1 a2 l2 c2 a3 l3 c3 a4 l4 c4 a5 l5 c5 a6 l6 c6 a7 l7 c7).toArray /\ ag w5 (w.heap.size + 1) 67 (bt X a1' l1 c1' a2' l2 c2' a3' l3 c3' a4' l4 c4' a5' l5 c5' a6' l6 c6' a7' l7 c7').toArray) := ⟨ae G4.out.1 hb5, G4.out.2.1.below hb5, G4.out.2.2.below hb5⟩
 clear hb5 y0 y1 y2 y3 y4 y5 y6 y7 y8 y9 y10 y11 y12 y13 y14 z0 z1 z2 z3 z4 z5 z6 z7 z8 z9 aR aV z12 z13 z14
 go_wp2
 go_ret
 exact ⟨rfl, G5.out.1⟩
end Go.Proofs.YtplaoagcedgdfaaGreat
