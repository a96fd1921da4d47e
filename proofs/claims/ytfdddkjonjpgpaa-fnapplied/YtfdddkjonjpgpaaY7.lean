/- Texts that the proof needs, joined: Dev18b Dev19 Dev10 Dev11 Dev12 Dev20 Steps. -/
import Derived.Test.YtfdddkjonjpgpaaY6
import Derived.Test.YtfdddkjonjpgpaaY5
import Derived.WalkKit
import Derived.Deep.RegionLaw
namespace Go.Proofs.Ytfdddkjonjpgpaa
open Go.RowKit
set_option linter.unusedVariables false
set_option linter.unusedSimpArgs false
set_option maxRecDepth 20000 in
set_option maxHeartbeats 8000000 in
theorem serve_5 (a1 a2 a3 a4 : Option Addr) (l1 l2 l3 l4 c1 c2 c3 c4 : Nat) (cs is : List Bool) (hs rs : List Int) (pl nn wa : Int) (q1 q2 : Option Addr) (m1 m2 k1 k2 : Nat) (ws : List Int) (bs : List Bool) (W0 w : World) (hB : Below W0.heap.size W0 w) (hD : OwnD w W0.heap.size a1 a2 a3 a4 l1 l2 l3 l4 c1 c2 c3 c4 cs is hs rs) (hn : m1 = ws.length) (hn2 : m2 = bs.length) (hq : SlI W0 q1 ws) (hq2 : SlB W0 q2 bs) (hl : ws.length ≤ 2000000) (hl2 : bs.length ≤ 2000000) (hok : okR 5 pl nn wa ws m1 m2 = true) (hd : okD l1 l2 l3 l4 hs rs = true) (hsm : SmD 2000000 cs is hs rs)
    (cs' is' : List Bool) (hs' rs' : List Int) (ws' : List Int) (bs' : List Bool) (pl' nn' : Int)
    (hAll : ∀ w : World, SlI w q1 ws → SlB w q2 bs → Calls Try.prog 64 #[dv a1 a2 a3 a4 l1 l2 l3 l4 c1 c2 c3 c4, rq 5 pl nn wa q1 q2 m1 m2 k1 k2] w fun e w' => e = .returned (.bool true) ∧ Below w.heap.size w w')
    (hdo : ∀ w : World, Below W0.heap.size W0 w → OwnD w W0.heap.size a1 a2 a3 a4 l1 l2 l3 l4 c1 c2 c3 c4 cs is hs rs → Calls Try.prog 81 #[dv a1 a2 a3 a4 l1 l2 l3 l4 c1 c2 c3 c4, rq 5 pl nn wa q1 q2 m1 m2 k1 k2] w fun e w' => SV W0 w w' e a1 a2 a3 a4 l1 l2 l3 l4 c1 c2 c3 c4 cs' is' hs' rs' 5 0 pl' nn' ws' bs') :
    Calls Try.prog 31 #[dv a1 a2 a3 a4 l1 l2 l3 l4 c1 c2 c3 c4, rq 5 pl nn wa q1 q2 m1 m2 k1 k2] w fun e w' => SV W0 w w' e a1 a2 a3 a4 l1 l2 l3 l4 c1 c2 c3 c4 cs' is' hs' rs' 5 0 pl' nn' ws' bs' := by
  obtain ⟨z, hz⟩ : ∃ z, z = ((w.alloc (.cells #[.slice a1 l1 c1, .slice a2 l2 c2, .slice a3 l3 c3, .slice a4 l4 c4] 27)).alloc (.cells #[.int .i64 5, .int .i64 pl, .int .i64 nn, .slice q1 m1 k1, .slice q2 m2 k2, .int .i64 wa] 57)).alloc (.cells #[.int .i64 0, .int .i64 0, .int .i64 0, .int .i64 0, .slice none 0 0, .slice none 0 0] 37) := ⟨_, rfl⟩
  have HZ : Hid (z = _) := hz
  have b0 : Below w.heap.size w z := by rw [hz]; exact bel_next (bel_next (bel_alloc w _) (bel_alloc _ _)) (bel_alloc _ _)
  have X0 : Blk z w.heap.size 27 #[.slice a1 l1 c1, .slice a2 l2 c2, .slice a3 l3 c3, .slice a4 l4 c4] := by rw [hz]; exact ((Blk.new w _ _).below (bel_alloc _ _)).below (bel_alloc _ _)
  have Y0 : Blk z (w.heap.size + 1) 57 #[.int .i64 5, .int .i64 pl, .int .i64 nn, .slice q1 m1 k1, .slice q2 m2 k2, .int .i64 wa] := by rw [hz]; have := (Blk.new (w.alloc (.cells #[.slice a1 l1 c1, .slice a2 l2 c2, .slice a3 l3 c3, .slice a4 l4 c4] 27)) #[.int .i64 5, .int .i64 pl, .int .i64 nn, .slice q1 m1 k1, .slice q2 m2 k2, .int .i64 wa] 57).below (bel_alloc _ (.cells #[.int .i64 0, .int .i64 0, .int .i64 0, .int .i64 0, .slice none 0 0, .slice none 0 0] 37)); simpa using this
  have R0 : Blk z (w.heap.size + 1 + 1) 37 #[.int .i64 0, .int .i64 0, .int .i64 0, .int .i64 0, .slice none 0 0, .slice none 0 0] := by rw [hz]; have := Blk.new ((w.alloc (.cells #[.slice a1 l1 c1, .slice a2 l2 c2, .slice a3 l3 c3, .slice a4 l4 c4] 27)).alloc (.cells #[.int .i64 5, .int .i64 pl, .int .i64 nn, .slice q1 m1 k1, .slice q2 m2 k2, .int .i64 wa] 57)) #[.int .i64 0, .int .i64 0, .int .i64 0, .int .i64 0, .slice none 0 0, .slice none 0 0] 37; simpa using this
  have HB0 : Hid (Below W0.heap.size W0 w) := hB
  have HD0 : Hid (OwnD w W0.heap.size a1 a2 a3 a4 l1 l2 l3 l4 c1 c2 c3 c4 cs is hs rs) := hD
  have HQ : Hid (m1 = ws.length ∧ m2 = bs.length ∧ SlI W0 q1 ws ∧ SlB W0 q2 bs ∧ ws.length ≤ 2000000 ∧ bs.length ≤ 2000000) := ⟨hn, hn2, hq, hq2, hl, hl2⟩
  have HOK : Hid (okR 5 pl nn wa ws m1 m2 = true ∧ okD l1 l2 l3 l4 hs rs = true ∧ SmD 2000000 cs is hs rs ∧ LnD l1 l2 l3 l4 cs is hs rs) := ⟨hok, hd, hsm, hD.sl.1⟩
  have HA : Hid _ := hAll
  have HDO : Hid _ := hdo
  have BW : ∀ u : World, Below w.heap.size w u → Below W0.heap.size W0 u := fun u hu => HB0.out.trans (hu.mono HB0.out.size)
  obtain ⟨x0, x1, x2, x3⟩ := X0.four
  obtain ⟨y0, y1, y2, y3, y4, y5⟩ := Y0.six
  clear hz hB hD hn hn2 hq hq2 hl hl2 hok hd hsm hAll hdo
  go_enter Try.func31, Try.ntmps31
  go_upto_region 1 with fail
  rw [← HZ.out]
  go_wp2_with fail
  refine (implReqOk_q 5 pl nn wa q1 q2 m1 m2 k1 k2 ws bs _ HQ.out.1 HQ.out.2.1 (HQ.out.2.2.1.below (BW _ b0)) (HQ.out.2.2.2.1.below (BW _ b0)) HQ.out.2.2.2.2.1 HQ.out.2.2.2.2.2).mono ?_
  rintro e w1 ⟨he, b'⟩
  rw [HOK.out.1] at he
  subst he
  have b1 := bel_next b0 b'
  have X1 := X0.below b'
  have Y1 := Y0.below b'
  have R1 := R0.below b'
  clear x0 x1 x2 x3 y0 y1 y2 y3 y4 y5 X0 Y0 R0 b0 b'
  obtain ⟨x0, x1, x2, x3⟩ := X1.four
  obtain ⟨y0, y1, y2, y3, y4, y5⟩ := Y1.six
  go_wp2_with fail
  refine (implDeviceOk_any a1 a2 a3 a4 l1 l2 l3 l4 c1 c2 c3 c4 cs is hs rs _ HOK.out.2.2.2 (HD0.out.below b1).sl.2 HOK.out.2.2.1 _ HOK.out.2.1).mono ?_
  rintro e w2 ⟨rfl, b'⟩
  have b2 := bel_next b1 b'
  have X2 := X1.below b'
  have Y2 := Y1.below b'
  have R2 := R1.below b'
  clear x0 x1 x2 x3 y0 y1 y2 y3 y4 y5 X1 Y1 R1 b1 b'
  obtain ⟨x0, x1, x2, x3⟩ := X2.four
  obtain ⟨y0, y1, y2, y3, y4, y5⟩ := Y2.six
  go_wp2_with fail
  refine (HA.out _ (HQ.out.2.2.1.below (BW _ b2)) (HQ.out.2.2.2.1.below (BW _ b2))).mono ?_
  rintro e w3 ⟨rfl, b'⟩
  have b3 := bel_next b2 b'
  have X3 := X2.below b'
  have Y3 := Y2.below b'
  have R3 := R2.below b'
  clear x0 x1 x2 x3 y0 y1 y2 y3 y4 y5 X2 Y2 R2 b2 b'
  obtain ⟨x0, x1, x2, x3⟩ := X3.four
  obtain ⟨y0, y1, y2, y3, y4, y5⟩ := Y3.six
  go_upto_region 7 with fail
  have d3 : Below w3.heap.size w3 w3.drew := (Below.refl _ _).drew
  have hne2 : ¬ (w.heap.size = w.heap.size + 1 + 1) := by omega
  have hne3 : ¬ (w.heap.size + 1 + 1 = w.heap.size) := by omega
  go_region_held3 (fun w' => w'.cell? ⟨w.heap.size, 0, none⟩ = some (.slice a1 l1 c1) ∧ w'.cell? ⟨w.heap.size, 1, none⟩ = some (.slice a2 l2 c2) ∧ w'.cell? ⟨w.heap.size, 2, none⟩ = some (.slice a3 l3 c3) ∧ w'.cell? ⟨w.heap.size, 3, none⟩ = some (.slice a4 l4 c4) ∧ w'.cell? ⟨w.heap.size + 1, 0, none⟩ = some (.int .i64 5) ∧ w'.cell? ⟨w.heap.size + 1, 1, none⟩ = some (.int .i64 pl) ∧ w'.cell? ⟨w.heap.size + 1, 2, none⟩ = some (.int .i64 nn) ∧ w'.cell? ⟨w.heap.size + 1, 3, none⟩ = some (.slice q1 m1 k1) ∧ w'.cell? ⟨w.heap.size + 1, 4, none⟩ = some (.slice q2 m2 k2) ∧ w'.cell? ⟨w.heap.size + 1, 5, none⟩ = some (.int .i64 wa)) (go_keep)
    (first
      | (go_at_call 65; refine (deeds_any _).mono ?_; rintro e w4 ⟨rfl, hm4, b'⟩; have B4 : Below w3.heap.size w3 w4 := (by first | exact b' | exact bel_next d3 b'); have lk4 : (Instr.lookup 87 (.map (some w3.heap.size)) (.int .i64 5) false).run Try.prog w4 = .ok (.func (.func 81) #[] #[]) w4 := mp_get 5 (.func (.func 81) #[] #[]) 4 _ _ _ _ hm4 rfl; obtain ⟨x40, x41, x42, x43⟩ := (X3.below B4).four; obtain ⟨y40, y41, y42, y43, y44, y45⟩ := (Y3.below B4).six; clear b')
      | (go_at_call 81; refine (HDO.out _ (BW _ (by first | exact bel_next b3 B4 | exact (bel_next b3 B4).drew)) (HD0.out.below (by first | exact bel_next b3 B4 | exact (bel_next b3 B4).drew))).mono ?_; rintro e w5 ⟨r1, r2, n1, n2, e1, e2, rfl, o1, o2, o3, o4, o5⟩; have D4 := HD0.out.below (bel_next b3 B4); have X5 := (X3.below B4).chg o5 (D4.noBlk (X3.below B4) (by decide) (by decide)); have Y5 := (Y3.below B4).chg o5 (D4.noBlk (Y3.below B4) (by decide) (by decide)); have R5 := (R3.below B4).chg o5 (D4.noBlk (R3.below B4) (by decide) (by decide)); obtain ⟨x50, x51, x52, x53⟩ := X5.four; obtain ⟨y50, y51, y52, y53, y54, y55⟩ := Y5.six; obtain ⟨s0, s1, s2, s3, s4, s5⟩ := R5.six; have f0 := R5.fro 0; have f1 := R5.fro 1; have f2 := R5.fro 2; have f3 := R5.fro 3; have f4 := R5.fro 4; have f5 := R5.fro 5; have sz4 : w.heap.size ≤ w4.heap.size := (bel_next b3 B4).size; have HH : Hid (OwnI w5 w.heap.size (.slice r1 n1 e1) ws' ∧ OwnB w5 w.heap.size (.slice r2 n2 e2) bs' ∧ OwnD w5 W0.heap.size a1 a2 a3 a4 l1 l2 l3 l4 c1 c2 c3 c4 cs' is' hs' rs' ∧ Below W0.heap.size W0 w5 ∧ Chg w w5 (Of4 (.slice a1 l1 c1) (.slice a2 l2 c2) (.slice a3 l3 c3) (.slice a4 l4 c4)) ∧ ExB w5 (w.heap.size + 1 + 1) 37) := ⟨OwnI.mono o1 (by exact sz4), OwnB.mono o2 (by exact sz4), o3, o4, (Chg.ofBelow (bel_next b3 B4)).trans o5, ⟨_, R5⟩⟩; have HZ0 : Hid (W0.heap.size ≤ w.heap.size) := HB0.out.size; clear o1 o2 o3 o4 o5 D4 X5 Y5 R5))
  all_goals (
    go_wp2
    refine bodyPost_ret (v := rp 5 0 pl' nn' r1 r2 n1 n2 e1 e2) (by simp [results, Try.results31, go_sem, s0, s1, s2, s3, s4, s5]) rfl ?_
    obtain ⟨o1, o2, o3, o4, o5, o6⟩ := HH.out
    exact ⟨_, _, _, _, _, _, rfl, rowp_set6 o1 o6 (by decide), rowp_set6 o2 o6 (by decide), o3.set6 o6 (by decide) (by decide), belp_set6 o4 (by have := HZ0.out; omega), o5.set6 (by omega)⟩)
set_option maxRecDepth 20000 in
set_option maxHeartbeats 8000000 in
theorem serve_15 (a1 a2 a3 a4 : Option Addr) (l1 l2 l3 l4 c1 c2 c3 c4 : Nat) (cs is : List Bool) (hs rs : List Int) (pl nn wa : Int) (q1 q2 : Option Addr) (m1 m2 k1 k2 : Nat) (ws : List Int) (bs : List Bool) (W0 w : World) (hB : Below W0.heap.size W0 w) (hD : OwnD w W0.heap.size a1 a2 a3 a4 l1 l2 l3 l4 c1 c2 c3 c4 cs is hs rs) (hn : m1 = ws.length) (hn2 : m2 = bs.length) (hq : SlI W0 q1 ws) (hq2 : SlB W0 q2 bs) (hl : ws.length ≤ 2000000) (hl2 : bs.length ≤ 2000000) (hok : okR 15 pl nn wa ws m1 m2 = true) (hd : okD l1 l2 l3 l4 hs rs = true) (hsm : SmD 2000000 cs is hs rs)
    (cs' is' : List Bool) (hs' rs' : List Int) (ws' : List Int) (bs' : List Bool) (pl' nn' : Int)
    (hAll : ∀ w : World, SlI w q1 ws → SlB w q2 bs → Calls Try.prog 64 #[dv a1 a2 a3 a4 l1 l2 l3 l4 c1 c2 c3 c4, rq 15 pl nn wa q1 q2 m1 m2 k1 k2] w fun e w' => e = .returned (.bool true) ∧ Below w.heap.size w w')
    (hdo : ∀ w : World, Below W0.heap.size W0 w → OwnD w W0.heap.size a1 a2 a3 a4 l1 l2 l3 l4 c1 c2 c3 c4 cs is hs rs → Calls Try.prog 83 #[dv a1 a2 a3 a4 l1 l2 l3 l4 c1 c2 c3 c4, rq 15 pl nn wa q1 q2 m1 m2 k1 k2] w fun e w' => SV W0 w w' e a1 a2 a3 a4 l1 l2 l3 l4 c1 c2 c3 c4 cs' is' hs' rs' 15 0 pl' nn' ws' bs') :
    Calls Try.prog 31 #[dv a1 a2 a3 a4 l1 l2 l3 l4 c1 c2 c3 c4, rq 15 pl nn wa q1 q2 m1 m2 k1 k2] w fun e w' => SV W0 w w' e a1 a2 a3 a4 l1 l2 l3 l4 c1 c2 c3 c4 cs' is' hs' rs' 15 0 pl' nn' ws' bs' := by
  obtain ⟨z, hz⟩ : ∃ z, z = ((w.alloc (.cells #[.slice a1 l1 c1, .slice a2 l2 c2, .slice a3 l3 c3, .slice a4 l4 c4] 27)).alloc (.cells #[.int .i64 15, .int .i64 pl, .int .i64 nn, .slice q1 m1 k1, .slice q2 m2 k2, .int .i64 wa] 57)).alloc (.cells #[.int .i64 0, .int .i64 0, .int .i64 0, .int .i64 0, .slice none 0 0, .slice none 0 0] 37) := ⟨_, rfl⟩
  have HZ : Hid (z = _) := hz
  have b0 : Below w.heap.size w z := by rw [hz]; exact bel_next (bel_next (bel_alloc w _) (bel_alloc _ _)) (bel_alloc _ _)
  have X0 : Blk z w.heap.size 27 #[.slice a1 l1 c1, .slice a2 l2 c2, .slice a3 l3 c3, .slice a4 l4 c4] := by rw [hz]; exact ((Blk.new w _ _).below (bel_alloc _ _)).below (bel_alloc _ _)
  have Y0 : Blk z (w.heap.size + 1) 57 #[.int .i64 15, .int .i64 pl, .int .i64 nn, .slice q1 m1 k1, .slice q2 m2 k2, .int .i64 wa] := by rw [hz]; have := (Blk.new (w.alloc (.cells #[.slice a1 l1 c1, .slice a2 l2 c2, .slice a3 l3 c3, .slice a4 l4 c4] 27)) #[.int .i64 15, .int .i64 pl, .int .i64 nn, .slice q1 m1 k1, .slice q2 m2 k2, .int .i64 wa] 57).below (bel_alloc _ (.cells #[.int .i64 0, .int .i64 0, .int .i64 0, .int .i64 0, .slice none 0 0, .slice none 0 0] 37)); simpa using this
  have R0 : Blk z (w.heap.size + 1 + 1) 37 #[.int .i64 0, .int .i64 0, .int .i64 0, .int .i64 0, .slice none 0 0, .slice none 0 0] := by rw [hz]; have := Blk.new ((w.alloc (.cells #[.slice a1 l1 c1, .slice a2 l2 c2, .slice a3 l3 c3, .slice a4 l4 c4] 27)).alloc (.cells #[.int .i64 15, .int .i64 pl, .int .i64 nn, .slice q1 m1 k1, .slice q2 m2 k2, .int .i64 wa] 57)) #[.int .i64 0, .int .i64 0, .int .i64 0, .int .i64 0, .slice none 0 0, .slice none 0 0] 37; simpa using this
  have HB0 : Hid (Below W0.heap.size W0 w) := hB
  have HD0 : Hid (OwnD w W0.heap.size a1 a2 a3 a4 l1 l2 l3 l4 c1 c2 c3 c4 cs is hs rs) := hD
  have HQ : Hid (m1 = ws.length ∧ m2 = bs.length ∧ SlI W0 q1 ws ∧ SlB W0 q2 bs ∧ ws.length ≤ 2000000 ∧ bs.length ≤ 2000000) := ⟨hn, hn2, hq, hq2, hl, hl2⟩
  have HOK : Hid (okR 15 pl nn wa ws m1 m2 = true ∧ okD l1 l2 l3 l4 hs rs = true ∧ SmD 2000000 cs is hs rs ∧ LnD l1 l2 l3 l4 cs is hs rs) := ⟨hok, hd, hsm, hD.sl.1⟩
  have HA : Hid _ := hAll
  have HDO : Hid _ := hdo
  have BW : ∀ u : World, Below w.heap.size w u → Below W0.heap.size W0 u := fun u hu => HB0.out.trans (hu.mono HB0.out.size)
  obtain ⟨x0, x1, x2, x3⟩ := X0.four
  obtain ⟨y0, y1, y2, y3, y4, y5⟩ := Y0.six
  clear hz hB hD hn hn2 hq hq2 hl hl2 hok hd hsm hAll hdo
  go_enter Try.func31, Try.ntmps31
  go_upto_region 1 with fail
  rw [← HZ.out]
  go_wp2_with fail
  refine (implReqOk_q 15 pl nn wa q1 q2 m1 m2 k1 k2 ws bs _ HQ.out.1 HQ.out.2.1 (HQ.out.2.2.1.below (BW _ b0)) (HQ.out.2.2.2.1.below (BW _ b0)) HQ.out.2.2.2.2.1 HQ.out.2.2.2.2.2).mono ?_
  rintro e w1 ⟨he, b'⟩
  rw [HOK.out.1] at he
  subst he
  have b1 := bel_next b0 b'
  have X1 := X0.below b'
  have Y1 := Y0.below b'
  have R1 := R0.below b'
  clear x0 x1 x2 x3 y0 y1 y2 y3 y4 y5 X0 Y0 R0 b0 b'
  obtain ⟨x0, x1, x2, x3⟩ := X1.four
  obtain ⟨y0, y1, y2, y3, y4, y5⟩ := Y1.six
  go_wp2_with fail
  refine (implDeviceOk_any a1 a2 a3 a4 l1 l2 l3 l4 c1 c2 c3 c4 cs is hs rs _ HOK.out.2.2.2 (HD0.out.below b1).sl.2 HOK.out.2.2.1 _ HOK.out.2.1).mono ?_
  rintro e w2 ⟨rfl, b'⟩
  have b2 := bel_next b1 b'
  have X2 := X1.below b'
  have Y2 := Y1.below b'
  have R2 := R1.below b'
  clear x0 x1 x2 x3 y0 y1 y2 y3 y4 y5 X1 Y1 R1 b1 b'
  obtain ⟨x0, x1, x2, x3⟩ := X2.four
  obtain ⟨y0, y1, y2, y3, y4, y5⟩ := Y2.six
  go_wp2_with fail
  refine (HA.out _ (HQ.out.2.2.1.below (BW _ b2)) (HQ.out.2.2.2.1.below (BW _ b2))).mono ?_
  rintro e w3 ⟨rfl, b'⟩
  have b3 := bel_next b2 b'
  have X3 := X2.below b'
  have Y3 := Y2.below b'
  have R3 := R2.below b'
  clear x0 x1 x2 x3 y0 y1 y2 y3 y4 y5 X2 Y2 R2 b2 b'
  obtain ⟨x0, x1, x2, x3⟩ := X3.four
  obtain ⟨y0, y1, y2, y3, y4, y5⟩ := Y3.six
  go_upto_region 7 with fail
  have d3 : Below w3.heap.size w3 w3.drew := (Below.refl _ _).drew
  have hne2 : ¬ (w.heap.size = w.heap.size + 1 + 1) := by omega
  have hne3 : ¬ (w.heap.size + 1 + 1 = w.heap.size) := by omega
  go_region_held3 (fun w' => w'.cell? ⟨w.heap.size, 0, none⟩ = some (.slice a1 l1 c1) ∧ w'.cell? ⟨w.heap.size, 1, none⟩ = some (.slice a2 l2 c2) ∧ w'.cell? ⟨w.heap.size, 2, none⟩ = some (.slice a3 l3 c3) ∧ w'.cell? ⟨w.heap.size, 3, none⟩ = some (.slice a4 l4 c4) ∧ w'.cell? ⟨w.heap.size + 1, 0, none⟩ = some (.int .i64 15) ∧ w'.cell? ⟨w.heap.size + 1, 1, none⟩ = some (.int .i64 pl) ∧ w'.cell? ⟨w.heap.size + 1, 2, none⟩ = some (.int .i64 nn) ∧ w'.cell? ⟨w.heap.size + 1, 3, none⟩ = some (.slice q1 m1 k1) ∧ w'.cell? ⟨w.heap.size + 1, 4, none⟩ = some (.slice q2 m2 k2) ∧ w'.cell? ⟨w.heap.size + 1, 5, none⟩ = some (.int .i64 wa)) (go_keep)
    (first
      | (go_at_call 65; refine (deeds_any _).mono ?_; rintro e w4 ⟨rfl, hm4, b'⟩; have B4 : Below w3.heap.size w3 w4 := (by first | exact b' | exact bel_next d3 b'); have lk4 : (Instr.lookup 87 (.map (some w3.heap.size)) (.int .i64 15) false).run Try.prog w4 = .ok (.func (.func 83) #[] #[]) w4 := mp_get 15 (.func (.func 83) #[] #[]) 6 _ _ _ _ hm4 rfl; obtain ⟨x40, x41, x42, x43⟩ := (X3.below B4).four; obtain ⟨y40, y41, y42, y43, y44, y45⟩ := (Y3.below B4).six; clear b')
      | (go_at_call 83; refine (HDO.out _ (BW _ (by first | exact bel_next b3 B4 | exact (bel_next b3 B4).drew)) (HD0.out.below (by first | exact bel_next b3 B4 | exact (bel_next b3 B4).drew))).mono ?_; rintro e w5 ⟨r1, r2, n1, n2, e1, e2, rfl, o1, o2, o3, o4, o5⟩; have D4 := HD0.out.below (bel_next b3 B4); have X5 := (X3.below B4).chg o5 (D4.noBlk (X3.below B4) (by decide) (by decide)); have Y5 := (Y3.below B4).chg o5 (D4.noBlk (Y3.below B4) (by decide) (by decide)); have R5 := (R3.below B4).chg o5 (D4.noBlk (R3.below B4) (by decide) (by decide)); obtain ⟨x50, x51, x52, x53⟩ := X5.four; obtain ⟨y50, y51, y52, y53, y54, y55⟩ := Y5.six; obtain ⟨s0, s1, s2, s3, s4, s5⟩ := R5.six; have f0 := R5.fro 0; have f1 := R5.fro 1; have f2 := R5.fro 2; have f3 := R5.fro 3; have f4 := R5.fro 4; have f5 := R5.fro 5; have sz4 : w.heap.size ≤ w4.heap.size := (bel_next b3 B4).size; have HH : Hid (OwnI w5 w.heap.size (.slice r1 n1 e1) ws' ∧ OwnB w5 w.heap.size (.slice r2 n2 e2) bs' ∧ OwnD w5 W0.heap.size a1 a2 a3 a4 l1 l2 l3 l4 c1 c2 c3 c4 cs' is' hs' rs' ∧ Below W0.heap.size W0 w5 ∧ Chg w w5 (Of4 (.slice a1 l1 c1) (.slice a2 l2 c2) (.slice a3 l3 c3) (.slice a4 l4 c4)) ∧ ExB w5 (w.heap.size + 1 + 1) 37) := ⟨OwnI.mono o1 (by exact sz4), OwnB.mono o2 (by exact sz4), o3, o4, (Chg.ofBelow (bel_next b3 B4)).trans o5, ⟨_, R5⟩⟩; have HZ0 : Hid (W0.heap.size ≤ w.heap.size) := HB0.out.size; clear o1 o2 o3 o4 o5 D4 X5 Y5 R5))
  all_goals (
    go_wp2
    refine bodyPost_ret (v := rp 15 0 pl' nn' r1 r2 n1 n2 e1 e2) (by simp [results, Try.results31, go_sem, s0, s1, s2, s3, s4, s5]) rfl ?_
    obtain ⟨o1, o2, o3, o4, o5, o6⟩ := HH.out
    exact ⟨_, _, _, _, _, _, rfl, rowp_set6 o1 o6 (by decide), rowp_set6 o2 o6 (by decide), o3.set6 o6 (by decide) (by decide), belp_set6 o4 (by have := HZ0.out; omega), o5.set6 (by omega)⟩)
set_option maxRecDepth 20000 in
set_option maxHeartbeats 8000000 in
theorem serve_16 (a1 a2 a3 a4 : Option Addr) (l1 l2 l3 l4 c1 c2 c3 c4 : Nat) (cs is : List Bool) (hs rs : List Int) (pl nn wa : Int) (q1 q2 : Option Addr) (m1 m2 k1 k2 : Nat) (ws : List Int) (bs : List Bool) (W0 w : World) (hB : Below W0.heap.size W0 w) (hD : OwnD w W0.heap.size a1 a2 a3 a4 l1 l2 l3 l4 c1 c2 c3 c4 cs is hs rs) (hn : m1 = ws.length) (hn2 : m2 = bs.length) (hq : SlI W0 q1 ws) (hq2 : SlB W0 q2 bs) (hl : ws.length ≤ 2000000) (hl2 : bs.length ≤ 2000000) (hok : okR 16 pl nn wa ws m1 m2 = true) (hd : okD l1 l2 l3 l4 hs rs = true) (hsm : SmD 2000000 cs is hs rs)
    (cs' is' : List Bool) (hs' rs' : List Int) (ws' : List Int) (bs' : List Bool) (pl' nn' : Int)
    (hAll : ∀ w : World, SlI w q1 ws → SlB w q2 bs → Calls Try.prog 64 #[dv a1 a2 a3 a4 l1 l2 l3 l4 c1 c2 c3 c4, rq 16 pl nn wa q1 q2 m1 m2 k1 k2] w fun e w' => e = .returned (.bool true) ∧ Below w.heap.size w w')
    (hdo : ∀ w : World, Below W0.heap.size W0 w → OwnD w W0.heap.size a1 a2 a3 a4 l1 l2 l3 l4 c1 c2 c3 c4 cs is hs rs → Calls Try.prog 84 #[dv a1 a2 a3 a4 l1 l2 l3 l4 c1 c2 c3 c4, rq 16 pl nn wa q1 q2 m1 m2 k1 k2] w fun e w' => SV W0 w w' e a1 a2 a3 a4 l1 l2 l3 l4 c1 c2 c3 c4 cs' is' hs' rs' 16 0 pl' nn' ws' bs') :
    Calls Try.prog 31 #[dv a1 a2 a3 a4 l1 l2 l3 l4 c1 c2 c3 c4, rq 16 pl nn wa q1 q2 m1 m2 k1 k2] w fun e w' => SV W0 w w' e a1 a2 a3 a4 l1 l2 l3 l4 c1 c2 c3 c4 cs' is' hs' rs' 16 0 pl' nn' ws' bs' := by
  obtain ⟨z, hz⟩ : ∃ z, z = ((w.alloc (.cells #[.slice a1 l1 c1, .slice a2 l2 c2, .slice a3 l3 c3, .slice a4 l4 c4] 27)).alloc (.cells #[.int .i64 16, .int .i64 pl, .int .i64 nn, .slice q1 m1 k1, .slice q2 m2 k2, .int .i64 wa] 57)).alloc (.cells #[.int .i64 0, .int .i64 0, .int .i64 0, .int .i64 0, .slice none 0 0, .slice none 0 0] 37) := ⟨_, rfl⟩
  have HZ : Hid (z = _) := hz
  have b0 : Below w.heap.size w z := by rw [hz]; exact bel_next (bel_next (bel_alloc w _) (bel_alloc _ _)) (bel_alloc _ _)
  have X0 : Blk z w.heap.size 27 #[.slice a1 l1 c1, .slice a2 l2 c2, .slice a3 l3 c3, .slice a4 l4 c4] := by rw [hz]; exact ((Blk.new w _ _).below (bel_alloc _ _)).below (bel_alloc _ _)
  have Y0 : Blk z (w.heap.size + 1) 57 #[.int .i64 16, .int .i64 pl, .int .i64 nn, .slice q1 m1 k1, .slice q2 m2 k2, .int .i64 wa] := by rw [hz]; have := (Blk.new (w.alloc (.cells #[.slice a1 l1 c1, .slice a2 l2 c2, .slice a3 l3 c3, .slice a4 l4 c4] 27)) #[.int .i64 16, .int .i64 pl, .int .i64 nn, .slice q1 m1 k1, .slice q2 m2 k2, .int .i64 wa] 57).below (bel_alloc _ (.cells #[.int .i64 0, .int .i64 0, .int .i64 0, .int .i64 0, .slice none 0 0, .slice none 0 0] 37)); simpa using this
  have R0 : Blk z (w.heap.size + 1 + 1) 37 #[.int .i64 0, .int .i64 0, .int .i64 0, .int .i64 0, .slice none 0 0, .slice none 0 0] := by rw [hz]; have := Blk.new ((w.alloc (.cells #[.slice a1 l1 c1, .slice a2 l2 c2, .slice a3 l3 c3, .slice a4 l4 c4] 27)).alloc (.cells #[.int .i64 16, .int .i64 pl, .int .i64 nn, .slice q1 m1 k1, .slice q2 m2 k2, .int .i64 wa] 57)) #[.int .i64 0, .int .i64 0, .int .i64 0, .int .i64 0, .slice none 0 0, .slice none 0 0] 37; simpa using this
  have HB0 : Hid (Below W0.heap.size W0 w) := hB
  have HD0 : Hid (OwnD w W0.heap.size a1 a2 a3 a4 l1 l2 l3 l4 c1 c2 c3 c4 cs is hs rs) := hD
  have HQ : Hid (m1 = ws.length ∧ m2 = bs.length ∧ SlI W0 q1 ws ∧ SlB W0 q2 bs ∧ ws.length ≤ 2000000 ∧ bs.length ≤ 2000000) := ⟨hn, hn2, hq, hq2, hl, hl2⟩
  have HOK : Hid (okR 16 pl nn wa ws m1 m2 = true ∧ okD l1 l2 l3 l4 hs rs = true ∧ SmD 2000000 cs is hs rs ∧ LnD l1 l2 l3 l4 cs is hs rs) := ⟨hok, hd, hsm, hD.sl.1⟩
  have HA : Hid _ := hAll
  have HDO : Hid _ := hdo
  have BW : ∀ u : World, Below w.heap.size w u → Below W0.heap.size W0 u := fun u hu => HB0.out.trans (hu.mono HB0.out.size)
  obtain ⟨x0, x1, x2, x3⟩ := X0.four
  obtain ⟨y0, y1, y2, y3, y4, y5⟩ := Y0.six
  clear hz hB hD hn hn2 hq hq2 hl hl2 hok hd hsm hAll hdo
  go_enter Try.func31, Try.ntmps31
  go_upto_region 1 with fail
  rw [← HZ.out]
  go_wp2_with fail
  refine (implReqOk_q 16 pl nn wa q1 q2 m1 m2 k1 k2 ws bs _ HQ.out.1 HQ.out.2.1 (HQ.out.2.2.1.below (BW _ b0)) (HQ.out.2.2.2.1.below (BW _ b0)) HQ.out.2.2.2.2.1 HQ.out.2.2.2.2.2).mono ?_
  rintro e w1 ⟨he, b'⟩
  rw [HOK.out.1] at he
  subst he
  have b1 := bel_next b0 b'
  have X1 := X0.below b'
  have Y1 := Y0.below b'
  have R1 := R0.below b'
  clear x0 x1 x2 x3 y0 y1 y2 y3 y4 y5 X0 Y0 R0 b0 b'
  obtain ⟨x0, x1, x2, x3⟩ := X1.four
  obtain ⟨y0, y1, y2, y3, y4, y5⟩ := Y1.six
  go_wp2_with fail
  refine (implDeviceOk_any a1 a2 a3 a4 l1 l2 l3 l4 c1 c2 c3 c4 cs is hs rs _ HOK.out.2.2.2 (HD0.out.below b1).sl.2 HOK.out.2.2.1 _ HOK.out.2.1).mono ?_
  rintro e w2 ⟨rfl, b'⟩
  have b2 := bel_next b1 b'
  have X2 := X1.below b'
  have Y2 := Y1.below b'
  have R2 := R1.below b'
  clear x0 x1 x2 x3 y0 y1 y2 y3 y4 y5 X1 Y1 R1 b1 b'
  obtain ⟨x0, x1, x2, x3⟩ := X2.four
  obtain ⟨y0, y1, y2, y3, y4, y5⟩ := Y2.six
  go_wp2_with fail
  refine (HA.out _ (HQ.out.2.2.1.below (BW _ b2)) (HQ.out.2.2.2.1.below (BW _ b2))).mono ?_
  rintro e w3 ⟨rfl, b'⟩
  have b3 := bel_next b2 b'
  have X3 := X2.below b'
  have Y3 := Y2.below b'
  have R3 := R2.below b'
  clear x0 x1 x2 x3 y0 y1 y2 y3 y4 y5 X2 Y2 R2 b2 b'
  obtain ⟨x0, x1, x2, x3⟩ := X3.four
  obtain ⟨y0, y1, y2, y3, y4, y5⟩ := Y3.six
  go_upto_region 7 with fail
  have d3 : Below w3.heap.size w3 w3.drew := (Below.refl _ _).drew
  have hne2 : ¬ (w.heap.size = w.heap.size + 1 + 1) := by omega
  have hne3 : ¬ (w.heap.size + 1 + 1 = w.heap.size) := by omega
  go_region_held3 (fun w' => w'.cell? ⟨w.heap.size, 0, none⟩ = some (.slice a1 l1 c1) ∧ w'.cell? ⟨w.heap.size, 1, none⟩ = some (.slice a2 l2 c2) ∧ w'.cell? ⟨w.heap.size, 2, none⟩ = some (.slice a3 l3 c3) ∧ w'.cell? ⟨w.heap.size, 3, none⟩ = some (.slice a4 l4 c4) ∧ w'.cell? ⟨w.heap.size + 1, 0, none⟩ = some (.int .i64 16) ∧ w'.cell? ⟨w.heap.size + 1, 1, none⟩ = some (.int .i64 pl) ∧ w'.cell? ⟨w.heap.size + 1, 2, none⟩ = some (.int .i64 nn) ∧ w'.cell? ⟨w.heap.size + 1, 3, none⟩ = some (.slice q1 m1 k1) ∧ w'.cell? ⟨w.heap.size + 1, 4, none⟩ = some (.slice q2 m2 k2) ∧ w'.cell? ⟨w.heap.size + 1, 5, none⟩ = some (.int .i64 wa)) (go_keep)
    (first
      | (go_at_call 65; refine (deeds_any _).mono ?_; rintro e w4 ⟨rfl, hm4, b'⟩; have B4 : Below w3.heap.size w3 w4 := (by first | exact b' | exact bel_next d3 b'); have lk4 : (Instr.lookup 87 (.map (some w3.heap.size)) (.int .i64 16) false).run Try.prog w4 = .ok (.func (.func 84) #[] #[]) w4 := mp_get 16 (.func (.func 84) #[] #[]) 7 _ _ _ _ hm4 rfl; obtain ⟨x40, x41, x42, x43⟩ := (X3.below B4).four; obtain ⟨y40, y41, y42, y43, y44, y45⟩ := (Y3.below B4).six; clear b')
      | (go_at_call 84; refine (HDO.out _ (BW _ (by first | exact bel_next b3 B4 | exact (bel_next b3 B4).drew)) (HD0.out.below (by first | exact bel_next b3 B4 | exact (bel_next b3 B4).drew))).mono ?_; rintro e w5 ⟨r1, r2, n1, n2, e1, e2, rfl, o1, o2, o3, o4, o5⟩; have D4 := HD0.out.below (bel_next b3 B4); have X5 := (X3.below B4).chg o5 (D4.noBlk (X3.below B4) (by decide) (by decide)); have Y5 := (Y3.below B4).chg o5 (D4.noBlk (Y3.below B4) (by decide) (by decide)); have R5 := (R3.below B4).chg o5 (D4.noBlk (R3.below B4) (by decide) (by decide)); obtain ⟨x50, x51, x52, x53⟩ := X5.four; obtain ⟨y50, y51, y52, y53, y54, y55⟩ := Y5.six; obtain ⟨s0, s1, s2, s3, s4, s5⟩ := R5.six; have f0 := R5.fro 0; have f1 := R5.fro 1; have f2 := R5.fro 2; have f3 := R5.fro 3; have f4 := R5.fro 4; have f5 := R5.fro 5; have sz4 : w.heap.size ≤ w4.heap.size := (bel_next b3 B4).size; have HH : Hid (OwnI w5 w.heap.size (.slice r1 n1 e1) ws' ∧ OwnB w5 w.heap.size (.slice r2 n2 e2) bs' ∧ OwnD w5 W0.heap.size a1 a2 a3 a4 l1 l2 l3 l4 c1 c2 c3 c4 cs' is' hs' rs' ∧ Below W0.heap.size W0 w5 ∧ Chg w w5 (Of4 (.slice a1 l1 c1) (.slice a2 l2 c2) (.slice a3 l3 c3) (.slice a4 l4 c4)) ∧ ExB w5 (w.heap.size + 1 + 1) 37) := ⟨OwnI.mono o1 (by exact sz4), OwnB.mono o2 (by exact sz4), o3, o4, (Chg.ofBelow (bel_next b3 B4)).trans o5, ⟨_, R5⟩⟩; have HZ0 : Hid (W0.heap.size ≤ w.heap.size) := HB0.out.size; clear o1 o2 o3 o4 o5 D4 X5 Y5 R5))
  all_goals (
    go_wp2
    refine bodyPost_ret (v := rp 16 0 pl' nn' r1 r2 n1 n2 e1 e2) (by simp [results, Try.results31, go_sem, s0, s1, s2, s3, s4, s5]) rfl ?_
    obtain ⟨o1, o2, o3, o4, o5, o6⟩ := HH.out
    exact ⟨_, _, _, _, _, _, rfl, rowp_set6 o1 o6 (by decide), rowp_set6 o2 o6 (by decide), o3.set6 o6 (by decide) (by decide), belp_set6 o4 (by have := HZ0.out; omega), o5.set6 (by omega)⟩)
set_option maxRecDepth 20000 in
set_option maxHeartbeats 8000000 in
theorem serve_23 (a1 a2 a3 a4 : Option Addr) (l1 l2 l3 l4 c1 c2 c3 c4 : Nat) (cs is : List Bool) (hs rs : List Int) (pl nn wa : Int) (q1 q2 : Option Addr) (m1 m2 k1 k2 : Nat) (ws : List Int) (bs : List Bool) (W0 w : World) (hB : Below W0.heap.size W0 w) (hD : OwnD w W0.heap.size a1 a2 a3 a4 l1 l2 l3 l4 c1 c2 c3 c4 cs is hs rs) (hn : m1 = ws.length) (hn2 : m2 = bs.length) (hq : SlI W0 q1 ws) (hq2 : SlB W0 q2 bs) (hl : ws.length ≤ 2000000) (hl2 : bs.length ≤ 2000000) (hok : okR 23 pl nn wa ws m1 m2 = true) (hd : okD l1 l2 l3 l4 hs rs = true) (hsm : SmD 2000000 cs is hs rs)
    (cs' is' : List Bool) (hs' rs' : List Int) (ws' : List Int) (bs' : List Bool) (pl' nn' : Int)
    (hAll : ∀ w : World, SlI w q1 ws → SlB w q2 bs → Calls Try.prog 64 #[dv a1 a2 a3 a4 l1 l2 l3 l4 c1 c2 c3 c4, rq 23 pl nn wa q1 q2 m1 m2 k1 k2] w fun e w' => e = .returned (.bool true) ∧ Below w.heap.size w w')
    (hdo : ∀ w : World, Below W0.heap.size W0 w → OwnD w W0.heap.size a1 a2 a3 a4 l1 l2 l3 l4 c1 c2 c3 c4 cs is hs rs → Calls Try.prog 86 #[dv a1 a2 a3 a4 l1 l2 l3 l4 c1 c2 c3 c4, rq 23 pl nn wa q1 q2 m1 m2 k1 k2] w fun e w' => SV W0 w w' e a1 a2 a3 a4 l1 l2 l3 l4 c1 c2 c3 c4 cs' is' hs' rs' 23 0 pl' nn' ws' bs') :
    Calls Try.prog 31 #[dv a1 a2 a3 a4 l1 l2 l3 l4 c1 c2 c3 c4, rq 23 pl nn wa q1 q2 m1 m2 k1 k2] w fun e w' => SV W0 w w' e a1 a2 a3 a4 l1 l2 l3 l4 c1 c2 c3 c4 cs' is' hs' rs' 23 0 pl' nn' ws' bs' := by
  obtain ⟨z, hz⟩ : ∃ z, z = ((w.alloc (.cells #[.slice a1 l1 c1, .slice a2 l2 c2, .slice a3 l3 c3, .slice a4 l4 c4] 27)).alloc (.cells #[.int .i64 23, .int .i64 pl, .int .i64 nn, .slice q1 m1 k1, .slice q2 m2 k2, .int .i64 wa] 57)).alloc (.cells #[.int .i64 0, .int .i64 0, .int .i64 0, .int .i64 0, .slice none 0 0, .slice none 0 0] 37) := ⟨_, rfl⟩
  have HZ : Hid (z = _) := hz
  have b0 : Below w.heap.size w z := by rw [hz]; exact bel_next (bel_next (bel_alloc w _) (bel_alloc _ _)) (bel_alloc _ _)
  have X0 : Blk z w.heap.size 27 #[.slice a1 l1 c1, .slice a2 l2 c2, .slice a3 l3 c3, .slice a4 l4 c4] := by rw [hz]; exact ((Blk.new w _ _).below (bel_alloc _ _)).below (bel_alloc _ _)
  have Y0 : Blk z (w.heap.size + 1) 57 #[.int .i64 23, .int .i64 pl, .int .i64 nn, .slice q1 m1 k1, .slice q2 m2 k2, .int .i64 wa] := by rw [hz]; have := (Blk.new (w.alloc (.cells #[.slice a1 l1 c1, .slice a2 l2 c2, .slice a3 l3 c3, .slice a4 l4 c4] 27)) #[.int .i64 23, .int .i64 pl, .int .i64 nn, .slice q1 m1 k1, .slice q2 m2 k2, .int .i64 wa] 57).below (bel_alloc _ (.cells #[.int .i64 0, .int .i64 0, .int .i64 0, .int .i64 0, .slice none 0 0, .slice none 0 0] 37)); simpa using this
  have R0 : Blk z (w.heap.size + 1 + 1) 37 #[.int .i64 0, .int .i64 0, .int .i64 0, .int .i64 0, .slice none 0 0, .slice none 0 0] := by rw [hz]; have := Blk.new ((w.alloc (.cells #[.slice a1 l1 c1, .slice a2 l2 c2, .slice a3 l3 c3, .slice a4 l4 c4] 27)).alloc (.cells #[.int .i64 23, .int .i64 pl, .int .i64 nn, .slice q1 m1 k1, .slice q2 m2 k2, .int .i64 wa] 57)) #[.int .i64 0, .int .i64 0, .int .i64 0, .int .i64 0, .slice none 0 0, .slice none 0 0] 37; simpa using this
  have HB0 : Hid (Below W0.heap.size W0 w) := hB
  have HD0 : Hid (OwnD w W0.heap.size a1 a2 a3 a4 l1 l2 l3 l4 c1 c2 c3 c4 cs is hs rs) := hD
  have HQ : Hid (m1 = ws.length ∧ m2 = bs.length ∧ SlI W0 q1 ws ∧ SlB W0 q2 bs ∧ ws.length ≤ 2000000 ∧ bs.length ≤ 2000000) := ⟨hn, hn2, hq, hq2, hl, hl2⟩
  have HOK : Hid (okR 23 pl nn wa ws m1 m2 = true ∧ okD l1 l2 l3 l4 hs rs = true ∧ SmD 2000000 cs is hs rs ∧ LnD l1 l2 l3 l4 cs is hs rs) := ⟨hok, hd, hsm, hD.sl.1⟩
  have HA : Hid _ := hAll
  have HDO : Hid _ := hdo
  have BW : ∀ u : World, Below w.heap.size w u → Below W0.heap.size W0 u := fun u hu => HB0.out.trans (hu.mono HB0.out.size)
  obtain ⟨x0, x1, x2, x3⟩ := X0.four
  obtain ⟨y0, y1, y2, y3, y4, y5⟩ := Y0.six
  clear hz hB hD hn hn2 hq hq2 hl hl2 hok hd hsm hAll hdo
  go_enter Try.func31, Try.ntmps31
  go_upto_region 1 with fail
  rw [← HZ.out]
  go_wp2_with fail
  refine (implReqOk_q 23 pl nn wa q1 q2 m1 m2 k1 k2 ws bs _ HQ.out.1 HQ.out.2.1 (HQ.out.2.2.1.below (BW _ b0)) (HQ.out.2.2.2.1.below (BW _ b0)) HQ.out.2.2.2.2.1 HQ.out.2.2.2.2.2).mono ?_
  rintro e w1 ⟨he, b'⟩
  rw [HOK.out.1] at he
  subst he
  have b1 := bel_next b0 b'
  have X1 := X0.below b'
  have Y1 := Y0.below b'
  have R1 := R0.below b'
  clear x0 x1 x2 x3 y0 y1 y2 y3 y4 y5 X0 Y0 R0 b0 b'
  obtain ⟨x0, x1, x2, x3⟩ := X1.four
  obtain ⟨y0, y1, y2, y3, y4, y5⟩ := Y1.six
  go_wp2_with fail
  refine (implDeviceOk_any a1 a2 a3 a4 l1 l2 l3 l4 c1 c2 c3 c4 cs is hs rs _ HOK.out.2.2.2 (HD0.out.below b1).sl.2 HOK.out.2.2.1 _ HOK.out.2.1).mono ?_
  rintro e w2 ⟨rfl, b'⟩
  have b2 := bel_next b1 b'
  have X2 := X1.below b'
  have Y2 := Y1.below b'
  have R2 := R1.below b'
  clear x0 x1 x2 x3 y0 y1 y2 y3 y4 y5 X1 Y1 R1 b1 b'
  obtain ⟨x0, x1, x2, x3⟩ := X2.four
  obtain ⟨y0, y1, y2, y3, y4, y5⟩ := Y2.six
  go_wp2_with fail
  refine (HA.out _ (HQ.out.2.2.1.below (BW _ b2)) (HQ.out.2.2.2.1.below (BW _ b2))).mono ?_
  rintro e w3 ⟨rfl, b'⟩
  have b3 := bel_next b2 b'
  have X3 := X2.below b'
  have Y3 := Y2.below b'
  have R3 := R2.below b'
  clear x0 x1 x2 x3 y0 y1 y2 y3 y4 y5 X2 Y2 R2 b2 b'
  obtain ⟨x0, x1, x2, x3⟩ := X3.four
  obtain ⟨y0, y1, y2, y3, y4, y5⟩ := Y3.six
  go_upto_region 7 with fail
  have d3 : Below w3.heap.size w3 w3.drew := (Below.refl _ _).drew
  have hne2 : ¬ (w.heap.size = w.heap.size + 1 + 1) := by omega
  have hne3 : ¬ (w.heap.size + 1 + 1 = w.heap.size) := by omega
  go_region_held3 (fun w' => w'.cell? ⟨w.heap.size, 0, none⟩ = some (.slice a1 l1 c1) ∧ w'.cell? ⟨w.heap.size, 1, none⟩ = some (.slice a2 l2 c2) ∧ w'.cell? ⟨w.heap.size, 2, none⟩ = some (.slice a3 l3 c3) ∧ w'.cell? ⟨w.heap.size, 3, none⟩ = some (.slice a4 l4 c4) ∧ w'.cell? ⟨w.heap.size + 1, 0, none⟩ = some (.int .i64 23) ∧ w'.cell? ⟨w.heap.size + 1, 1, none⟩ = some (.int .i64 pl) ∧ w'.cell? ⟨w.heap.size + 1, 2, none⟩ = some (.int .i64 nn) ∧ w'.cell? ⟨w.heap.size + 1, 3, none⟩ = some (.slice q1 m1 k1) ∧ w'.cell? ⟨w.heap.size + 1, 4, none⟩ = some (.slice q2 m2 k2) ∧ w'.cell? ⟨w.heap.size + 1, 5, none⟩ = some (.int .i64 wa)) (go_keep)
    (first
      | (go_at_call 65; refine (deeds_any _).mono ?_; rintro e w4 ⟨rfl, hm4, b'⟩; have B4 : Below w3.heap.size w3 w4 := (by first | exact b' | exact bel_next d3 b'); have lk4 : (Instr.lookup 87 (.map (some w3.heap.size)) (.int .i64 23) false).run Try.prog w4 = .ok (.func (.func 86) #[] #[]) w4 := mp_get 23 (.func (.func 86) #[] #[]) 9 _ _ _ _ hm4 rfl; obtain ⟨x40, x41, x42, x43⟩ := (X3.below B4).four; obtain ⟨y40, y41, y42, y43, y44, y45⟩ := (Y3.below B4).six; clear b')
      | (go_at_call 86; refine (HDO.out _ (BW _ (by first | exact bel_next b3 B4 | exact (bel_next b3 B4).drew)) (HD0.out.below (by first | exact bel_next b3 B4 | exact (bel_next b3 B4).drew))).mono ?_; rintro e w5 ⟨r1, r2, n1, n2, e1, e2, rfl, o1, o2, o3, o4, o5⟩; have D4 := HD0.out.below (bel_next b3 B4); have X5 := (X3.below B4).chg o5 (D4.noBlk (X3.below B4) (by decide) (by decide)); have Y5 := (Y3.below B4).chg o5 (D4.noBlk (Y3.below B4) (by decide) (by decide)); have R5 := (R3.below B4).chg o5 (D4.noBlk (R3.below B4) (by decide) (by decide)); obtain ⟨x50, x51, x52, x53⟩ := X5.four; obtain ⟨y50, y51, y52, y53, y54, y55⟩ := Y5.six; obtain ⟨s0, s1, s2, s3, s4, s5⟩ := R5.six; have f0 := R5.fro 0; have f1 := R5.fro 1; have f2 := R5.fro 2; have f3 := R5.fro 3; have f4 := R5.fro 4; have f5 := R5.fro 5; have sz4 : w.heap.size ≤ w4.heap.size := (bel_next b3 B4).size; have HH : Hid (OwnI w5 w.heap.size (.slice r1 n1 e1) ws' ∧ OwnB w5 w.heap.size (.slice r2 n2 e2) bs' ∧ OwnD w5 W0.heap.size a1 a2 a3 a4 l1 l2 l3 l4 c1 c2 c3 c4 cs' is' hs' rs' ∧ Below W0.heap.size W0 w5 ∧ Chg w w5 (Of4 (.slice a1 l1 c1) (.slice a2 l2 c2) (.slice a3 l3 c3) (.slice a4 l4 c4)) ∧ ExB w5 (w.heap.size + 1 + 1) 37) := ⟨OwnI.mono o1 (by exact sz4), OwnB.mono o2 (by exact sz4), o3, o4, (Chg.ofBelow (bel_next b3 B4)).trans o5, ⟨_, R5⟩⟩; have HZ0 : Hid (W0.heap.size ≤ w.heap.size) := HB0.out.size; clear o1 o2 o3 o4 o5 D4 X5 Y5 R5))
  all_goals (
    go_wp2
    refine bodyPost_ret (v := rp 23 0 pl' nn' r1 r2 n1 n2 e1 e2) (by simp [results, Try.results31, go_sem, s0, s1, s2, s3, s4, s5]) rfl ?_
    obtain ⟨o1, o2, o3, o4, o5, o6⟩ := HH.out
    exact ⟨_, _, _, _, _, _, rfl, rowp_set6 o1 o6 (by decide), rowp_set6 o2 o6 (by decide), o3.set6 o6 (by decide) (by decide), belp_set6 o4 (by have := HZ0.out; omega), o5.set6 (by omega)⟩)
end Go.Proofs.Ytfdddkjonjpgpaa
namespace Go.Proofs.Ytfdddkjonjpgpaa
open Go.RowKit
set_option linter.unusedVariables false
set_option linter.unusedSimpArgs false
set_option maxRecDepth 20000 in
set_option maxHeartbeats 2000000 in
theorem serve_no (a1 a2 a3 a4 : Option Addr) (l1 l2 l3 l4 c1 c2 c3 c4 : Nat) (cs is : List Bool) (hs rs : List Int) (kd pl nn wa : Int) (q1 q2 : Option Addr) (m1 m2 k1 k2 : Nat) (ws : List Int) (bs : List Bool) (W0 w : World) (hB : Below W0.heap.size W0 w) (hD : OwnD w W0.heap.size a1 a2 a3 a4 l1 l2 l3 l4 c1 c2 c3 c4 cs is hs rs) (hn : m1 = ws.length) (hn2 : m2 = bs.length) (hq : SlI W0 q1 ws) (hq2 : SlB W0 q2 bs) (hl : ws.length ≤ 2000000) (hl2 : bs.length ≤ 2000000) (hsm : SmD 2000000 cs is hs rs) (hok : okR kd pl nn wa ws m1 m2 = false)
    : Calls Try.prog 31 #[dv a1 a2 a3 a4 l1 l2 l3 l4 c1 c2 c3 c4, rq kd pl nn wa q1 q2 m1 m2 k1 k2] w fun e w' => SV W0 w w' e a1 a2 a3 a4 l1 l2 l3 l4 c1 c2 c3 c4 cs is hs rs 0 0 0 0 [] [] := by
  obtain ⟨z, hz⟩ : ∃ z, z = ((w.alloc (.cells #[.slice a1 l1 c1, .slice a2 l2 c2, .slice a3 l3 c3, .slice a4 l4 c4] 27)).alloc (.cells #[.int .i64 kd, .int .i64 pl, .int .i64 nn, .slice q1 m1 k1, .slice q2 m2 k2, .int .i64 wa] 57)).alloc (.cells #[.int .i64 0, .int .i64 0, .int .i64 0, .int .i64 0, .slice none 0 0, .slice none 0 0] 37) := ⟨_, rfl⟩
  have HZ : Hid (z = _) := hz
  have b0 : Below w.heap.size w z := by rw [hz]; exact bel_next (bel_next (bel_alloc w _) (bel_alloc _ _)) (bel_alloc _ _)
  have X0 : Blk z w.heap.size 27 #[.slice a1 l1 c1, .slice a2 l2 c2, .slice a3 l3 c3, .slice a4 l4 c4] := by rw [hz]; exact ((Blk.new w _ _).below (bel_alloc _ _)).below (bel_alloc _ _)
  have Y0 : Blk z (w.heap.size + 1) 57 #[.int .i64 kd, .int .i64 pl, .int .i64 nn, .slice q1 m1 k1, .slice q2 m2 k2, .int .i64 wa] := by rw [hz]; have := (Blk.new (w.alloc (.cells #[.slice a1 l1 c1, .slice a2 l2 c2, .slice a3 l3 c3, .slice a4 l4 c4] 27)) #[.int .i64 kd, .int .i64 pl, .int .i64 nn, .slice q1 m1 k1, .slice q2 m2 k2, .int .i64 wa] 57).below (bel_alloc _ (.cells #[.int .i64 0, .int .i64 0, .int .i64 0, .int .i64 0, .slice none 0 0, .slice none 0 0] 37)); simpa using this
  have R0 : Blk z (w.heap.size + 1 + 1) 37 #[.int .i64 0, .int .i64 0, .int .i64 0, .int .i64 0, .slice none 0 0, .slice none 0 0] := by rw [hz]; have := Blk.new ((w.alloc (.cells #[.slice a1 l1 c1, .slice a2 l2 c2, .slice a3 l3 c3, .slice a4 l4 c4] 27)).alloc (.cells #[.int .i64 kd, .int .i64 pl, .int .i64 nn, .slice q1 m1 k1, .slice q2 m2 k2, .int .i64 wa] 57)) #[.int .i64 0, .int .i64 0, .int .i64 0, .int .i64 0, .slice none 0 0, .slice none 0 0] 37; simpa using this
  have HB0 : Hid (Below W0.heap.size W0 w) := hB
  have HD0 : Hid (OwnD w W0.heap.size a1 a2 a3 a4 l1 l2 l3 l4 c1 c2 c3 c4 cs is hs rs) := hD
  have HQ : Hid (m1 = ws.length ∧ m2 = bs.length ∧ SlI W0 q1 ws ∧ SlB W0 q2 bs ∧ ws.length ≤ 2000000 ∧ bs.length ≤ 2000000) := ⟨hn, hn2, hq, hq2, hl, hl2⟩
  have HOK : Hid _ := hok
  have HSM : Hid (SmD 2000000 cs is hs rs ∧ LnD l1 l2 l3 l4 cs is hs rs) := ⟨hsm, hD.sl.1⟩
  have BW : ∀ u : World, Below w.heap.size w u → Below W0.heap.size W0 u := fun u hu => HB0.out.trans (hu.mono HB0.out.size)
  obtain ⟨x0, x1, x2, x3⟩ := X0.four
  obtain ⟨y0, y1, y2, y3, y4, y5⟩ := Y0.six
  clear hz hB hD hn hn2 hq hq2 hl hl2 hok hsm
  go_enter Try.func31, Try.ntmps31
  go_upto_region 1 with fail
  rw [← HZ.out]
  go_wp2_with fail
  refine (implReqOk_q kd pl nn wa q1 q2 m1 m2 k1 k2 ws bs _ HQ.out.1 HQ.out.2.1 (HQ.out.2.2.1.below (BW _ b0)) (HQ.out.2.2.2.1.below (BW _ b0)) HQ.out.2.2.2.2.1 HQ.out.2.2.2.2.2).mono ?_
  rintro e w1 ⟨he, b'⟩
  rw [HOK.out] at he
  subst he
  have b1 := bel_next b0 b'
  have X1 := X0.below b'
  have Y1 := Y0.below b'
  have R1 := R0.below b'
  clear x0 x1 x2 x3 y0 y1 y2 y3 y4 y5 X0 Y0 R0 b0 b'
  obtain ⟨x0, x1, x2, x3⟩ := X1.four
  obtain ⟨y0, y1, y2, y3, y4, y5⟩ := Y1.six
  obtain ⟨s0, s1, s2, s3, s4, s5⟩ := R1.six
  have f0 := R1.fro 0
  have f1 := R1.fro 1
  have f2 := R1.fro 2
  have f3 := R1.fro 3
  have f4 := R1.fro 4
  have f5 := R1.fro 5
  have HR : Hid (ExB _ (w.heap.size + 1 + 1) 37) := ⟨_, R1⟩
  have HB : Hid (Below w.heap.size w _) := b1
  have HZ0 : Hid (W0.heap.size ≤ w.heap.size) := HB0.out.size
  go_wp2_with fail
  refine bodyPost_ret (v := rp 0 0 0 0 none none 0 0 0 0) (by simp [results, Try.results31, go_sem, s0, s1, s2, s3, s4, s5]) rfl ?_
  exact ⟨_, _, _, _, _, _, rfl, ownI_nil0 _ _, ownB_nil0 _ _, (HD0.out.below HB.out).set6 HR.out (by decide) (by decide), belp_set6 (BW _ HB.out) (by have := HZ0.out; omega), (Chg.ofBelow HB.out).set6 (by omega)⟩
set_option maxRecDepth 20000 in
set_option maxHeartbeats 2000000 in
theorem serve_dev (a1 a2 a3 a4 : Option Addr) (l1 l2 l3 l4 c1 c2 c3 c4 : Nat) (cs is : List Bool) (hs rs : List Int) (kd pl nn wa : Int) (q1 q2 : Option Addr) (m1 m2 k1 k2 : Nat) (ws : List Int) (bs : List Bool) (W0 w : World) (hB : Below W0.heap.size W0 w) (hD : OwnD w W0.heap.size a1 a2 a3 a4 l1 l2 l3 l4 c1 c2 c3 c4 cs is hs rs) (hn : m1 = ws.length) (hn2 : m2 = bs.length) (hq : SlI W0 q1 ws) (hq2 : SlB W0 q2 bs) (hl : ws.length ≤ 2000000) (hl2 : bs.length ≤ 2000000) (hsm : SmD 2000000 cs is hs rs) (hok : okR kd pl nn wa ws m1 m2 = true) (hd : okD l1 l2 l3 l4 hs rs = false)
    : Calls Try.prog 31 #[dv a1 a2 a3 a4 l1 l2 l3 l4 c1 c2 c3 c4, rq kd pl nn wa q1 q2 m1 m2 k1 k2] w fun e w' => SV W0 w w' e a1 a2 a3 a4 l1 l2 l3 l4 c1 c2 c3 c4 cs is hs rs kd 4 0 0 [] [] := by
  obtain ⟨z, hz⟩ : ∃ z, z = ((w.alloc (.cells #[.slice a1 l1 c1, .slice a2 l2 c2, .slice a3 l3 c3, .slice a4 l4 c4] 27)).alloc (.cells #[.int .i64 kd, .int .i64 pl, .int .i64 nn, .slice q1 m1 k1, .slice q2 m2 k2, .int .i64 wa] 57)).alloc (.cells #[.int .i64 0, .int .i64 0, .int .i64 0, .int .i64 0, .slice none 0 0, .slice none 0 0] 37) := ⟨_, rfl⟩
  have HZ : Hid (z = _) := hz
  have b0 : Below w.heap.size w z := by rw [hz]; exact bel_next (bel_next (bel_alloc w _) (bel_alloc _ _)) (bel_alloc _ _)
  have X0 : Blk z w.heap.size 27 #[.slice a1 l1 c1, .slice a2 l2 c2, .slice a3 l3 c3, .slice a4 l4 c4] := by rw [hz]; exact ((Blk.new w _ _).below (bel_alloc _ _)).below (bel_alloc _ _)
  have Y0 : Blk z (w.heap.size + 1) 57 #[.int .i64 kd, .int .i64 pl, .int .i64 nn, .slice q1 m1 k1, .slice q2 m2 k2, .int .i64 wa] := by rw [hz]; have := (Blk.new (w.alloc (.cells #[.slice a1 l1 c1, .slice a2 l2 c2, .slice a3 l3 c3, .slice a4 l4 c4] 27)) #[.int .i64 kd, .int .i64 pl, .int .i64 nn, .slice q1 m1 k1, .slice q2 m2 k2, .int .i64 wa] 57).below (bel_alloc _ (.cells #[.int .i64 0, .int .i64 0, .int .i64 0, .int .i64 0, .slice none 0 0, .slice none 0 0] 37)); simpa using this
  have R0 : Blk z (w.heap.size + 1 + 1) 37 #[.int .i64 0, .int .i64 0, .int .i64 0, .int .i64 0, .slice none 0 0, .slice none 0 0] := by rw [hz]; have := Blk.new ((w.alloc (.cells #[.slice a1 l1 c1, .slice a2 l2 c2, .slice a3 l3 c3, .slice a4 l4 c4] 27)).alloc (.cells #[.int .i64 kd, .int .i64 pl, .int .i64 nn, .slice q1 m1 k1, .slice q2 m2 k2, .int .i64 wa] 57)) #[.int .i64 0, .int .i64 0, .int .i64 0, .int .i64 0, .slice none 0 0, .slice none 0 0] 37; simpa using this
  have HB0 : Hid (Below W0.heap.size W0 w) := hB
  have HD0 : Hid (OwnD w W0.heap.size a1 a2 a3 a4 l1 l2 l3 l4 c1 c2 c3 c4 cs is hs rs) := hD
  have HQ : Hid (m1 = ws.length ∧ m2 = bs.length ∧ SlI W0 q1 ws ∧ SlB W0 q2 bs ∧ ws.length ≤ 2000000 ∧ bs.length ≤ 2000000) := ⟨hn, hn2, hq, hq2, hl, hl2⟩
  have HOK : Hid _ := hok
  have HSM : Hid (SmD 2000000 cs is hs rs ∧ LnD l1 l2 l3 l4 cs is hs rs) := ⟨hsm, hD.sl.1⟩
  have BW : ∀ u : World, Below w.heap.size w u → Below W0.heap.size W0 u := fun u hu => HB0.out.trans (hu.mono HB0.out.size)
  obtain ⟨x0, x1, x2, x3⟩ := X0.four
  obtain ⟨y0, y1, y2, y3, y4, y5⟩ := Y0.six
  have HDK : Hid _ := hd
  clear hz hB hD hn hn2 hq hq2 hl hl2 hok hsm hd
  go_enter Try.func31, Try.ntmps31
  go_upto_region 1 with fail
  rw [← HZ.out]
  go_wp2_with fail
  refine (implReqOk_q kd pl nn wa q1 q2 m1 m2 k1 k2 ws bs _ HQ.out.1 HQ.out.2.1 (HQ.out.2.2.1.below (BW _ b0)) (HQ.out.2.2.2.1.below (BW _ b0)) HQ.out.2.2.2.2.1 HQ.out.2.2.2.2.2).mono ?_
  rintro e w1 ⟨he, b'⟩
  rw [HOK.out] at he
  subst he
  have b1 := bel_next b0 b'
  have X1 := X0.below b'
  have Y1 := Y0.below b'
  have R1 := R0.below b'
  clear x0 x1 x2 x3 y0 y1 y2 y3 y4 y5 X0 Y0 R0 b0 b'
  obtain ⟨x0, x1, x2, x3⟩ := X1.four
  obtain ⟨y0, y1, y2, y3, y4, y5⟩ := Y1.six
  go_wp2_with fail
  refine (implDeviceOk_any a1 a2 a3 a4 l1 l2 l3 l4 c1 c2 c3 c4 cs is hs rs _ HSM.out.2 (HD0.out.below b1).sl.2 HSM.out.1 _ HDK.out).mono ?_
  rintro e w2 ⟨rfl, b'⟩
  have b2 := bel_next b1 b'
  have X2 := X1.below b'
  have Y2 := Y1.below b'
  have R2 := R1.below b'
  clear x0 x1 x2 x3 y0 y1 y2 y3 y4 y5 X1 Y1 R1 b1 b'
  obtain ⟨x0, x1, x2, x3⟩ := X2.four
  obtain ⟨y0, y1, y2, y3, y4, y5⟩ := Y2.six
  go_wp2_with fail
  refine (implFaultOf_q kd pl nn wa q1 q2 m1 m2 k1 k2 ws bs _ _ HQ.out.1 HQ.out.2.1 (HQ.out.2.2.1.below (BW _ b2)) (HQ.out.2.2.2.1.below (BW _ b2)) HQ.out.2.2.2.2.1 HQ.out.2.2.2.2.2).mono ?_
  rintro e w5 ⟨he, b'⟩
  rw [HOK.out] at he
  have he' : e = .returned (rp kd 4 0 0 none none 0 0 0 0) := he
  subst he'
  clear he
  have b5 := bel_next b2 b'
  have R5 := R2.below b'
  clear x0 x1 x2 x3 y0 y1 y2 y3 y4 y5
  obtain ⟨s0, s1, s2, s3, s4, s5⟩ := R5.six
  have f0 := R5.fro 0
  have f1 := R5.fro 1
  have f2 := R5.fro 2
  have f3 := R5.fro 3
  have f4 := R5.fro 4
  have f5 := R5.fro 5
  have HR : Hid (ExB _ (w.heap.size + 1 + 1) 37) := ⟨_, R5⟩
  have HB : Hid (Below w.heap.size w _) := b5
  have HZ0 : Hid (W0.heap.size ≤ w.heap.size) := HB0.out.size
  go_wp2_with fail
  refine bodyPost_ret (v := rp kd 4 0 0 none none 0 0 0 0) (by simp [results, Try.results31, go_sem, s0, s1, s2, s3, s4, s5]) rfl ?_
  exact ⟨_, _, _, _, _, _, rfl, ownI_nil0 _ _, ownB_nil0 _ _, (HD0.out.below HB.out).set6 HR.out (by decide) (by decide), belp_set6 (BW _ HB.out) (by have := HZ0.out; omega), (Chg.ofBelow HB.out).set6 (by omega)⟩
set_option maxRecDepth 20000 in
set_option maxHeartbeats 2000000 in
theorem serve_at (a1 a2 a3 a4 : Option Addr) (l1 l2 l3 l4 c1 c2 c3 c4 : Nat) (cs is : List Bool) (hs rs : List Int) (kd pl nn wa : Int) (q1 q2 : Option Addr) (m1 m2 k1 k2 : Nat) (ws : List Int) (bs : List Bool) (W0 w : World) (hB : Below W0.heap.size W0 w) (hD : OwnD w W0.heap.size a1 a2 a3 a4 l1 l2 l3 l4 c1 c2 c3 c4 cs is hs rs) (hn : m1 = ws.length) (hn2 : m2 = bs.length) (hq : SlI W0 q1 ws) (hq2 : SlB W0 q2 bs) (hl : ws.length ≤ 2000000) (hl2 : bs.length ≤ 2000000) (hsm : SmD 2000000 cs is hs rs) (hok : okR kd pl nn wa ws m1 m2 = true) (hd : okD l1 l2 l3 l4 hs rs = true)
    (hAll : ∀ w : World, SlI w q1 ws → SlB w q2 bs → Calls Try.prog 64 #[dv a1 a2 a3 a4 l1 l2 l3 l4 c1 c2 c3 c4, rq kd pl nn wa q1 q2 m1 m2 k1 k2] w fun e w' => e = .returned (.bool false) ∧ Below w.heap.size w w')
    : Calls Try.prog 31 #[dv a1 a2 a3 a4 l1 l2 l3 l4 c1 c2 c3 c4, rq kd pl nn wa q1 q2 m1 m2 k1 k2] w fun e w' => SV W0 w w' e a1 a2 a3 a4 l1 l2 l3 l4 c1 c2 c3 c4 cs is hs rs kd 2 0 0 [] [] := by
  obtain ⟨z, hz⟩ : ∃ z, z = ((w.alloc (.cells #[.slice a1 l1 c1, .slice a2 l2 c2, .slice a3 l3 c3, .slice a4 l4 c4] 27)).alloc (.cells #[.int .i64 kd, .int .i64 pl, .int .i64 nn, .slice q1 m1 k1, .slice q2 m2 k2, .int .i64 wa] 57)).alloc (.cells #[.int .i64 0, .int .i64 0, .int .i64 0, .int .i64 0, .slice none 0 0, .slice none 0 0] 37) := ⟨_, rfl⟩
  have HZ : Hid (z = _) := hz
  have b0 : Below w.heap.size w z := by rw [hz]; exact bel_next (bel_next (bel_alloc w _) (bel_alloc _ _)) (bel_alloc _ _)
  have X0 : Blk z w.heap.size 27 #[.slice a1 l1 c1, .slice a2 l2 c2, .slice a3 l3 c3, .slice a4 l4 c4] := by rw [hz]; exact ((Blk.new w _ _).below (bel_alloc _ _)).below (bel_alloc _ _)
  have Y0 : Blk z (w.heap.size + 1) 57 #[.int .i64 kd, .int .i64 pl, .int .i64 nn, .slice q1 m1 k1, .slice q2 m2 k2, .int .i64 wa] := by rw [hz]; have := (Blk.new (w.alloc (.cells #[.slice a1 l1 c1, .slice a2 l2 c2, .slice a3 l3 c3, .slice a4 l4 c4] 27)) #[.int .i64 kd, .int .i64 pl, .int .i64 nn, .slice q1 m1 k1, .slice q2 m2 k2, .int .i64 wa] 57).below (bel_alloc _ (.cells #[.int .i64 0, .int .i64 0, .int .i64 0, .int .i64 0, .slice none 0 0, .slice none 0 0] 37)); simpa using this
  have R0 : Blk z (w.heap.size + 1 + 1) 37 #[.int .i64 0, .int .i64 0, .int .i64 0, .int .i64 0, .slice none 0 0, .slice none 0 0] := by rw [hz]; have := Blk.new ((w.alloc (.cells #[.slice a1 l1 c1, .slice a2 l2 c2, .slice a3 l3 c3, .slice a4 l4 c4] 27)).alloc (.cells #[.int .i64 kd, .int .i64 pl, .int .i64 nn, .slice q1 m1 k1, .slice q2 m2 k2, .int .i64 wa] 57)) #[.int .i64 0, .int .i64 0, .int .i64 0, .int .i64 0, .slice none 0 0, .slice none 0 0] 37; simpa using this
  have HB0 : Hid (Below W0.heap.size W0 w) := hB
  have HD0 : Hid (OwnD w W0.heap.size a1 a2 a3 a4 l1 l2 l3 l4 c1 c2 c3 c4 cs is hs rs) := hD
  have HQ : Hid (m1 = ws.length ∧ m2 = bs.length ∧ SlI W0 q1 ws ∧ SlB W0 q2 bs ∧ ws.length ≤ 2000000 ∧ bs.length ≤ 2000000) := ⟨hn, hn2, hq, hq2, hl, hl2⟩
  have HOK : Hid _ := hok
  have HSM : Hid (SmD 2000000 cs is hs rs ∧ LnD l1 l2 l3 l4 cs is hs rs) := ⟨hsm, hD.sl.1⟩
  have BW : ∀ u : World, Below w.heap.size w u → Below W0.heap.size W0 u := fun u hu => HB0.out.trans (hu.mono HB0.out.size)
  obtain ⟨x0, x1, x2, x3⟩ := X0.four
  obtain ⟨y0, y1, y2, y3, y4, y5⟩ := Y0.six
  have HDK : Hid _ := hd
  have HA : Hid _ := hAll
  clear hz hB hD hn hn2 hq hq2 hl hl2 hok hsm hd hAll
  go_enter Try.func31, Try.ntmps31
  go_upto_region 1 with fail
  rw [← HZ.out]
  go_wp2_with fail
  refine (implReqOk_q kd pl nn wa q1 q2 m1 m2 k1 k2 ws bs _ HQ.out.1 HQ.out.2.1 (HQ.out.2.2.1.below (BW _ b0)) (HQ.out.2.2.2.1.below (BW _ b0)) HQ.out.2.2.2.2.1 HQ.out.2.2.2.2.2).mono ?_
  rintro e w1 ⟨he, b'⟩
  rw [HOK.out] at he
  subst he
  have b1 := bel_next b0 b'
  have X1 := X0.below b'
  have Y1 := Y0.below b'
  have R1 := R0.below b'
  clear x0 x1 x2 x3 y0 y1 y2 y3 y4 y5 X0 Y0 R0 b0 b'
  obtain ⟨x0, x1, x2, x3⟩ := X1.four
  obtain ⟨y0, y1, y2, y3, y4, y5⟩ := Y1.six
  go_wp2_with fail
  refine (implDeviceOk_any a1 a2 a3 a4 l1 l2 l3 l4 c1 c2 c3 c4 cs is hs rs _ HSM.out.2 (HD0.out.below b1).sl.2 HSM.out.1 _ HDK.out).mono ?_
  rintro e w2 ⟨rfl, b'⟩
  have b2 := bel_next b1 b'
  have X2 := X1.below b'
  have Y2 := Y1.below b'
  have R2 := R1.below b'
  clear x0 x1 x2 x3 y0 y1 y2 y3 y4 y5 X1 Y1 R1 b1 b'
  obtain ⟨x0, x1, x2, x3⟩ := X2.four
  obtain ⟨y0, y1, y2, y3, y4, y5⟩ := Y2.six
  go_wp2_with fail
  refine (HA.out _ (HQ.out.2.2.1.below (BW _ b2)) (HQ.out.2.2.2.1.below (BW _ b2))).mono ?_
  rintro e w3 ⟨rfl, b'⟩
  have b3 := bel_next b2 b'
  have X3 := X2.below b'
  have Y3 := Y2.below b'
  have R3 := R2.below b'
  clear x0 x1 x2 x3 y0 y1 y2 y3 y4 y5 X2 Y2 R2 b2 b'
  obtain ⟨x0, x1, x2, x3⟩ := X3.four
  obtain ⟨y0, y1, y2, y3, y4, y5⟩ := Y3.six
  go_wp2_with fail
  refine (implFaultOf_q kd pl nn wa q1 q2 m1 m2 k1 k2 ws bs _ _ HQ.out.1 HQ.out.2.1 (HQ.out.2.2.1.below (BW _ b3)) (HQ.out.2.2.2.1.below (BW _ b3)) HQ.out.2.2.2.2.1 HQ.out.2.2.2.2.2).mono ?_
  rintro e w5 ⟨he, b'⟩
  rw [HOK.out] at he
  have he' : e = .returned (rp kd 2 0 0 none none 0 0 0 0) := he
  subst he'
  clear he
  have b5 := bel_next b3 b'
  have R5 := R3.below b'
  clear x0 x1 x2 x3 y0 y1 y2 y3 y4 y5
  obtain ⟨s0, s1, s2, s3, s4, s5⟩ := R5.six
  have f0 := R5.fro 0
  have f1 := R5.fro 1
  have f2 := R5.fro 2
  have f3 := R5.fro 3
  have f4 := R5.fro 4
  have f5 := R5.fro 5
  have HR : Hid (ExB _ (w.heap.size + 1 + 1) 37) := ⟨_, R5⟩
  have HB : Hid (Below w.heap.size w _) := b5
  have HZ0 : Hid (W0.heap.size ≤ w.heap.size) := HB0.out.size
  go_wp2_with fail
  refine bodyPost_ret (v := rp kd 2 0 0 none none 0 0 0 0) (by simp [results, Try.results31, go_sem, s0, s1, s2, s3, s4, s5]) rfl ?_
  exact ⟨_, _, _, _, _, _, rfl, ownI_nil0 _ _, ownB_nil0 _ _, (HD0.out.below HB.out).set6 HR.out (by decide) (by decide), belp_set6 (BW _ HB.out) (by have := HZ0.out; omega), (Chg.ofBelow HB.out).set6 (by omega)⟩
end Go.Proofs.Ytfdddkjonjpgpaa
namespace Go.Proofs.Ytfdddkjonjpgpaa
open Go.RowKit
set_option linter.unusedVariables false
set_option linter.unusedSimpArgs false
set_option maxRecDepth 20000 in
set_option maxHeartbeats 8000000 in
theorem serve_6 (a1 a2 a3 a4 : Option Addr) (l1 l2 l3 l4 c1 c2 c3 c4 : Nat) (cs is : List Bool) (hs rs : List Int) (pl nn wa : Int) (q1 q2 : Option Addr) (m1 m2 k1 k2 : Nat) (ws : List Int) (bs : List Bool) (W0 w : World) (hB : Below W0.heap.size W0 w) (hD : OwnD w W0.heap.size a1 a2 a3 a4 l1 l2 l3 l4 c1 c2 c3 c4 cs is hs rs) (hn : m1 = ws.length) (hn2 : m2 = bs.length) (hq : SlI W0 q1 ws) (hq2 : SlB W0 q2 bs) (hl : ws.length ≤ 2000000) (hl2 : bs.length ≤ 2000000) (hok : okR 6 pl nn wa ws m1 m2 = true) (hd : okD l1 l2 l3 l4 hs rs = true) (hsm : SmD 2000000 cs is hs rs)
    (cs' is' : List Bool) (hs' rs' : List Int) (ws' : List Int) (bs' : List Bool) (pl' nn' : Int)
    (hAll : ∀ w : World, SlI w q1 ws → SlB w q2 bs → Calls Try.prog 64 #[dv a1 a2 a3 a4 l1 l2 l3 l4 c1 c2 c3 c4, rq 6 pl nn wa q1 q2 m1 m2 k1 k2] w fun e w' => e = .returned (.bool true) ∧ Below w.heap.size w w')
    (hdo : ∀ w : World, Below W0.heap.size W0 w → OwnD w W0.heap.size a1 a2 a3 a4 l1 l2 l3 l4 c1 c2 c3 c4 cs is hs rs → Calls Try.prog 82 #[dv a1 a2 a3 a4 l1 l2 l3 l4 c1 c2 c3 c4, rq 6 pl nn wa q1 q2 m1 m2 k1 k2] w fun e w' => SV W0 w w' e a1 a2 a3 a4 l1 l2 l3 l4 c1 c2 c3 c4 cs' is' hs' rs' 6 0 pl' nn' ws' bs') :
    Calls Try.prog 31 #[dv a1 a2 a3 a4 l1 l2 l3 l4 c1 c2 c3 c4, rq 6 pl nn wa q1 q2 m1 m2 k1 k2] w fun e w' => SV W0 w w' e a1 a2 a3 a4 l1 l2 l3 l4 c1 c2 c3 c4 cs' is' hs' rs' 6 0 pl' nn' ws' bs' := by
  obtain ⟨z, hz⟩ : ∃ z, z = ((w.alloc (.cells #[.slice a1 l1 c1, .slice a2 l2 c2, .slice a3 l3 c3, .slice a4 l4 c4] 27)).alloc (.cells #[.int .i64 6, .int .i64 pl, .int .i64 nn, .slice q1 m1 k1, .slice q2 m2 k2, .int .i64 wa] 57)).alloc (.cells #[.int .i64 0, .int .i64 0, .int .i64 0, .int .i64 0, .slice none 0 0, .slice none 0 0] 37) := ⟨_, rfl⟩
  have HZ : Hid (z = _) := hz
  have b0 : Below w.heap.size w z := by rw [hz]; exact bel_next (bel_next (bel_alloc w _) (bel_alloc _ _)) (bel_alloc _ _)
  have X0 : Blk z w.heap.size 27 #[.slice a1 l1 c1, .slice a2 l2 c2, .slice a3 l3 c3, .slice a4 l4 c4] := by rw [hz]; exact ((Blk.new w _ _).below (bel_alloc _ _)).below (bel_alloc _ _)
  have Y0 : Blk z (w.heap.size + 1) 57 #[.int .i64 6, .int .i64 pl, .int .i64 nn, .slice q1 m1 k1, .slice q2 m2 k2, .int .i64 wa] := by rw [hz]; have := (Blk.new (w.alloc (.cells #[.slice a1 l1 c1, .slice a2 l2 c2, .slice a3 l3 c3, .slice a4 l4 c4] 27)) #[.int .i64 6, .int .i64 pl, .int .i64 nn, .slice q1 m1 k1, .slice q2 m2 k2, .int .i64 wa] 57).below (bel_alloc _ (.cells #[.int .i64 0, .int .i64 0, .int .i64 0, .int .i64 0, .slice none 0 0, .slice none 0 0] 37)); simpa using this
  have R0 : Blk z (w.heap.size + 1 + 1) 37 #[.int .i64 0, .int .i64 0, .int .i64 0, .int .i64 0, .slice none 0 0, .slice none 0 0] := by rw [hz]; have := Blk.new ((w.alloc (.cells #[.slice a1 l1 c1, .slice a2 l2 c2, .slice a3 l3 c3, .slice a4 l4 c4] 27)).alloc (.cells #[.int .i64 6, .int .i64 pl, .int .i64 nn, .slice q1 m1 k1, .slice q2 m2 k2, .int .i64 wa] 57)) #[.int .i64 0, .int .i64 0, .int .i64 0, .int .i64 0, .slice none 0 0, .slice none 0 0] 37; simpa using this
  have HB0 : Hid (Below W0.heap.size W0 w) := hB
  have HD0 : Hid (OwnD w W0.heap.size a1 a2 a3 a4 l1 l2 l3 l4 c1 c2 c3 c4 cs is hs rs) := hD
  have HQ : Hid (m1 = ws.length ∧ m2 = bs.length ∧ SlI W0 q1 ws ∧ SlB W0 q2 bs ∧ ws.length ≤ 2000000 ∧ bs.length ≤ 2000000) := ⟨hn, hn2, hq, hq2, hl, hl2⟩
  have HOK : Hid (okR 6 pl nn wa ws m1 m2 = true ∧ okD l1 l2 l3 l4 hs rs = true ∧ SmD 2000000 cs is hs rs ∧ LnD l1 l2 l3 l4 cs is hs rs) := ⟨hok, hd, hsm, hD.sl.1⟩
  have HA : Hid _ := hAll
  have HDO : Hid _ := hdo
  have BW : ∀ u : World, Below w.heap.size w u → Below W0.heap.size W0 u := fun u hu => HB0.out.trans (hu.mono HB0.out.size)
  obtain ⟨x0, x1, x2, x3⟩ := X0.four
  obtain ⟨y0, y1, y2, y3, y4, y5⟩ := Y0.six
  clear hz hB hD hn hn2 hq hq2 hl hl2 hok hd hsm hAll hdo
  go_enter Try.func31, Try.ntmps31
  go_upto_region 1 with fail
  rw [← HZ.out]
  go_wp2_with fail
  refine (implReqOk_q 6 pl nn wa q1 q2 m1 m2 k1 k2 ws bs _ HQ.out.1 HQ.out.2.1 (HQ.out.2.2.1.below (BW _ b0)) (HQ.out.2.2.2.1.below (BW _ b0)) HQ.out.2.2.2.2.1 HQ.out.2.2.2.2.2).mono ?_
  rintro e w1 ⟨he, b'⟩
  rw [HOK.out.1] at he
  subst he
  have b1 := bel_next b0 b'
  have X1 := X0.below b'
  have Y1 := Y0.below b'
  have R1 := R0.below b'
  clear x0 x1 x2 x3 y0 y1 y2 y3 y4 y5 X0 Y0 R0 b0 b'
  obtain ⟨x0, x1, x2, x3⟩ := X1.four
  obtain ⟨y0, y1, y2, y3, y4, y5⟩ := Y1.six
  go_wp2_with fail
  refine (implDeviceOk_any a1 a2 a3 a4 l1 l2 l3 l4 c1 c2 c3 c4 cs is hs rs _ HOK.out.2.2.2 (HD0.out.below b1).sl.2 HOK.out.2.2.1 _ HOK.out.2.1).mono ?_
  rintro e w2 ⟨rfl, b'⟩
  have b2 := bel_next b1 b'
  have X2 := X1.below b'
  have Y2 := Y1.below b'
  have R2 := R1.below b'
  clear x0 x1 x2 x3 y0 y1 y2 y3 y4 y5 X1 Y1 R1 b1 b'
  obtain ⟨x0, x1, x2, x3⟩ := X2.four
  obtain ⟨y0, y1, y2, y3, y4, y5⟩ := Y2.six
  go_wp2_with fail
  refine (HA.out _ (HQ.out.2.2.1.below (BW _ b2)) (HQ.out.2.2.2.1.below (BW _ b2))).mono ?_
  rintro e w3 ⟨rfl, b'⟩
  have b3 := bel_next b2 b'
  have X3 := X2.below b'
  have Y3 := Y2.below b'
  have R3 := R2.below b'
  clear x0 x1 x2 x3 y0 y1 y2 y3 y4 y5 X2 Y2 R2 b2 b'
  obtain ⟨x0, x1, x2, x3⟩ := X3.four
  obtain ⟨y0, y1, y2, y3, y4, y5⟩ := Y3.six
  go_upto_region 7 with fail
  have d3 : Below w3.heap.size w3 w3.drew := (Below.refl _ _).drew
  have hne2 : ¬ (w.heap.size = w.heap.size + 1 + 1) := by omega
  have hne3 : ¬ (w.heap.size + 1 + 1 = w.heap.size) := by omega
  go_region_held3 (fun w' => w'.cell? ⟨w.heap.size, 0, none⟩ = some (.slice a1 l1 c1) ∧ w'.cell? ⟨w.heap.size, 1, none⟩ = some (.slice a2 l2 c2) ∧ w'.cell? ⟨w.heap.size, 2, none⟩ = some (.slice a3 l3 c3) ∧ w'.cell? ⟨w.heap.size, 3, none⟩ = some (.slice a4 l4 c4) ∧ w'.cell? ⟨w.heap.size + 1, 0, none⟩ = some (.int .i64 6) ∧ w'.cell? ⟨w.heap.size + 1, 1, none⟩ = some (.int .i64 pl) ∧ w'.cell? ⟨w.heap.size + 1, 2, none⟩ = some (.int .i64 nn) ∧ w'.cell? ⟨w.heap.size + 1, 3, none⟩ = some (.slice q1 m1 k1) ∧ w'.cell? ⟨w.heap.size + 1, 4, none⟩ = some (.slice q2 m2 k2) ∧ w'.cell? ⟨w.heap.size + 1, 5, none⟩ = some (.int .i64 wa)) (go_keep)
    (first
      | (go_at_call 65; refine (deeds_any _).mono ?_; rintro e w4 ⟨rfl, hm4, b'⟩; have B4 : Below w3.heap.size w3 w4 := (by first | exact b' | exact bel_next d3 b'); have lk4 : (Instr.lookup 87 (.map (some w3.heap.size)) (.int .i64 6) false).run Try.prog w4 = .ok (.func (.func 82) #[] #[]) w4 := mp_get 6 (.func (.func 82) #[] #[]) 5 _ _ _ _ hm4 rfl; obtain ⟨x40, x41, x42, x43⟩ := (X3.below B4).four; obtain ⟨y40, y41, y42, y43, y44, y45⟩ := (Y3.below B4).six; clear b')
      | (go_at_call 82; refine (HDO.out _ (BW _ (by first | exact bel_next b3 B4 | exact (bel_next b3 B4).drew)) (HD0.out.below (by first | exact bel_next b3 B4 | exact (bel_next b3 B4).drew))).mono ?_; rintro e w5 ⟨r1, r2, n1, n2, e1, e2, rfl, o1, o2, o3, o4, o5⟩; have D4 := HD0.out.below (bel_next b3 B4); have X5 := (X3.below B4).chg o5 (D4.noBlk (X3.below B4) (by decide) (by decide)); have Y5 := (Y3.below B4).chg o5 (D4.noBlk (Y3.below B4) (by decide) (by decide)); have R5 := (R3.below B4).chg o5 (D4.noBlk (R3.below B4) (by decide) (by decide)); obtain ⟨x50, x51, x52, x53⟩ := X5.four; obtain ⟨y50, y51, y52, y53, y54, y55⟩ := Y5.six; obtain ⟨s0, s1, s2, s3, s4, s5⟩ := R5.six; have f0 := R5.fro 0; have f1 := R5.fro 1; have f2 := R5.fro 2; have f3 := R5.fro 3; have f4 := R5.fro 4; have f5 := R5.fro 5; have sz4 : w.heap.size ≤ w4.heap.size := (bel_next b3 B4).size; have HH : Hid (OwnI w5 w.heap.size (.slice r1 n1 e1) ws' ∧ OwnB w5 w.heap.size (.slice r2 n2 e2) bs' ∧ OwnD w5 W0.heap.size a1 a2 a3 a4 l1 l2 l3 l4 c1 c2 c3 c4 cs' is' hs' rs' ∧ Below W0.heap.size W0 w5 ∧ Chg w w5 (Of4 (.slice a1 l1 c1) (.slice a2 l2 c2) (.slice a3 l3 c3) (.slice a4 l4 c4)) ∧ ExB w5 (w.heap.size + 1 + 1) 37) := ⟨OwnI.mono o1 (by exact sz4), OwnB.mono o2 (by exact sz4), o3, o4, (Chg.ofBelow (bel_next b3 B4)).trans o5, ⟨_, R5⟩⟩; have HZ0 : Hid (W0.heap.size ≤ w.heap.size) := HB0.out.size; clear o1 o2 o3 o4 o5 D4 X5 Y5 R5))
  all_goals (
    go_wp2
    refine bodyPost_ret (v := rp 6 0 pl' nn' r1 r2 n1 n2 e1 e2) (by simp [results, Try.results31, go_sem, s0, s1, s2, s3, s4, s5]) rfl ?_
    obtain ⟨o1, o2, o3, o4, o5, o6⟩ := HH.out
    exact ⟨_, _, _, _, _, _, rfl, rowp_set6 o1 o6 (by decide), rowp_set6 o2 o6 (by decide), o3.set6 o6 (by decide) (by decide), belp_set6 o4 (by have := HZ0.out; omega), o5.set6 (by omega)⟩)
set_option maxRecDepth 20000 in
set_option maxHeartbeats 8000000 in
theorem serve_22 (a1 a2 a3 a4 : Option Addr) (l1 l2 l3 l4 c1 c2 c3 c4 : Nat) (cs is : List Bool) (hs rs : List Int) (pl nn wa : Int) (q1 q2 : Option Addr) (m1 m2 k1 k2 : Nat) (ws : List Int) (bs : List Bool) (W0 w : World) (hB : Below W0.heap.size W0 w) (hD : OwnD w W0.heap.size a1 a2 a3 a4 l1 l2 l3 l4 c1 c2 c3 c4 cs is hs rs) (hn : m1 = ws.length) (hn2 : m2 = bs.length) (hq : SlI W0 q1 ws) (hq2 : SlB W0 q2 bs) (hl : ws.length ≤ 2000000) (hl2 : bs.length ≤ 2000000) (hok : okR 22 pl nn wa ws m1 m2 = true) (hd : okD l1 l2 l3 l4 hs rs = true) (hsm : SmD 2000000 cs is hs rs)
    (cs' is' : List Bool) (hs' rs' : List Int) (ws' : List Int) (bs' : List Bool) (pl' nn' : Int)
    (hAll : ∀ w : World, SlI w q1 ws → SlB w q2 bs → Calls Try.prog 64 #[dv a1 a2 a3 a4 l1 l2 l3 l4 c1 c2 c3 c4, rq 22 pl nn wa q1 q2 m1 m2 k1 k2] w fun e w' => e = .returned (.bool true) ∧ Below w.heap.size w w')
    (hdo : ∀ w : World, Below W0.heap.size W0 w → OwnD w W0.heap.size a1 a2 a3 a4 l1 l2 l3 l4 c1 c2 c3 c4 cs is hs rs → Calls Try.prog 85 #[dv a1 a2 a3 a4 l1 l2 l3 l4 c1 c2 c3 c4, rq 22 pl nn wa q1 q2 m1 m2 k1 k2] w fun e w' => SV W0 w w' e a1 a2 a3 a4 l1 l2 l3 l4 c1 c2 c3 c4 cs' is' hs' rs' 22 0 pl' nn' ws' bs') :
    Calls Try.prog 31 #[dv a1 a2 a3 a4 l1 l2 l3 l4 c1 c2 c3 c4, rq 22 pl nn wa q1 q2 m1 m2 k1 k2] w fun e w' => SV W0 w w' e a1 a2 a3 a4 l1 l2 l3 l4 c1 c2 c3 c4 cs' is' hs' rs' 22 0 pl' nn' ws' bs' := by
  obtain ⟨z, hz⟩ : ∃ z, z = ((w.alloc (.cells #[.slice a1 l1 c1, .slice a2 l2 c2, .slice a3 l3 c3, .slice a4 l4 c4] 27)).alloc (.cells #[.int .i64 22, .int .i64 pl, .int .i64 nn, .slice q1 m1 k1, .slice q2 m2 k2, .int .i64 wa] 57)).alloc (.cells #[.int .i64 0, .int .i64 0, .int .i64 0, .int .i64 0, .slice none 0 0, .slice none 0 0] 37) := ⟨_, rfl⟩
  have HZ : Hid (z = _) := hz
  have b0 : Below w.heap.size w z := by rw [hz]; exact bel_next (bel_next (bel_alloc w _) (bel_alloc _ _)) (bel_alloc _ _)
  have X0 : Blk z w.heap.size 27 #[.slice a1 l1 c1, .slice a2 l2 c2, .slice a3 l3 c3, .slice a4 l4 c4] := by rw [hz]; exact ((Blk.new w _ _).below (bel_alloc _ _)).below (bel_alloc _ _)
  have Y0 : Blk z (w.heap.size + 1) 57 #[.int .i64 22, .int .i64 pl, .int .i64 nn, .slice q1 m1 k1, .slice q2 m2 k2, .int .i64 wa] := by rw [hz]; have := (Blk.new (w.alloc (.cells #[.slice a1 l1 c1, .slice a2 l2 c2, .slice a3 l3 c3, .slice a4 l4 c4] 27)) #[.int .i64 22, .int .i64 pl, .int .i64 nn, .slice q1 m1 k1, .slice q2 m2 k2, .int .i64 wa] 57).below (bel_alloc _ (.cells #[.int .i64 0, .int .i64 0, .int .i64 0, .int .i64 0, .slice none 0 0, .slice none 0 0] 37)); simpa using this
  have R0 : Blk z (w.heap.size + 1 + 1) 37 #[.int .i64 0, .int .i64 0, .int .i64 0, .int .i64 0, .slice none 0 0, .slice none 0 0] := by rw [hz]; have := Blk.new ((w.alloc (.cells #[.slice a1 l1 c1, .slice a2 l2 c2, .slice a3 l3 c3, .slice a4 l4 c4] 27)).alloc (.cells #[.int .i64 22, .int .i64 pl, .int .i64 nn, .slice q1 m1 k1, .slice q2 m2 k2, .int .i64 wa] 57)) #[.int .i64 0, .int .i64 0, .int .i64 0, .int .i64 0, .slice none 0 0, .slice none 0 0] 37; simpa using this
  have HB0 : Hid (Below W0.heap.size W0 w) := hB
  have HD0 : Hid (OwnD w W0.heap.size a1 a2 a3 a4 l1 l2 l3 l4 c1 c2 c3 c4 cs is hs rs) := hD
  have HQ : Hid (m1 = ws.length ∧ m2 = bs.length ∧ SlI W0 q1 ws ∧ SlB W0 q2 bs ∧ ws.length ≤ 2000000 ∧ bs.length ≤ 2000000) := ⟨hn, hn2, hq, hq2, hl, hl2⟩
  have HOK : Hid (okR 22 pl nn wa ws m1 m2 = true ∧ okD l1 l2 l3 l4 hs rs = true ∧ SmD 2000000 cs is hs rs ∧ LnD l1 l2 l3 l4 cs is hs rs) := ⟨hok, hd, hsm, hD.sl.1⟩
  have HA : Hid _ := hAll
  have HDO : Hid _ := hdo
  have BW : ∀ u : World, Below w.heap.size w u → Below W0.heap.size W0 u := fun u hu => HB0.out.trans (hu.mono HB0.out.size)
  obtain ⟨x0, x1, x2, x3⟩ := X0.four
  obtain ⟨y0, y1, y2, y3, y4, y5⟩ := Y0.six
  clear hz hB hD hn hn2 hq hq2 hl hl2 hok hd hsm hAll hdo
  go_enter Try.func31, Try.ntmps31
  go_upto_region 1 with fail
  rw [← HZ.out]
  go_wp2_with fail
  refine (implReqOk_q 22 pl nn wa q1 q2 m1 m2 k1 k2 ws bs _ HQ.out.1 HQ.out.2.1 (HQ.out.2.2.1.below (BW _ b0)) (HQ.out.2.2.2.1.below (BW _ b0)) HQ.out.2.2.2.2.1 HQ.out.2.2.2.2.2).mono ?_
  rintro e w1 ⟨he, b'⟩
  rw [HOK.out.1] at he
  subst he
  have b1 := bel_next b0 b'
  have X1 := X0.below b'
  have Y1 := Y0.below b'
  have R1 := R0.below b'
  clear x0 x1 x2 x3 y0 y1 y2 y3 y4 y5 X0 Y0 R0 b0 b'
  obtain ⟨x0, x1, x2, x3⟩ := X1.four
  obtain ⟨y0, y1, y2, y3, y4, y5⟩ := Y1.six
  go_wp2_with fail
  refine (implDeviceOk_any a1 a2 a3 a4 l1 l2 l3 l4 c1 c2 c3 c4 cs is hs rs _ HOK.out.2.2.2 (HD0.out.below b1).sl.2 HOK.out.2.2.1 _ HOK.out.2.1).mono ?_
  rintro e w2 ⟨rfl, b'⟩
  have b2 := bel_next b1 b'
  have X2 := X1.below b'
  have Y2 := Y1.below b'
  have R2 := R1.below b'
  clear x0 x1 x2 x3 y0 y1 y2 y3 y4 y5 X1 Y1 R1 b1 b'
  obtain ⟨x0, x1, x2, x3⟩ := X2.four
  obtain ⟨y0, y1, y2, y3, y4, y5⟩ := Y2.six
  go_wp2_with fail
  refine (HA.out _ (HQ.out.2.2.1.below (BW _ b2)) (HQ.out.2.2.2.1.below (BW _ b2))).mono ?_
  rintro e w3 ⟨rfl, b'⟩
  have b3 := bel_next b2 b'
  have X3 := X2.below b'
  have Y3 := Y2.below b'
  have R3 := R2.below b'
  clear x0 x1 x2 x3 y0 y1 y2 y3 y4 y5 X2 Y2 R2 b2 b'
  obtain ⟨x0, x1, x2, x3⟩ := X3.four
  obtain ⟨y0, y1, y2, y3, y4, y5⟩ := Y3.six
  go_upto_region 7 with fail
  have d3 : Below w3.heap.size w3 w3.drew := (Below.refl _ _).drew
  have hne2 : ¬ (w.heap.size = w.heap.size + 1 + 1) := by omega
  have hne3 : ¬ (w.heap.size + 1 + 1 = w.heap.size) := by omega
  go_region_held3 (fun w' => w'.cell? ⟨w.heap.size, 0, none⟩ = some (.slice a1 l1 c1) ∧ w'.cell? ⟨w.heap.size, 1, none⟩ = some (.slice a2 l2 c2) ∧ w'.cell? ⟨w.heap.size, 2, none⟩ = some (.slice a3 l3 c3) ∧ w'.cell? ⟨w.heap.size, 3, none⟩ = some (.slice a4 l4 c4) ∧ w'.cell? ⟨w.heap.size + 1, 0, none⟩ = some (.int .i64 22) ∧ w'.cell? ⟨w.heap.size + 1, 1, none⟩ = some (.int .i64 pl) ∧ w'.cell? ⟨w.heap.size + 1, 2, none⟩ = some (.int .i64 nn) ∧ w'.cell? ⟨w.heap.size + 1, 3, none⟩ = some (.slice q1 m1 k1) ∧ w'.cell? ⟨w.heap.size + 1, 4, none⟩ = some (.slice q2 m2 k2) ∧ w'.cell? ⟨w.heap.size + 1, 5, none⟩ = some (.int .i64 wa)) (go_keep)
    (first
      | (go_at_call 65; refine (deeds_any _).mono ?_; rintro e w4 ⟨rfl, hm4, b'⟩; have B4 : Below w3.heap.size w3 w4 := (by first | exact b' | exact bel_next d3 b'); have lk4 : (Instr.lookup 87 (.map (some w3.heap.size)) (.int .i64 22) false).run Try.prog w4 = .ok (.func (.func 85) #[] #[]) w4 := mp_get 22 (.func (.func 85) #[] #[]) 8 _ _ _ _ hm4 rfl; obtain ⟨x40, x41, x42, x43⟩ := (X3.below B4).four; obtain ⟨y40, y41, y42, y43, y44, y45⟩ := (Y3.below B4).six; clear b')
      | (go_at_call 85; refine (HDO.out _ (BW _ (by first | exact bel_next b3 B4 | exact (bel_next b3 B4).drew)) (HD0.out.below (by first | exact bel_next b3 B4 | exact (bel_next b3 B4).drew))).mono ?_; rintro e w5 ⟨r1, r2, n1, n2, e1, e2, rfl, o1, o2, o3, o4, o5⟩; have D4 := HD0.out.below (bel_next b3 B4); have X5 := (X3.below B4).chg o5 (D4.noBlk (X3.below B4) (by decide) (by decide)); have Y5 := (Y3.below B4).chg o5 (D4.noBlk (Y3.below B4) (by decide) (by decide)); have R5 := (R3.below B4).chg o5 (D4.noBlk (R3.below B4) (by decide) (by decide)); obtain ⟨x50, x51, x52, x53⟩ := X5.four; obtain ⟨y50, y51, y52, y53, y54, y55⟩ := Y5.six; obtain ⟨s0, s1, s2, s3, s4, s5⟩ := R5.six; have f0 := R5.fro 0; have f1 := R5.fro 1; have f2 := R5.fro 2; have f3 := R5.fro 3; have f4 := R5.fro 4; have f5 := R5.fro 5; have sz4 : w.heap.size ≤ w4.heap.size := (bel_next b3 B4).size; have HH : Hid (OwnI w5 w.heap.size (.slice r1 n1 e1) ws' ∧ OwnB w5 w.heap.size (.slice r2 n2 e2) bs' ∧ OwnD w5 W0.heap.size a1 a2 a3 a4 l1 l2 l3 l4 c1 c2 c3 c4 cs' is' hs' rs' ∧ Below W0.heap.size W0 w5 ∧ Chg w w5 (Of4 (.slice a1 l1 c1) (.slice a2 l2 c2) (.slice a3 l3 c3) (.slice a4 l4 c4)) ∧ ExB w5 (w.heap.size + 1 + 1) 37) := ⟨OwnI.mono o1 (by exact sz4), OwnB.mono o2 (by exact sz4), o3, o4, (Chg.ofBelow (bel_next b3 B4)).trans o5, ⟨_, R5⟩⟩; have HZ0 : Hid (W0.heap.size ≤ w.heap.size) := HB0.out.size; clear o1 o2 o3 o4 o5 D4 X5 Y5 R5))
  all_goals (
    go_wp2
    refine bodyPost_ret (v := rp 22 0 pl' nn' r1 r2 n1 n2 e1 e2) (by simp [results, Try.results31, go_sem, s0, s1, s2, s3, s4, s5]) rfl ?_
    obtain ⟨o1, o2, o3, o4, o5, o6⟩ := HH.out
    exact ⟨_, _, _, _, _, _, rfl, rowp_set6 o1 o6 (by decide), rowp_set6 o2 o6 (by decide), o3.set6 o6 (by decide) (by decide), belp_set6 o4 (by have := HZ0.out; omega), o5.set6 (by omega)⟩)
end Go.Proofs.Ytfdddkjonjpgpaa
namespace Go.Proofs.Ytfdddkjonjpgpaa
open Go.RowKit
set_option linter.unusedVariables false
set_option linter.unusedSimpArgs false
def SR (w w' : World) (e : Ending) (cs is : List Bool) (hs rs : List Int) (kd fl pl nn : Int) (ws : List Int) (bs : List Bool) : Prop :=
  ∃ a1 a2 a3 a4 l1 l2 l3 l4 c1 c2 c3 c4 r1 r2 m1 m2 k1 k2, e = .returned (.tuple #[dv a1 a2 a3 a4 l1 l2 l3 l4 c1 c2 c3 c4, rp kd fl pl nn r1 r2 m1 m2 k1 k2]) ∧ OwnD w' w.heap.size a1 a2 a3 a4 l1 l2 l3 l4 c1 c2 c3 c4 cs is hs rs ∧ OwnI w' w.heap.size (.slice r1 m1 k1) ws ∧ OwnB w' w.heap.size (.slice r2 m2 k2) bs ∧
    (∀ g, Of4 (.slice a1 l1 c1) (.slice a2 l2 c2) (.slice a3 l3 c3) (.slice a4 l4 c4) g → ¬ Of2 (.slice r1 m1 k1) (.slice r2 m2 k2) g) ∧ Below w.heap.size w w'
end Go.Proofs.Ytfdddkjonjpgpaa
namespace Go.Proofs.Ytfdddkjonjpgpaa
open Go.RowKit
set_option linter.unusedVariables false
set_option linter.unusedSimpArgs false
end Go.Proofs.Ytfdddkjonjpgpaa
namespace Go.Proofs.Ytfdddkjonjpgpaa
open Go.RowKit
set_option linter.unusedVariables false
set_option linter.unusedSimpArgs false
structure SvR where
  cs : List Bool
  hs : List Int
  kd : Int
  fl : Int
  pl : Int
  nn : Int
  ws : List Int
  bs : List Bool
def svAll (l1 l2 l3 l4 : Nat) (kd pl nn wa : Int) (m1 m2 : Nat) : Bool := hsB ([(l1 : Int), (l2 : Int), (l3 : Int), (l4 : Int)].getD (spc0 kd).toNat 0) pl (spcN kd nn m1 m2) kd wa m1
def tB8 (cs : List Bool) (k N : Nat) : List Bool := (cs.drop k).take N ++ List.replicate (8 * ((N + 7) / 8) - N) false
def svDo (cs is : List Bool) (hs rs : List Int) (kd pl nn wa : Int) (ws : List Int) (bs : List Bool) : SvR :=
  if kd = 1 then ⟨cs, hs, 1, 0, 0, 0, [], tB8 cs pl.toNat nn.toNat⟩
  else if kd = 2 then ⟨cs, hs, 2, 0, 0, 0, [], tB8 is pl.toNat nn.toNat⟩
  else if kd = 3 then ⟨cs, hs, 3, 0, 0, 0, (hs.drop pl.toNat).take nn.toNat, []⟩
  else if kd = 4 then ⟨cs, hs, 4, 0, 0, 0, (rs.drop pl.toNat).take nn.toNat, []⟩
  else if kd = 5 then ⟨cs.set pl.toNat (bs.getD 0 false), hs, 5, 0, pl, 0, [], bs⟩
  else if kd = 6 then ⟨cs, hs.set pl.toNat (ws.getD 0 0), 6, 0, pl, 0, ws, []⟩
  else if kd = 15 then ⟨wr cs pl.toNat bs, hs, 15, 0, pl, bs.length, [], []⟩
  else if kd = 16 then ⟨cs, wr hs pl.toNat ws, 16, 0, pl, ws.length, [], []⟩
  else if kd = 22 then ⟨cs, hs.set pl.toNat (mskI (hs.getD pl.toNat 0) (ws.getD 0 0) (ws.getD 1 0)), 22, 0, pl, 0, ws, []⟩
  else ⟨cs, wr hs wa.toNat ws, 23, 0, 0, 0, ((wr hs wa.toNat ws).drop pl.toNat).take nn.toNat, []⟩
def svV (l1 l2 l3 l4 : Nat) (cs is : List Bool) (hs rs : List Int) (kd pl nn wa : Int) (m1 m2 : Nat) (ws : List Int) (bs : List Bool) : SvR :=
  if okR kd pl nn wa ws m1 m2 = false then ⟨cs, hs, 0, 0, 0, 0, [], []⟩
  else if okD l1 l2 l3 l4 hs rs = false then ⟨cs, hs, kd, 4, 0, 0, [], []⟩
  else if svAll l1 l2 l3 l4 kd pl nn wa m1 m2 = false then ⟨cs, hs, kd, 2, 0, 0, [], []⟩
  else svDo cs is hs rs kd pl nn wa ws bs
theorem okR_f {kd pl nn wa : Int} {ws : List Int} {m1 m2 : Nat} (h : okR kd pl nn wa ws m1 m2 = true) : (0 ≤ pl ∧ pl ≤ 65535) ∧
    ((kd = 1 ∧ 1 ≤ nn ∧ nn ≤ 2000 ∧ m1 = 0 ∧ m2 = 0 ∧ wa = 0) ∨ (kd = 2 ∧ 1 ≤ nn ∧ nn ≤ 2000 ∧ m1 = 0 ∧ m2 = 0 ∧ wa = 0) ∨ (kd = 3 ∧ 1 ≤ nn ∧ nn ≤ 125 ∧ m1 = 0 ∧ m2 = 0 ∧ wa = 0) ∨ (kd = 4 ∧ 1 ≤ nn ∧ nn ≤ 125 ∧ m1 = 0 ∧ m2 = 0 ∧ wa = 0)
     ∨ (kd = 5 ∧ nn = 0 ∧ m1 = 0 ∧ m2 = 1 ∧ wa = 0) ∨ (kd = 6 ∧ nn = 0 ∧ m1 = 1 ∧ m2 = 0 ∧ wa = 0) ∨ (kd = 15 ∧ nn = 0 ∧ m1 = 0 ∧ 1 ≤ m2 ∧ m2 ≤ 1968 ∧ wa = 0) ∨ (kd = 16 ∧ nn = 0 ∧ m2 = 0 ∧ 1 ≤ m1 ∧ m1 ≤ 123 ∧ wa = 0)
     ∨ (kd = 22 ∧ nn = 0 ∧ m1 = 2 ∧ m2 = 0 ∧ wa = 0) ∨ (kd = 23 ∧ 1 ≤ nn ∧ nn ≤ 125 ∧ m2 = 0 ∧ 1 ≤ m1 ∧ m1 ≤ 121 ∧ 0 ≤ wa ∧ wa ≤ 65535)) := by
  unfold okR at h
  simp only [Bool.and_eq_true] at h
  obtain ⟨_, h2, h3⟩ := h
  refine ⟨inB_yes h2, ?_⟩
  by_cases e1 : kd = 1
  · subst e1
    simp [okK, zrB, inB, fitB] at h3
    exact .inl ⟨rfl, by omega, by omega, by omega, by omega, by omega⟩
  by_cases e2 : kd = 2
  · subst e2
    simp [okK, zrB, inB, fitB] at h3
    exact .inr (.inl ⟨rfl, by omega, by omega, by omega, by omega, by omega⟩)
  by_cases e3 : kd = 3
  · subst e3
    simp [okK, zrB, inB, fitB] at h3
    exact .inr (.inr (.inl ⟨rfl, by omega, by omega, by omega, by omega, by omega⟩))
  by_cases e4 : kd = 4
  · subst e4
    simp [okK, zrB, inB, fitB] at h3
    exact .inr (.inr (.inr (.inl ⟨rfl, by omega, by omega, by omega, by omega, by omega⟩)))
  by_cases e5 : kd = 5
  · subst e5
    simp [okK, zrB, inB, fitB] at h3
    exact .inr (.inr (.inr (.inr (.inl ⟨rfl, by omega, by omega, by omega, by omega⟩))))
  by_cases e6 : kd = 6
  · subst e6
    simp [okK, zrB, inB, fitB] at h3
    exact .inr (.inr (.inr (.inr (.inr (.inl ⟨rfl, by omega, by omega, by omega, by omega⟩)))))
  by_cases e15 : kd = 15
  · subst e15
    simp [okK, zrB, inB, fitB] at h3
    exact .inr (.inr (.inr (.inr (.inr (.inr (.inl ⟨rfl, by omega, by omega, by omega, by omega, by omega⟩))))))
  by_cases e16 : kd = 16
  · subst e16
    simp [okK, zrB, inB, fitB] at h3
    exact .inr (.inr (.inr (.inr (.inr (.inr (.inr (.inl ⟨rfl, by omega, by omega, by omega, by omega, by omega⟩)))))))
  by_cases e22 : kd = 22
  · subst e22
    simp [okK, zrB, inB, fitB] at h3
    exact .inr (.inr (.inr (.inr (.inr (.inr (.inr (.inr (.inl ⟨rfl, by omega, by omega, by omega, by omega⟩))))))))
  by_cases e23 : kd = 23
  · subst e23
    simp [okK, zrB, inB, fitB] at h3
    exact .inr (.inr (.inr (.inr (.inr (.inr (.inr (.inr (.inr (⟨rfl, by omega, by omega, by omega, by omega, by omega, by omega, by omega⟩)))))))))
  simp [okK, e1, e2, e3, e4, e5, e6, e15, e16, e22, e23] at h3
set_option maxHeartbeats 1000000 in
theorem hasAll_q (a1 a2 a3 a4 : Option Addr) (l1 l2 l3 l4 c1 c2 c3 c4 : Nat) (kd pl nn wa : Int) (q1 q2 : Option Addr) (m1 m2 k1 k2 : Nat) (ws : List Int) (bs : List Bool) (w : World) (h1 : m1 = ws.length) (h2 : m2 = bs.length) (s1 : SlI w q1 ws) (s2 : SlB w q2 bs) (hl1 : ws.length ≤ 2000000) (hl2 : bs.length ≤ 2000000) (hok : okR kd pl nn wa ws m1 m2 = true) (n1 : l1 ≤ 2000000) (n2 : l2 ≤ 2000000) (n3 : l3 ≤ 2000000) (n4 : l4 ≤ 2000000) (b : Bool) (hb : svAll l1 l2 l3 l4 kd pl nn wa m1 m2 = b) :
    Calls Try.prog 64 #[dv a1 a2 a3 a4 l1 l2 l3 l4 c1 c2 c3 c4, rq kd pl nn wa q1 q2 m1 m2 k1 k2] w fun e w' => e = .returned (.bool b) ∧ Below w.heap.size w w' := by
  have f := okR_f hok
  have hs0 : 0 ≤ spc0 kd ∧ spc0 kd < 4 := by unfold spc0; split <;> (try split) <;> (try split) <;> omega
  have hsN : 0 ≤ spcN kd nn m1 m2 ∧ spcN kd nn m1 m2 ≤ 2000000 := by unfold spcN; split <;> (try split) <;> (try split) <;> omega
  refine hasAll_any a1 a2 a3 a4 l1 l2 l3 l4 c1 c2 c3 c4 kd pl nn wa q1 q2 m1 m2 k1 k2 ws bs w h1 h2 s1 s2 hl1 hl2 (spc0 kd).toNat pl (spcN kd nn m1 m2) _ ?_ (by omega) f.1 hsN (fun h => by omega) n1 n2 n3 n4 rfl b hb
  rw [hok]
  unfold spcV
  rw [show ((spc0 kd).toNat : Int) = spc0 kd by omega]
  rfl
theorem svAll_le {l1 l2 l3 l4 : Nat} {kd pl nn wa : Int} {m1 m2 : Nat} (h : svAll l1 l2 l3 l4 kd pl nn wa m1 m2 = true) : pl + spcN kd nn m1 m2 ≤ [(l1 : Int), (l2 : Int), (l3 : Int), (l4 : Int)].getD (spc0 kd).toNat 0 ∧ (kd = 23 → wa + m1 ≤ (l3 : Int)) := by
  unfold svAll hsB at h
  split at h
  · exact absurd h (by decide)
  · rename_i hh
    refine ⟨of_decide_eq_true h, fun h23 => ?_⟩
    have : spc0 kd = 2 := by rw [h23]; rfl
    rw [this] at hh
    simp at hh
    have := hh h23
    omega
set_option maxRecDepth 20000 in
set_option maxHeartbeats 4000000 in
theorem serve_q (a1 a2 a3 a4 : Option Addr) (l1 l2 l3 l4 c1 c2 c3 c4 : Nat) (cs is : List Bool) (hs rs : List Int) (kd pl nn wa : Int) (q1 q2 : Option Addr) (m1 m2 k1 k2 : Nat) (ws : List Int) (bs : List Bool) (W0 w : World) (hB : Below W0.heap.size W0 w) (hD : OwnD w W0.heap.size a1 a2 a3 a4 l1 l2 l3 l4 c1 c2 c3 c4 cs is hs rs) (hn : m1 = ws.length) (hn2 : m2 = bs.length) (hq : SlI W0 q1 ws) (hq2 : SlB W0 q2 bs) (hl : ws.length ≤ 2000000) (hl2 : bs.length ≤ 2000000) (hsm : SmD 2000000 cs is hs rs) (V : SvR) (hV : svV l1 l2 l3 l4 cs is hs rs kd pl nn wa m1 m2 ws bs = V) :
    Calls Try.prog 31 #[dv a1 a2 a3 a4 l1 l2 l3 l4 c1 c2 c3 c4, rq kd pl nn wa q1 q2 m1 m2 k1 k2] w fun e w' => SV W0 w w' e a1 a2 a3 a4 l1 l2 l3 l4 c1 c2 c3 c4 V.cs is V.hs rs V.kd V.fl V.pl V.nn V.ws V.bs := by
  have hln := hD.sl.1
  have hlim : l1 ≤ 2000000 ∧ l2 ≤ 2000000 ∧ l3 ≤ 2000000 ∧ l4 ≤ 2000000 := by
    obtain ⟨e1, e2, e3, e4⟩ := hln
    obtain ⟨g1, g2, g3, g4⟩ := hsm
    omega
  cases hok : okR kd pl nn wa ws m1 m2
  · obtain rfl : V = ⟨cs, hs, 0, 0, 0, 0, [], []⟩ := by rw [← hV]; unfold svV; rw [if_pos hok]
    exact serve_no a1 a2 a3 a4 l1 l2 l3 l4 c1 c2 c3 c4 cs is hs rs kd pl nn wa q1 q2 m1 m2 k1 k2 ws bs W0 w hB hD hn hn2 hq hq2 hl hl2 hsm hok
  cases hd : okD l1 l2 l3 l4 hs rs
  · obtain rfl : V = ⟨cs, hs, kd, 4, 0, 0, [], []⟩ := by rw [← hV]; unfold svV; rw [hok, if_neg (by decide), if_pos hd]
    exact serve_dev a1 a2 a3 a4 l1 l2 l3 l4 c1 c2 c3 c4 cs is hs rs kd pl nn wa q1 q2 m1 m2 k1 k2 ws bs W0 w hB hD hn hn2 hq hq2 hl hl2 hsm hok hd
  cases ha : svAll l1 l2 l3 l4 kd pl nn wa m1 m2
  · obtain rfl : V = ⟨cs, hs, kd, 2, 0, 0, [], []⟩ := by rw [← hV]; unfold svV; rw [hok, if_neg (by decide), hd, if_neg (by decide), if_pos ha]
    exact serve_at a1 a2 a3 a4 l1 l2 l3 l4 c1 c2 c3 c4 cs is hs rs kd pl nn wa q1 q2 m1 m2 k1 k2 ws bs W0 w hB hD hn hn2 hq hq2 hl hl2 hsm hok hd (fun v s1 s2 => hasAll_q a1 a2 a3 a4 l1 l2 l3 l4 c1 c2 c3 c4 kd pl nn wa q1 q2 m1 m2 k1 k2 ws bs v hn hn2 s1 s2 hl hl2 hok hlim.1 hlim.2.1 hlim.2.2.1 hlim.2.2.2 false ha)
  have hVd : svDo cs is hs rs kd pl nn wa ws bs = V := by rw [← hV]; unfold svV; rw [hok, if_neg (by decide), hd, if_neg (by decide), ha, if_neg (by decide)]
  have hle := svAll_le ha
  have hA : ∀ v : World, SlI v q1 ws → SlB v q2 bs → Calls Try.prog 64 #[dv a1 a2 a3 a4 l1 l2 l3 l4 c1 c2 c3 c4, rq kd pl nn wa q1 q2 m1 m2 k1 k2] v fun e w' => e = .returned (.bool true) ∧ Below v.heap.size v w' := fun v s1 s2 => hasAll_q a1 a2 a3 a4 l1 l2 l3 l4 c1 c2 c3 c4 kd pl nn wa q1 q2 m1 m2 k1 k2 ws bs v hn hn2 s1 s2 hl hl2 hok hlim.1 hlim.2.1 hlim.2.2.1 hlim.2.2.2 true ha
  obtain ⟨⟨hp0, hp1⟩, hf⟩ := okR_f hok
  obtain ⟨k, rfl⟩ := Int.eq_ofNat_of_zero_le hp0
  clear hV ha
  rcases hf with h1 | h2 | h3 | h4 | h5 | h6 | h15 | h16 | h22 | h23
  · obtain ⟨rfl, hN1, hN2, hm1, hm2, rfl⟩ := h1
    obtain ⟨N, rfl⟩ := Int.eq_ofNat_of_zero_le (show 0 ≤ nn by omega)
    obtain rfl : V = ⟨cs, hs, 1, 0, 0, 0, [], tB8 cs k N⟩ := by rw [← hVd]; rfl
    have hle1 := hle.1
    have hle2 := hle.2
    simp [spc0, spcN] at hle1 hle2
    exact serve_1 a1 a2 a3 a4 l1 l2 l3 l4 c1 c2 c3 c4 cs is hs rs (k : Int) (N : Int) 0 q1 q2 m1 m2 k1 k2 ws bs W0 w hB hD hn hn2 hq hq2 hl hl2 hok hd hsm cs is hs rs ([]) (tB8 cs k N) 0 0 hA (fun v hv hDv => tellCoils_any a1 a2 a3 a4 l1 l2 l3 l4 c1 c2 c3 c4 cs is hs rs 1 0 k N q1 q2 m1 m2 k1 k2 W0 v hv hDv (by omega) (by omega) (by omega) (by omega))
  · obtain ⟨rfl, hN1, hN2, hm1, hm2, rfl⟩ := h2
    obtain ⟨N, rfl⟩ := Int.eq_ofNat_of_zero_le (show 0 ≤ nn by omega)
    obtain rfl : V = ⟨cs, hs, 2, 0, 0, 0, [], tB8 is k N⟩ := by rw [← hVd]; rfl
    have hle1 := hle.1
    have hle2 := hle.2
    simp [spc0, spcN] at hle1 hle2
    exact serve_2 a1 a2 a3 a4 l1 l2 l3 l4 c1 c2 c3 c4 cs is hs rs (k : Int) (N : Int) 0 q1 q2 m1 m2 k1 k2 ws bs W0 w hB hD hn hn2 hq hq2 hl hl2 hok hd hsm cs is hs rs ([]) (tB8 is k N) 0 0 hA (fun v hv hDv => tellInputs_any a1 a2 a3 a4 l1 l2 l3 l4 c1 c2 c3 c4 cs is hs rs 2 0 k N q1 q2 m1 m2 k1 k2 W0 v hv hDv (by omega) (by omega) (by omega) (by omega))
  · obtain ⟨rfl, hN1, hN2, hm1, hm2, rfl⟩ := h3
    obtain ⟨N, rfl⟩ := Int.eq_ofNat_of_zero_le (show 0 ≤ nn by omega)
    obtain rfl : V = ⟨cs, hs, 3, 0, 0, 0, (hs.drop k).take N, []⟩ := by rw [← hVd]; rfl
    have hle1 := hle.1
    have hle2 := hle.2
    simp [spc0, spcN] at hle1 hle2
    exact serve_3 a1 a2 a3 a4 l1 l2 l3 l4 c1 c2 c3 c4 cs is hs rs (k : Int) (N : Int) 0 q1 q2 m1 m2 k1 k2 ws bs W0 w hB hD hn hn2 hq hq2 hl hl2 hok hd hsm cs is hs rs ((hs.drop k).take N) ([]) 0 0 hA (fun v hv hDv => tellHolding_any a1 a2 a3 a4 l1 l2 l3 l4 c1 c2 c3 c4 cs is hs rs 3 0 k N q1 q2 m1 m2 k1 k2 W0 v hv hDv (by omega) (by omega) (by omega) (by omega))
  · obtain ⟨rfl, hN1, hN2, hm1, hm2, rfl⟩ := h4
    obtain ⟨N, rfl⟩ := Int.eq_ofNat_of_zero_le (show 0 ≤ nn by omega)
    obtain rfl : V = ⟨cs, hs, 4, 0, 0, 0, (rs.drop k).take N, []⟩ := by rw [← hVd]; rfl
    have hle1 := hle.1
    have hle2 := hle.2
    simp [spc0, spcN] at hle1 hle2
    exact serve_4 a1 a2 a3 a4 l1 l2 l3 l4 c1 c2 c3 c4 cs is hs rs (k : Int) (N : Int) 0 q1 q2 m1 m2 k1 k2 ws bs W0 w hB hD hn hn2 hq hq2 hl hl2 hok hd hsm cs is hs rs ((rs.drop k).take N) ([]) 0 0 hA (fun v hv hDv => tellWords_any a1 a2 a3 a4 l1 l2 l3 l4 c1 c2 c3 c4 cs is hs rs 4 0 k N q1 q2 m1 m2 k1 k2 W0 v hv hDv (by omega) (by omega) (by omega) (by omega))
  · obtain ⟨rfl, rfl, hm1, hm2, rfl⟩ := h5
    obtain rfl : V = ⟨cs.set k (bs.getD 0 false), hs, 5, 0, (k : Int), 0, [], bs⟩ := by rw [← hVd]; rfl
    have hle1 := hle.1
    have hle2 := hle.2
    simp [spc0, spcN] at hle1 hle2
    exact serve_5 a1 a2 a3 a4 l1 l2 l3 l4 c1 c2 c3 c4 cs is hs rs (k : Int) 0 0 q1 q2 m1 m2 k1 k2 ws bs W0 w hB hD hn hn2 hq hq2 hl hl2 hok hd hsm (cs.set k (bs.getD 0 false)) is hs rs [] bs (k : Int) 0 hA (fun v hv hDv => setCoil_any a1 a2 a3 a4 l1 l2 l3 l4 c1 c2 c3 c4 cs is hs rs 5 0 0 k q1 q2 m1 m2 k1 k2 ws bs W0 v hv hDv hn2 hq2 (by omega) (by omega) hl2 (by omega))
  · obtain ⟨rfl, rfl, hm1, hm2, rfl⟩ := h6
    obtain rfl : V = ⟨cs, hs.set k (ws.getD 0 0), 6, 0, (k : Int), 0, ws, []⟩ := by rw [← hVd]; rfl
    have hle1 := hle.1
    have hle2 := hle.2
    simp [spc0, spcN] at hle1 hle2
    exact serve_6 a1 a2 a3 a4 l1 l2 l3 l4 c1 c2 c3 c4 cs is hs rs (k : Int) 0 0 q1 q2 m1 m2 k1 k2 ws bs W0 w hB hD hn hn2 hq hq2 hl hl2 hok hd hsm cs is (hs.set k (ws.getD 0 0)) rs ws [] (k : Int) 0 hA (fun v hv hDv => setWord_any a1 a2 a3 a4 l1 l2 l3 l4 c1 c2 c3 c4 cs is hs rs 6 0 0 k q1 q2 m1 m2 k1 k2 ws bs W0 v hv hDv hn hq (by omega) hl (by omega) (by omega))
  · obtain ⟨rfl, rfl, hm1, hm2, hm3, rfl⟩ := h15
    obtain rfl : V = ⟨wr cs k bs, hs, 15, 0, (k : Int), bs.length, [], []⟩ := by rw [← hVd]; rfl
    have hle1 := hle.1
    have hle2 := hle.2
    simp [spc0, spcN] at hle1 hle2
    have hmi : (m2 : Int) = bs.length := by rw [← hn2]
    exact serve_15 a1 a2 a3 a4 l1 l2 l3 l4 c1 c2 c3 c4 cs is hs rs (k : Int) 0 0 q1 q2 m1 m2 k1 k2 ws bs W0 w hB hD hn hn2 hq hq2 hl hl2 hok hd hsm (wr cs k bs) is hs rs [] [] (k : Int) (bs.length : Int) hA (fun v hv hDv => (hn2 ▸ setCoils_any a1 a2 a3 a4 l1 l2 l3 l4 c1 c2 c3 c4 cs is hs rs 15 0 0 k q1 q2 m1 m2 k1 k2 ws bs W0 v hv hDv hn2 hq2 (by omega) (by omega) (by omega) (by omega)))
  · obtain ⟨rfl, rfl, hm2, hm1, hm3, rfl⟩ := h16
    obtain rfl : V = ⟨cs, wr hs k ws, 16, 0, (k : Int), ws.length, [], []⟩ := by rw [← hVd]; rfl
    have hle1 := hle.1
    have hle2 := hle.2
    simp [spc0, spcN] at hle1 hle2
    have hmi : (m1 : Int) = ws.length := by rw [← hn]
    exact serve_16 a1 a2 a3 a4 l1 l2 l3 l4 c1 c2 c3 c4 cs is hs rs (k : Int) 0 0 q1 q2 m1 m2 k1 k2 ws bs W0 w hB hD hn hn2 hq hq2 hl hl2 hok hd hsm cs is (wr hs k ws) rs [] [] (k : Int) (ws.length : Int) hA (fun v hv hDv => (hn ▸ setWords_any a1 a2 a3 a4 l1 l2 l3 l4 c1 c2 c3 c4 cs is hs rs 16 0 0 k q1 q2 m1 m2 k1 k2 ws bs W0 v hv hDv hn hq (by omega) (by omega) (by omega) (by omega)))
  · obtain ⟨rfl, rfl, hm1, hm2, rfl⟩ := h22
    obtain rfl : V = ⟨cs, hs.set k (mskI (hs.getD k 0) (ws.getD 0 0) (ws.getD 1 0)), 22, 0, (k : Int), 0, ws, []⟩ := by rw [← hVd]; rfl
    have hle1 := hle.1
    have hle2 := hle.2
    simp [spc0, spcN] at hle1 hle2
    exact serve_22 a1 a2 a3 a4 l1 l2 l3 l4 c1 c2 c3 c4 cs is hs rs (k : Int) 0 0 q1 q2 m1 m2 k1 k2 ws bs W0 w hB hD hn hn2 hq hq2 hl hl2 hok hd hsm cs is (hs.set k (mskI (hs.getD k 0) (ws.getD 0 0) (ws.getD 1 0))) rs ws [] (k : Int) 0 hA (fun v hv hDv => maskWord_any a1 a2 a3 a4 l1 l2 l3 l4 c1 c2 c3 c4 cs is hs rs 22 0 0 k q1 q2 m1 m2 k1 k2 ws bs W0 v hv hDv hn hq (by omega) hl (by omega) (by omega))
  · obtain ⟨rfl, hN1, hN2, hm2, hm1, hm3, hw1, hw2⟩ := h23
    obtain ⟨N, rfl⟩ := Int.eq_ofNat_of_zero_le (show 0 ≤ nn by omega)
    obtain ⟨j, rfl⟩ := Int.eq_ofNat_of_zero_le hw1
    obtain rfl : V = ⟨cs, wr hs j ws, 23, 0, 0, 0, ((wr hs j ws).drop k).take N, []⟩ := by rw [← hVd]; rfl
    have hle1 := hle.1
    have hle2 := hle.2
    simp [spc0, spcN] at hle1 hle2
    exact serve_23 a1 a2 a3 a4 l1 l2 l3 l4 c1 c2 c3 c4 cs is hs rs (k : Int) (N : Int) (j : Int) q1 q2 m1 m2 k1 k2 ws bs W0 w hB hD hn hn2 hq hq2 hl hl2 hok hd hsm cs is (wr hs j ws) rs (((wr hs j ws).drop k).take N) [] 0 0 hA (fun v hv hDv => setAndTell_any a1 a2 a3 a4 l1 l2 l3 l4 c1 c2 c3 c4 cs is hs rs 23 0 0 k q1 q2 m1 m2 k1 k2 ws bs W0 v hv hDv N j hn hq (by omega) (by omega) (by omega) (by omega) (by omega) (by omega) (by omega))
end Go.Proofs.Ytfdddkjonjpgpaa
namespace Go.Proofs.Ytfdddkjonjpgpaa
open Go.RowKit
end Go.Proofs.Ytfdddkjonjpgpaa
