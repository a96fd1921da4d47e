/- Texts that the proof needs, joined: Dev18a Dev18b Dev19. -/
import Derived.Test.YtfdddkjonjpgpaaV9
import Derived.Test.YtfdddkjonjpgpaaV8
namespace Go.Proofs.Ytfdddkjonjpgpaa
open Go.RowKit
set_option linter.unusedVariables false
set_option linter.unusedSimpArgs false
set_option maxRecDepth 20000 in
set_option maxHeartbeats 8000000 in
theorem serve_1 (a1 a2 a3 a4 : Option Addr) (l1 l2 l3 l4 c1 c2 c3 c4 : Nat) (cs is : List Bool) (hs rs : List Int) (pl nn wa : Int) (q1 q2 : Option Addr) (m1 m2 k1 k2 : Nat) (ws : List Int) (bs : List Bool) (W0 w : World) (hB : Below W0.heap.size W0 w) (hD : OwnD w W0.heap.size a1 a2 a3 a4 l1 l2 l3 l4 c1 c2 c3 c4 cs is hs rs) (hn : m1 = ws.length) (hn2 : m2 = bs.length) (hq : SlI W0 q1 ws) (hq2 : SlB W0 q2 bs) (hl : ws.length ≤ 2000000) (hl2 : bs.length ≤ 2000000) (hok : okR 1 pl nn wa ws m1 m2 = true) (hd : okD l1 l2 l3 l4 hs rs = true) (hsm : SmD 2000000 cs is hs rs)
    (cs' is' : List Bool) (hs' rs' : List Int) (ws' : List Int) (bs' : List Bool) (pl' nn' : Int)
    (hAll : ∀ w : World, SlI w q1 ws → SlB w q2 bs → Calls Try.prog 64 #[dv a1 a2 a3 a4 l1 l2 l3 l4 c1 c2 c3 c4, rq 1 pl nn wa q1 q2 m1 m2 k1 k2] w fun e w' => e = .returned (.bool true) ∧ Below w.heap.size w w')
    (hdo : ∀ w : World, Below W0.heap.size W0 w → OwnD w W0.heap.size a1 a2 a3 a4 l1 l2 l3 l4 c1 c2 c3 c4 cs is hs rs → Calls Try.prog 77 #[dv a1 a2 a3 a4 l1 l2 l3 l4 c1 c2 c3 c4, rq 1 pl nn wa q1 q2 m1 m2 k1 k2] w fun e w' => SV W0 w w' e a1 a2 a3 a4 l1 l2 l3 l4 c1 c2 c3 c4 cs' is' hs' rs' 1 0 pl' nn' ws' bs') :
    Calls Try.prog 31 #[dv a1 a2 a3 a4 l1 l2 l3 l4 c1 c2 c3 c4, rq 1 pl nn wa q1 q2 m1 m2 k1 k2] w fun e w' => SV W0 w w' e a1 a2 a3 a4 l1 l2 l3 l4 c1 c2 c3 c4 cs' is' hs' rs' 1 0 pl' nn' ws' bs' := by
  obtain ⟨z, hz⟩ : ∃ z, z = ((w.alloc (.cells #[.slice a1 l1 c1, .slice a2 l2 c2, .slice a3 l3 c3, .slice a4 l4 c4] 27)).alloc (.cells #[.int .i64 1, .int .i64 pl, .int .i64 nn, .slice q1 m1 k1, .slice q2 m2 k2, .int .i64 wa] 57)).alloc (.cells #[.int .i64 0, .int .i64 0, .int .i64 0, .int .i64 0, .slice none 0 0, .slice none 0 0] 37) := ⟨_, rfl⟩
  have HZ : Hid (z = _) := hz
  have b0 : Below w.heap.size w z := by rw [hz]; exact bel_next (bel_next (bel_alloc w _) (bel_alloc _ _)) (bel_alloc _ _)
  have X0 : Blk z w.heap.size 27 #[.slice a1 l1 c1, .slice a2 l2 c2, .slice a3 l3 c3, .slice a4 l4 c4] := by rw [hz]; exact ((Blk.new w _ _).below (bel_alloc _ _)).below (bel_alloc _ _)
  have Y0 : Blk z (w.heap.size + 1) 57 #[.int .i64 1, .int .i64 pl, .int .i64 nn, .slice q1 m1 k1, .slice q2 m2 k2, .int .i64 wa] := by rw [hz]; have := (Blk.new (w.alloc (.cells #[.slice a1 l1 c1, .slice a2 l2 c2, .slice a3 l3 c3, .slice a4 l4 c4] 27)) #[.int .i64 1, .int .i64 pl, .int .i64 nn, .slice q1 m1 k1, .slice q2 m2 k2, .int .i64 wa] 57).below (bel_alloc _ (.cells #[.int .i64 0, .int .i64 0, .int .i64 0, .int .i64 0, .slice none 0 0, .slice none 0 0] 37)); simpa using this
  have R0 : Blk z (w.heap.size + 1 + 1) 37 #[.int .i64 0, .int .i64 0, .int .i64 0, .int .i64 0, .slice none 0 0, .slice none 0 0] := by rw [hz]; have := Blk.new ((w.alloc (.cells #[.slice a1 l1 c1, .slice a2 l2 c2, .slice a3 l3 c3, .slice a4 l4 c4] 27)).alloc (.cells #[.int .i64 1, .int .i64 pl, .int .i64 nn, .slice q1 m1 k1, .slice q2 m2 k2, .int .i64 wa] 57)) #[.int .i64 0, .int .i64 0, .int .i64 0, .int .i64 0, .slice none 0 0, .slice none 0 0] 37; simpa using this
  have HB0 : Hid (Below W0.heap.size W0 w) := hB
  have HD0 : Hid (OwnD w W0.heap.size a1 a2 a3 a4 l1 l2 l3 l4 c1 c2 c3 c4 cs is hs rs) := hD
  have HQ : Hid (m1 = ws.length ∧ m2 = bs.length ∧ SlI W0 q1 ws ∧ SlB W0 q2 bs ∧ ws.length ≤ 2000000 ∧ bs.length ≤ 2000000) := ⟨hn, hn2, hq, hq2, hl, hl2⟩
  have HOK : Hid (okR 1 pl nn wa ws m1 m2 = true ∧ okD l1 l2 l3 l4 hs rs = true ∧ SmD 2000000 cs is hs rs ∧ LnD l1 l2 l3 l4 cs is hs rs) := ⟨hok, hd, hsm, hD.sl.1⟩
  have HA : Hid _ := hAll
  have HDO : Hid _ := hdo
  have BW : ∀ u : World, Below w.heap.size w u → Below W0.heap.size W0 u := fun u hu => HB0.out.trans (hu.mono HB0.out.size)
  obtain ⟨x0, x1, x2, x3⟩ := X0.four
  obtain ⟨y0, y1, y2, y3, y4, y5⟩ := Y0.six
  clear hz hB hD hn hn2 hq hq2 hl hl2 hok hd hsm hAll hdo
  go_enter Try.func31, Try.ntmps31
  go_upto_region 1 with fail
  rw [← HZ.out]
  go_wp2_with fail
  refine (implReqOk_q 1 pl nn wa q1 q2 m1 m2 k1 k2 ws bs _ HQ.out.1 HQ.out.2.1 (HQ.out.2.2.1.below (BW _ b0)) (HQ.out.2.2.2.1.below (BW _ b0)) HQ.out.2.2.2.2.1 HQ.out.2.2.2.2.2).mono ?_
  rintro e w1 ⟨he, b'⟩
  rw [HOK.out.1] at he
  subst he
  have b1 := bel_next b0 b'
  have X1 := X0.below b'
  have Y1 := Y0.below b'
  have R1 := R0.below b'
  clear x0 x1 x2 x3 y0 y1 y2 y3 y4 y5 X0 Y0 R0 b0 b'
  obtain ⟨x0, x1, x2, x3⟩ := X1.four
  obtain ⟨y0, y1, y2, y3, y4, y5⟩ := Y1.six
  go_wp2_with fail
  refine (implDeviceOk_any a1 a2 a3 a4 l1 l2 l3 l4 c1 c2 c3 c4 cs is hs rs _ HOK.out.2.2.2 (HD0.out.below b1).sl.2 HOK.out.2.2.1 _ HOK.out.2.1).mono ?_
  rintro e w2 ⟨rfl, b'⟩
  have b2 := bel_next b1 b'
  have X2 := X1.below b'
  have Y2 := Y1.below b'
  have R2 := R1.below b'
  clear x0 x1 x2 x3 y0 y1 y2 y3 y4 y5 X1 Y1 R1 b1 b'
  obtain ⟨x0, x1, x2, x3⟩ := X2.four
  obtain ⟨y0, y1, y2, y3, y4, y5⟩ := Y2.six
  go_wp2_with fail
  refine (HA.out _ (HQ.out.2.2.1.below (BW _ b2)) (HQ.out.2.2.2.1.below (BW _ b2))).mono ?_
  rintro e w3 ⟨rfl, b'⟩
  have b3 := bel_next b2 b'
  have X3 := X2.below b'
  have Y3 := Y2.below b'
  have R3 := R2.below b'
  clear x0 x1 x2 x3 y0 y1 y2 y3 y4 y5 X2 Y2 R2 b2 b'
  obtain ⟨x0, x1, x2, x3⟩ := X3.four
  obtain ⟨y0, y1, y2, y3, y4, y5⟩ := Y3.six
  go_upto_region 7 with fail
  have d3 : Below w3.heap.size w3 w3.drew := (Below.refl _ _).drew
  have hne2 : ¬ (w.heap.size = w.heap.size + 1 + 1) := by omega
  have hne3 : ¬ (w.heap.size + 1 + 1 = w.heap.size) := by omega
  go_region_held3 (fun w' => w'.cell? ⟨w.heap.size, 0, none⟩ = some (.slice a1 l1 c1) ∧ w'.cell? ⟨w.heap.size, 1, none⟩ = some (.slice a2 l2 c2) ∧ w'.cell? ⟨w.heap.size, 2, none⟩ = some (.slice a3 l3 c3) ∧ w'.cell? ⟨w.heap.size, 3, none⟩ = some (.slice a4 l4 c4) ∧ w'.cell? ⟨w.heap.size + 1, 0, none⟩ = some (.int .i64 1) ∧ w'.cell? ⟨w.heap.size + 1, 1, none⟩ = some (.int .i64 pl) ∧ w'.cell? ⟨w.heap.size + 1, 2, none⟩ = some (.int .i64 nn) ∧ w'.cell? ⟨w.heap.size + 1, 3, none⟩ = some (.slice q1 m1 k1) ∧ w'.cell? ⟨w.heap.size + 1, 4, none⟩ = some (.slice q2 m2 k2) ∧ w'.cell? ⟨w.heap.size + 1, 5, none⟩ = some (.int .i64 wa)) (go_keep)
    (first
      | (go_at_call 65; refine (deeds_any _).mono ?_; rintro e w4 ⟨rfl, hm4, b'⟩; have B4 : Below w3.heap.size w3 w4 := (by first | exact b' | exact bel_next d3 b'); have lk4 : (Instr.lookup 87 (.map (some w3.heap.size)) (.int .i64 1) false).run Try.prog w4 = .ok (.func (.func 77) #[] #[]) w4 := mp_get 1 (.func (.func 77) #[] #[]) 0 _ _ _ _ hm4 rfl; obtain ⟨x40, x41, x42, x43⟩ := (X3.below B4).four; obtain ⟨y40, y41, y42, y43, y44, y45⟩ := (Y3.below B4).six; clear b')
      | (go_at_call 77; refine (HDO.out _ (BW _ (by first | exact bel_next b3 B4 | exact (bel_next b3 B4).drew)) (HD0.out.below (by first | exact bel_next b3 B4 | exact (bel_next b3 B4).drew))).mono ?_; rintro e w5 ⟨r1, r2, n1, n2, e1, e2, rfl, o1, o2, o3, o4, o5⟩; have D4 := HD0.out.below (bel_next b3 B4); have X5 := (X3.below B4).chg o5 (D4.noBlk (X3.below B4) (by decide) (by decide)); have Y5 := (Y3.below B4).chg o5 (D4.noBlk (Y3.below B4) (by decide) (by decide)); have R5 := (R3.below B4).chg o5 (D4.noBlk (R3.below B4) (by decide) (by decide)); obtain ⟨x50, x51, x52, x53⟩ := X5.four; obtain ⟨y50, y51, y52, y53, y54, y55⟩ := Y5.six; obtain ⟨s0, s1, s2, s3, s4, s5⟩ := R5.six; have f0 := R5.fro 0; have f1 := R5.fro 1; have f2 := R5.fro 2; have f3 := R5.fro 3; have f4 := R5.fro 4; have f5 := R5.fro 5; have sz4 : w.heap.size ≤ w4.heap.size := (bel_next b3 B4).size; have HH : Hid (OwnI w5 w.heap.size (.slice r1 n1 e1) ws' ∧ OwnB w5 w.heap.size (.slice r2 n2 e2) bs' ∧ OwnD w5 W0.heap.size a1 a2 a3 a4 l1 l2 l3 l4 c1 c2 c3 c4 cs' is' hs' rs' ∧ Below W0.heap.size W0 w5 ∧ Chg w w5 (Of4 (.slice a1 l1 c1) (.slice a2 l2 c2) (.slice a3 l3 c3) (.slice a4 l4 c4)) ∧ ExB w5 (w.heap.size + 1 + 1) 37) := ⟨OwnI.mono o1 (by exact sz4), OwnB.mono o2 (by exact sz4), o3, o4, (Chg.ofBelow (bel_next b3 B4)).trans o5, ⟨_, R5⟩⟩; have HZ0 : Hid (W0.heap.size ≤ w.heap.size) := HB0.out.size; clear o1 o2 o3 o4 o5 D4 X5 Y5 R5))
  all_goals (
    go_wp2
    refine bodyPost_ret (v := rp 1 0 pl' nn' r1 r2 n1 n2 e1 e2) (by simp [results, Try.results31, go_sem, s0, s1, s2, s3, s4, s5]) rfl ?_
    obtain ⟨o1, o2, o3, o4, o5, o6⟩ := HH.out
    exact ⟨_, _, _, _, _, _, rfl, rowp_set6 o1 o6 (by decide), rowp_set6 o2 o6 (by decide), o3.set6 o6 (by decide) (by decide), belp_set6 o4 (by have := HZ0.out; omega), o5.set6 (by omega)⟩)
set_option maxRecDepth 20000 in
set_option maxHeartbeats 8000000 in
theorem serve_2 (a1 a2 a3 a4 : Option Addr) (l1 l2 l3 l4 c1 c2 c3 c4 : Nat) (cs is : List Bool) (hs rs : List Int) (pl nn wa : Int) (q1 q2 : Option Addr) (m1 m2 k1 k2 : Nat) (ws : List Int) (bs : List Bool) (W0 w : World) (hB : Below W0.heap.size W0 w) (hD : OwnD w W0.heap.size a1 a2 a3 a4 l1 l2 l3 l4 c1 c2 c3 c4 cs is hs rs) (hn : m1 = ws.length) (hn2 : m2 = bs.length) (hq : SlI W0 q1 ws) (hq2 : SlB W0 q2 bs) (hl : ws.length ≤ 2000000) (hl2 : bs.length ≤ 2000000) (hok : okR 2 pl nn wa ws m1 m2 = true) (hd : okD l1 l2 l3 l4 hs rs = true) (hsm : SmD 2000000 cs is hs rs)
    (cs' is' : List Bool) (hs' rs' : List Int) (ws' : List Int) (bs' : List Bool) (pl' nn' : Int)
    (hAll : ∀ w : World, SlI w q1 ws → SlB w q2 bs → Calls Try.prog 64 #[dv a1 a2 a3 a4 l1 l2 l3 l4 c1 c2 c3 c4, rq 2 pl nn wa q1 q2 m1 m2 k1 k2] w fun e w' => e = .returned (.bool true) ∧ Below w.heap.size w w')
    (hdo : ∀ w : World, Below W0.heap.size W0 w → OwnD w W0.heap.size a1 a2 a3 a4 l1 l2 l3 l4 c1 c2 c3 c4 cs is hs rs → Calls Try.prog 78 #[dv a1 a2 a3 a4 l1 l2 l3 l4 c1 c2 c3 c4, rq 2 pl nn wa q1 q2 m1 m2 k1 k2] w fun e w' => SV W0 w w' e a1 a2 a3 a4 l1 l2 l3 l4 c1 c2 c3 c4 cs' is' hs' rs' 2 0 pl' nn' ws' bs') :
    Calls Try.prog 31 #[dv a1 a2 a3 a4 l1 l2 l3 l4 c1 c2 c3 c4, rq 2 pl nn wa q1 q2 m1 m2 k1 k2] w fun e w' => SV W0 w w' e a1 a2 a3 a4 l1 l2 l3 l4 c1 c2 c3 c4 cs' is' hs' rs' 2 0 pl' nn' ws' bs' := by
  obtain ⟨z, hz⟩ : ∃ z, z = ((w.alloc (.cells #[.slice a1 l1 c1, .slice a2 l2 c2, .slice a3 l3 c3, .slice a4 l4 c4] 27)).alloc (.cells #[.int .i64 2, .int .i64 pl, .int .i64 nn, .slice q1 m1 k1, .slice q2 m2 k2, .int .i64 wa] 57)).alloc (.cells #[.int .i64 0, .int .i64 0, .int .i64 0, .int .i64 0, .slice none 0 0, .slice none 0 0] 37) := ⟨_, rfl⟩
  have HZ : Hid (z = _) := hz
  have b0 : Below w.heap.size w z := by rw [hz]; exact bel_next (bel_next (bel_alloc w _) (bel_alloc _ _)) (bel_alloc _ _)
  have X0 : Blk z w.heap.size 27 #[.slice a1 l1 c1, .slice a2 l2 c2, .slice a3 l3 c3, .slice a4 l4 c4] := by rw [hz]; exact ((Blk.new w _ _).below (bel_alloc _ _)).below (bel_alloc _ _)
  have Y0 : Blk z (w.heap.size + 1) 57 #[.int .i64 2, .int .i64 pl, .int .i64 nn, .slice q1 m1 k1, .slice q2 m2 k2, .int .i64 wa] := by rw [hz]; have := (Blk.new (w.alloc (.cells #[.slice a1 l1 c1, .slice a2 l2 c2, .slice a3 l3 c3, .slice a4 l4 c4] 27)) #[.int .i64 2, .int .i64 pl, .int .i64 nn, .slice q1 m1 k1, .slice q2 m2 k2, .int .i64 wa] 57).below (bel_alloc _ (.cells #[.int .i64 0, .int .i64 0, .int .i64 0, .int .i64 0, .slice none 0 0, .slice none 0 0] 37)); simpa using this
  have R0 : Blk z (w.heap.size + 1 + 1) 37 #[.int .i64 0, .int .i64 0, .int .i64 0, .int .i64 0, .slice none 0 0, .slice none 0 0] := by rw [hz]; have := Blk.new ((w.alloc (.cells #[.slice a1 l1 c1, .slice a2 l2 c2, .slice a3 l3 c3, .slice a4 l4 c4] 27)).alloc (.cells #[.int .i64 2, .int .i64 pl, .int .i64 nn, .slice q1 m1 k1, .slice q2 m2 k2, .int .i64 wa] 57)) #[.int .i64 0, .int .i64 0, .int .i64 0, .int .i64 0, .slice none 0 0, .slice none 0 0] 37; simpa using this
  have HB0 : Hid (Below W0.heap.size W0 w) := hB
  have HD0 : Hid (OwnD w W0.heap.size a1 a2 a3 a4 l1 l2 l3 l4 c1 c2 c3 c4 cs is hs rs) := hD
  have HQ : Hid (m1 = ws.length ∧ m2 = bs.length ∧ SlI W0 q1 ws ∧ SlB W0 q2 bs ∧ ws.length ≤ 2000000 ∧ bs.length ≤ 2000000) := ⟨hn, hn2, hq, hq2, hl, hl2⟩
  have HOK : Hid (okR 2 pl nn wa ws m1 m2 = true ∧ okD l1 l2 l3 l4 hs rs = true ∧ SmD 2000000 cs is hs rs ∧ LnD l1 l2 l3 l4 cs is hs rs) := ⟨hok, hd, hsm, hD.sl.1⟩
  have HA : Hid _ := hAll
  have HDO : Hid _ := hdo
  have BW : ∀ u : World, Below w.heap.size w u → Below W0.heap.size W0 u := fun u hu => HB0.out.trans (hu.mono HB0.out.size)
  obtain ⟨x0, x1, x2, x3⟩ := X0.four
  obtain ⟨y0, y1, y2, y3, y4, y5⟩ := Y0.six
  clear hz hB hD hn hn2 hq hq2 hl hl2 hok hd hsm hAll hdo
  go_enter Try.func31, Try.ntmps31
  go_upto_region 1 with fail
  rw [← HZ.out]
  go_wp2_with fail
  refine (implReqOk_q 2 pl nn wa q1 q2 m1 m2 k1 k2 ws bs _ HQ.out.1 HQ.out.2.1 (HQ.out.2.2.1.below (BW _ b0)) (HQ.out.2.2.2.1.below (BW _ b0)) HQ.out.2.2.2.2.1 HQ.out.2.2.2.2.2).mono ?_
  rintro e w1 ⟨he, b'⟩
  rw [HOK.out.1] at he
  subst he
  have b1 := bel_next b0 b'
  have X1 := X0.below b'
  have Y1 := Y0.below b'
  have R1 := R0.below b'
  clear x0 x1 x2 x3 y0 y1 y2 y3 y4 y5 X0 Y0 R0 b0 b'
  obtain ⟨x0, x1, x2, x3⟩ := X1.four
  obtain ⟨y0, y1, y2, y3, y4, y5⟩ := Y1.six
  go_wp2_with fail
  refine (implDeviceOk_any a1 a2 a3 a4 l1 l2 l3 l4 c1 c2 c3 c4 cs is hs rs _ HOK.out.2.2.2 (HD0.out.below b1).sl.2 HOK.out.2.2.1 _ HOK.out.2.1).mono ?_
  rintro e w2 ⟨rfl, b'⟩
  have b2 := bel_next b1 b'
  have X2 := X1.below b'
  have Y2 := Y1.below b'
  have R2 := R1.below b'
  clear x0 x1 x2 x3 y0 y1 y2 y3 y4 y5 X1 Y1 R1 b1 b'
  obtain ⟨x0, x1, x2, x3⟩ := X2.four
  obtain ⟨y0, y1, y2, y3, y4, y5⟩ := Y2.six
  go_wp2_with fail
  refine (HA.out _ (HQ.out.2.2.1.below (BW _ b2)) (HQ.out.2.2.2.1.below (BW _ b2))).mono ?_
  rintro e w3 ⟨rfl, b'⟩
  have b3 := bel_next b2 b'
  have X3 := X2.below b'
  have Y3 := Y2.below b'
  have R3 := R2.below b'
  clear x0 x1 x2 x3 y0 y1 y2 y3 y4 y5 X2 Y2 R2 b2 b'
  obtain ⟨x0, x1, x2, x3⟩ := X3.four
  obtain ⟨y0, y1, y2, y3, y4, y5⟩ := Y3.six
  go_upto_region 7 with fail
  have d3 : Below w3.heap.size w3 w3.drew := (Below.refl _ _).drew
  have hne2 : ¬ (w.heap.size = w.heap.size + 1 + 1) := by omega
  have hne3 : ¬ (w.heap.size + 1 + 1 = w.heap.size) := by omega
  go_region_held3 (fun w' => w'.cell? ⟨w.heap.size, 0, none⟩ = some (.slice a1 l1 c1) ∧ w'.cell? ⟨w.heap.size, 1, none⟩ = some (.slice a2 l2 c2) ∧ w'.cell? ⟨w.heap.size, 2, none⟩ = some (.slice a3 l3 c3) ∧ w'.cell? ⟨w.heap.size, 3, none⟩ = some (.slice a4 l4 c4) ∧ w'.cell? ⟨w.heap.size + 1, 0, none⟩ = some (.int .i64 2) ∧ w'.cell? ⟨w.heap.size + 1, 1, none⟩ = some (.int .i64 pl) ∧ w'.cell? ⟨w.heap.size + 1, 2, none⟩ = some (.int .i64 nn) ∧ w'.cell? ⟨w.heap.size + 1, 3, none⟩ = some (.slice q1 m1 k1) ∧ w'.cell? ⟨w.heap.size + 1, 4, none⟩ = some (.slice q2 m2 k2) ∧ w'.cell? ⟨w.heap.size + 1, 5, none⟩ = some (.int .i64 wa)) (go_keep)
    (first
      | (go_at_call 65; refine (deeds_any _).mono ?_; rintro e w4 ⟨rfl, hm4, b'⟩; have B4 : Below w3.heap.size w3 w4 := (by first | exact b' | exact bel_next d3 b'); have lk4 : (Instr.lookup 87 (.map (some w3.heap.size)) (.int .i64 2) false).run Try.prog w4 = .ok (.func (.func 78) #[] #[]) w4 := mp_get 2 (.func (.func 78) #[] #[]) 1 _ _ _ _ hm4 rfl; obtain ⟨x40, x41, x42, x43⟩ := (X3.below B4).four; obtain ⟨y40, y41, y42, y43, y44, y45⟩ := (Y3.below B4).six; clear b')
      | (go_at_call 78; refine (HDO.out _ (BW _ (by first | exact bel_next b3 B4 | exact (bel_next b3 B4).drew)) (HD0.out.below (by first | exact bel_next b3 B4 | exact (bel_next b3 B4).drew))).mono ?_; rintro e w5 ⟨r1, r2, n1, n2, e1, e2, rfl, o1, o2, o3, o4, o5⟩; have D4 := HD0.out.below (bel_next b3 B4); have X5 := (X3.below B4).chg o5 (D4.noBlk (X3.below B4) (by decide) (by decide)); have Y5 := (Y3.below B4).chg o5 (D4.noBlk (Y3.below B4) (by decide) (by decide)); have R5 := (R3.below B4).chg o5 (D4.noBlk (R3.below B4) (by decide) (by decide)); obtain ⟨x50, x51, x52, x53⟩ := X5.four; obtain ⟨y50, y51, y52, y53, y54, y55⟩ := Y5.six; obtain ⟨s0, s1, s2, s3, s4, s5⟩ := R5.six; have f0 := R5.fro 0; have f1 := R5.fro 1; have f2 := R5.fro 2; have f3 := R5.fro 3; have f4 := R5.fro 4; have f5 := R5.fro 5; have sz4 : w.heap.size ≤ w4.heap.size := (bel_next b3 B4).size; have HH : Hid (OwnI w5 w.heap.size (.slice r1 n1 e1) ws' ∧ OwnB w5 w.heap.size (.slice r2 n2 e2) bs' ∧ OwnD w5 W0.heap.size a1 a2 a3 a4 l1 l2 l3 l4 c1 c2 c3 c4 cs' is' hs' rs' ∧ Below W0.heap.size W0 w5 ∧ Chg w w5 (Of4 (.slice a1 l1 c1) (.slice a2 l2 c2) (.slice a3 l3 c3) (.slice a4 l4 c4)) ∧ ExB w5 (w.heap.size + 1 + 1) 37) := ⟨OwnI.mono o1 (by exact sz4), OwnB.mono o2 (by exact sz4), o3, o4, (Chg.ofBelow (bel_next b3 B4)).trans o5, ⟨_, R5⟩⟩; have HZ0 : Hid (W0.heap.size ≤ w.heap.size) := HB0.out.size; clear o1 o2 o3 o4 o5 D4 X5 Y5 R5))
  all_goals (
    go_wp2
    refine bodyPost_ret (v := rp 2 0 pl' nn' r1 r2 n1 n2 e1 e2) (by simp [results, Try.results31, go_sem, s0, s1, s2, s3, s4, s5]) rfl ?_
    obtain ⟨o1, o2, o3, o4, o5, o6⟩ := HH.out
    exact ⟨_, _, _, _, _, _, rfl, rowp_set6 o1 o6 (by decide), rowp_set6 o2 o6 (by decide), o3.set6 o6 (by decide) (by decide), belp_set6 o4 (by have := HZ0.out; omega), o5.set6 (by omega)⟩)
set_option maxRecDepth 20000 in
set_option maxHeartbeats 8000000 in
theorem serve_3 (a1 a2 a3 a4 : Option Addr) (l1 l2 l3 l4 c1 c2 c3 c4 : Nat) (cs is : List Bool) (hs rs : List Int) (pl nn wa : Int) (q1 q2 : Option Addr) (m1 m2 k1 k2 : Nat) (ws : List Int) (bs : List Bool) (W0 w : World) (hB : Below W0.heap.size W0 w) (hD : OwnD w W0.heap.size a1 a2 a3 a4 l1 l2 l3 l4 c1 c2 c3 c4 cs is hs rs) (hn : m1 = ws.length) (hn2 : m2 = bs.length) (hq : SlI W0 q1 ws) (hq2 : SlB W0 q2 bs) (hl : ws.length ≤ 2000000) (hl2 : bs.length ≤ 2000000) (hok : okR 3 pl nn wa ws m1 m2 = true) (hd : okD l1 l2 l3 l4 hs rs = true) (hsm : SmD 2000000 cs is hs rs)
    (cs' is' : List Bool) (hs' rs' : List Int) (ws' : List Int) (bs' : List Bool) (pl' nn' : Int)
    (hAll : ∀ w : World, SlI w q1 ws → SlB w q2 bs → Calls Try.prog 64 #[dv a1 a2 a3 a4 l1 l2 l3 l4 c1 c2 c3 c4, rq 3 pl nn wa q1 q2 m1 m2 k1 k2] w fun e w' => e = .returned (.bool true) ∧ Below w.heap.size w w')
    (hdo : ∀ w : World, Below W0.heap.size W0 w → OwnD w W0.heap.size a1 a2 a3 a4 l1 l2 l3 l4 c1 c2 c3 c4 cs is hs rs → Calls Try.prog 79 #[dv a1 a2 a3 a4 l1 l2 l3 l4 c1 c2 c3 c4, rq 3 pl nn wa q1 q2 m1 m2 k1 k2] w fun e w' => SV W0 w w' e a1 a2 a3 a4 l1 l2 l3 l4 c1 c2 c3 c4 cs' is' hs' rs' 3 0 pl' nn' ws' bs') :
    Calls Try.prog 31 #[dv a1 a2 a3 a4 l1 l2 l3 l4 c1 c2 c3 c4, rq 3 pl nn wa q1 q2 m1 m2 k1 k2] w fun e w' => SV W0 w w' e a1 a2 a3 a4 l1 l2 l3 l4 c1 c2 c3 c4 cs' is' hs' rs' 3 0 pl' nn' ws' bs' := by
  obtain ⟨z, hz⟩ : ∃ z, z = ((w.alloc (.cells #[.slice a1 l1 c1, .slice a2 l2 c2, .slice a3 l3 c3, .slice a4 l4 c4] 27)).alloc (.cells #[.int .i64 3, .int .i64 pl, .int .i64 nn, .slice q1 m1 k1, .slice q2 m2 k2, .int .i64 wa] 57)).alloc (.cells #[.int .i64 0, .int .i64 0, .int .i64 0, .int .i64 0, .slice none 0 0, .slice none 0 0] 37) := ⟨_, rfl⟩
  have HZ : Hid (z = _) := hz
  have b0 : Below w.heap.size w z := by rw [hz]; exact bel_next (bel_next (bel_alloc w _) (bel_alloc _ _)) (bel_alloc _ _)
  have X0 : Blk z w.heap.size 27 #[.slice a1 l1 c1, .slice a2 l2 c2, .slice a3 l3 c3, .slice a4 l4 c4] := by rw [hz]; exact ((Blk.new w _ _).below (bel_alloc _ _)).below (bel_alloc _ _)
  have Y0 : Blk z (w.heap.size + 1) 57 #[.int .i64 3, .int .i64 pl, .int .i64 nn, .slice q1 m1 k1, .slice q2 m2 k2, .int .i64 wa] := by rw [hz]; have := (Blk.new (w.alloc (.cells #[.slice a1 l1 c1, .slice a2 l2 c2, .slice a3 l3 c3, .slice a4 l4 c4] 27)) #[.int .i64 3, .int .i64 pl, .int .i64 nn, .slice q1 m1 k1, .slice q2 m2 k2, .int .i64 wa] 57).below (bel_alloc _ (.cells #[.int .i64 0, .int .i64 0, .int .i64 0, .int .i64 0, .slice none 0 0, .slice none 0 0] 37)); simpa using this
  have R0 : Blk z (w.heap.size + 1 + 1) 37 #[.int .i64 0, .int .i64 0, .int .i64 0, .int .i64 0, .slice none 0 0, .slice none 0 0] := by rw [hz]; have := Blk.new ((w.alloc (.cells #[.slice a1 l1 c1, .slice a2 l2 c2, .slice a3 l3 c3, .slice a4 l4 c4] 27)).alloc (.cells #[.int .i64 3, .int .i64 pl, .int .i64 nn, .slice q1 m1 k1, .slice q2 m2 k2, .int .i64 wa] 57)) #[.int .i64 0, .int .i64 0, .int .i64 0, .int .i64 0, .slice none 0 0, .slice none 0 0] 37; simpa using this
  have HB0 : Hid (Below W0.heap.size W0 w) := hB
  have HD0 : Hid (OwnD w W0.heap.size a1 a2 a3 a4 l1 l2 l3 l4 c1 c2 c3 c4 cs is hs rs) := hD
  have HQ : Hid (m1 = ws.length ∧ m2 = bs.length ∧ SlI W0 q1 ws ∧ SlB W0 q2 bs ∧ ws.length ≤ 2000000 ∧ bs.length ≤ 2000000) := ⟨hn, hn2, hq, hq2, hl, hl2⟩
  have HOK : Hid (okR 3 pl nn wa ws m1 m2 = true ∧ okD l1 l2 l3 l4 hs rs = true ∧ SmD 2000000 cs is hs rs ∧ LnD l1 l2 l3 l4 cs is hs rs) := ⟨hok, hd, hsm, hD.sl.1⟩
  have HA : Hid _ := hAll
  have HDO : Hid _ := hdo
  have BW : ∀ u : World, Below w.heap.size w u → Below W0.heap.size W0 u := fun u hu => HB0.out.trans (hu.mono HB0.out.size)
  obtain ⟨x0, x1, x2, x3⟩ := X0.four
  obtain ⟨y0, y1, y2, y3, y4, y5⟩ := Y0.six
  clear hz hB hD hn hn2 hq hq2 hl hl2 hok hd hsm hAll hdo
  go_enter Try.func31, Try.ntmps31
  go_upto_region 1 with fail
  rw [← HZ.out]
  go_wp2_with fail
  refine (implReqOk_q 3 pl nn wa q1 q2 m1 m2 k1 k2 ws bs _ HQ.out.1 HQ.out.2.1 (HQ.out.2.2.1.below (BW _ b0)) (HQ.out.2.2.2.1.below (BW _ b0)) HQ.out.2.2.2.2.1 HQ.out.2.2.2.2.2).mono ?_
  rintro e w1 ⟨he, b'⟩
  rw [HOK.out.1] at he
  subst he
  have b1 := bel_next b0 b'
  have X1 := X0.below b'
  have Y1 := Y0.below b'
  have R1 := R0.below b'
  clear x0 x1 x2 x3 y0 y1 y2 y3 y4 y5 X0 Y0 R0 b0 b'
  obtain ⟨x0, x1, x2, x3⟩ := X1.four
  obtain ⟨y0, y1, y2, y3, y4, y5⟩ := Y1.six
  go_wp2_with fail
  refine (implDeviceOk_any a1 a2 a3 a4 l1 l2 l3 l4 c1 c2 c3 c4 cs is hs rs _ HOK.out.2.2.2 (HD0.out.below b1).sl.2 HOK.out.2.2.1 _ HOK.out.2.1).mono ?_
  rintro e w2 ⟨rfl, b'⟩
  have b2 := bel_next b1 b'
  have X2 := X1.below b'
  have Y2 := Y1.below b'
  have R2 := R1.below b'
  clear x0 x1 x2 x3 y0 y1 y2 y3 y4 y5 X1 Y1 R1 b1 b'
  obtain ⟨x0, x1, x2, x3⟩ := X2.four
  obtain ⟨y0, y1, y2, y3, y4, y5⟩ := Y2.six
  go_wp2_with fail
  refine (HA.out _ (HQ.out.2.2.1.below (BW _ b2)) (HQ.out.2.2.2.1.below (BW _ b2))).mono ?_
  rintro e w3 ⟨rfl, b'⟩
  have b3 := bel_next b2 b'
  have X3 := X2.below b'
  have Y3 := Y2.below b'
  have R3 := R2.below b'
  clear x0 x1 x2 x3 y0 y1 y2 y3 y4 y5 X2 Y2 R2 b2 b'
  obtain ⟨x0, x1, x2, x3⟩ := X3.four
  obtain ⟨y0, y1, y2, y3, y4, y5⟩ := Y3.six
  go_upto_region 7 with fail
  have d3 : Below w3.heap.size w3 w3.drew := (Below.refl _ _).drew
  have hne2 : ¬ (w.heap.size = w.heap.size + 1 + 1) := by omega
  have hne3 : ¬ (w.heap.size + 1 + 1 = w.heap.size) := by omega
  go_region_held3 (fun w' => w'.cell? ⟨w.heap.size, 0, none⟩ = some (.slice a1 l1 c1) ∧ w'.cell? ⟨w.heap.size, 1, none⟩ = some (.slice a2 l2 c2) ∧ w'.cell? ⟨w.heap.size, 2, none⟩ = some (.slice a3 l3 c3) ∧ w'.cell? ⟨w.heap.size, 3, none⟩ = some (.slice a4 l4 c4) ∧ w'.cell? ⟨w.heap.size + 1, 0, none⟩ = some (.int .i64 3) ∧ w'.cell? ⟨w.heap.size + 1, 1, none⟩ = some (.int .i64 pl) ∧ w'.cell? ⟨w.heap.size + 1, 2, none⟩ = some (.int .i64 nn) ∧ w'.cell? ⟨w.heap.size + 1, 3, none⟩ = some (.slice q1 m1 k1) ∧ w'.cell? ⟨w.heap.size + 1, 4, none⟩ = some (.slice q2 m2 k2) ∧ w'.cell? ⟨w.heap.size + 1, 5, none⟩ = some (.int .i64 wa)) (go_keep)
    (first
      | (go_at_call 65; refine (deeds_any _).mono ?_; rintro e w4 ⟨rfl, hm4, b'⟩; have B4 : Below w3.heap.size w3 w4 := (by first | exact b' | exact bel_next d3 b'); have lk4 : (Instr.lookup 87 (.map (some w3.heap.size)) (.int .i64 3) false).run Try.prog w4 = .ok (.func (.func 79) #[] #[]) w4 := mp_get 3 (.func (.func 79) #[] #[]) 2 _ _ _ _ hm4 rfl; obtain ⟨x40, x41, x42, x43⟩ := (X3.below B4).four; obtain ⟨y40, y41, y42, y43, y44, y45⟩ := (Y3.below B4).six; clear b')
      | (go_at_call 79; refine (HDO.out _ (BW _ (by first | exact bel_next b3 B4 | exact (bel_next b3 B4).drew)) (HD0.out.below (by first | exact bel_next b3 B4 | exact (bel_next b3 B4).drew))).mono ?_; rintro e w5 ⟨r1, r2, n1, n2, e1, e2, rfl, o1, o2, o3, o4, o5⟩; have D4 := HD0.out.below (bel_next b3 B4); have X5 := (X3.below B4).chg o5 (D4.noBlk (X3.below B4) (by decide) (by decide)); have Y5 := (Y3.below B4).chg o5 (D4.noBlk (Y3.below B4) (by decide) (by decide)); have R5 := (R3.below B4).chg o5 (D4.noBlk (R3.below B4) (by decide) (by decide)); obtain ⟨x50, x51, x52, x53⟩ := X5.four; obtain ⟨y50, y51, y52, y53, y54, y55⟩ := Y5.six; obtain ⟨s0, s1, s2, s3, s4, s5⟩ := R5.six; have f0 := R5.fro 0; have f1 := R5.fro 1; have f2 := R5.fro 2; have f3 := R5.fro 3; have f4 := R5.fro 4; have f5 := R5.fro 5; have sz4 : w.heap.size ≤ w4.heap.size := (bel_next b3 B4).size; have HH : Hid (OwnI w5 w.heap.size (.slice r1 n1 e1) ws' ∧ OwnB w5 w.heap.size (.slice r2 n2 e2) bs' ∧ OwnD w5 W0.heap.size a1 a2 a3 a4 l1 l2 l3 l4 c1 c2 c3 c4 cs' is' hs' rs' ∧ Below W0.heap.size W0 w5 ∧ Chg w w5 (Of4 (.slice a1 l1 c1) (.slice a2 l2 c2) (.slice a3 l3 c3) (.slice a4 l4 c4)) ∧ ExB w5 (w.heap.size + 1 + 1) 37) := ⟨OwnI.mono o1 (by exact sz4), OwnB.mono o2 (by exact sz4), o3, o4, (Chg.ofBelow (bel_next b3 B4)).trans o5, ⟨_, R5⟩⟩; have HZ0 : Hid (W0.heap.size ≤ w.heap.size) := HB0.out.size; clear o1 o2 o3 o4 o5 D4 X5 Y5 R5))
  all_goals (
    go_wp2
    refine bodyPost_ret (v := rp 3 0 pl' nn' r1 r2 n1 n2 e1 e2) (by simp [results, Try.results31, go_sem, s0, s1, s2, s3, s4, s5]) rfl ?_
    obtain ⟨o1, o2, o3, o4, o5, o6⟩ := HH.out
    exact ⟨_, _, _, _, _, _, rfl, rowp_set6 o1 o6 (by decide), rowp_set6 o2 o6 (by decide), o3.set6 o6 (by decide) (by decide), belp_set6 o4 (by have := HZ0.out; omega), o5.set6 (by omega)⟩)
set_option maxRecDepth 20000 in
set_option maxHeartbeats 8000000 in
theorem serve_4 (a1 a2 a3 a4 : Option Addr) (l1 l2 l3 l4 c1 c2 c3 c4 : Nat) (cs is : List Bool) (hs rs : List Int) (pl nn wa : Int) (q1 q2 : Option Addr) (m1 m2 k1 k2 : Nat) (ws : List Int) (bs : List Bool) (W0 w : World) (hB : Below W0.heap.size W0 w) (hD : OwnD w W0.heap.size a1 a2 a3 a4 l1 l2 l3 l4 c1 c2 c3 c4 cs is hs rs) (hn : m1 = ws.length) (hn2 : m2 = bs.length) (hq : SlI W0 q1 ws) (hq2 : SlB W0 q2 bs) (hl : ws.length ≤ 2000000) (hl2 : bs.length ≤ 2000000) (hok : okR 4 pl nn wa ws m1 m2 = true) (hd : okD l1 l2 l3 l4 hs rs = true) (hsm : SmD 2000000 cs is hs rs)
    (cs' is' : List Bool) (hs' rs' : List Int) (ws' : List Int) (bs' : List Bool) (pl' nn' : Int)
    (hAll : ∀ w : World, SlI w q1 ws → SlB w q2 bs → Calls Try.prog 64 #[dv a1 a2 a3 a4 l1 l2 l3 l4 c1 c2 c3 c4, rq 4 pl nn wa q1 q2 m1 m2 k1 k2] w fun e w' => e = .returned (.bool true) ∧ Below w.heap.size w w')
    (hdo : ∀ w : World, Below W0.heap.size W0 w → OwnD w W0.heap.size a1 a2 a3 a4 l1 l2 l3 l4 c1 c2 c3 c4 cs is hs rs → Calls Try.prog 80 #[dv a1 a2 a3 a4 l1 l2 l3 l4 c1 c2 c3 c4, rq 4 pl nn wa q1 q2 m1 m2 k1 k2] w fun e w' => SV W0 w w' e a1 a2 a3 a4 l1 l2 l3 l4 c1 c2 c3 c4 cs' is' hs' rs' 4 0 pl' nn' ws' bs') :
    Calls Try.prog 31 #[dv a1 a2 a3 a4 l1 l2 l3 l4 c1 c2 c3 c4, rq 4 pl nn wa q1 q2 m1 m2 k1 k2] w fun e w' => SV W0 w w' e a1 a2 a3 a4 l1 l2 l3 l4 c1 c2 c3 c4 cs' is' hs' rs' 4 0 pl' nn' ws' bs' := by
  obtain ⟨z, hz⟩ : ∃ z, z = ((w.alloc (.cells #[.slice a1 l1 c1, .slice a2 l2 c2, .slice a3 l3 c3, .slice a4 l4 c4] 27)).alloc (.cells #[.int .i64 4, .int .i64 pl, .int .i64 nn, .slice q1 m1 k1, .slice q2 m2 k2, .int .i64 wa] 57)).alloc (.cells #[.int .i64 0, .int .i64 0, .int .i64 0, .int .i64 0, .slice none 0 0, .slice none 0 0] 37) := ⟨_, rfl⟩
  have HZ : Hid (z = _) := hz
  have b0 : Below w.heap.size w z := by rw [hz]; exact bel_next (bel_next (bel_alloc w _) (bel_alloc _ _)) (bel_alloc _ _)
  have X0 : Blk z w.heap.size 27 #[.slice a1 l1 c1, .slice a2 l2 c2, .slice a3 l3 c3, .slice a4 l4 c4] := by rw [hz]; exact ((Blk.new w _ _).below (bel_alloc _ _)).below (bel_alloc _ _)
  have Y0 : Blk z (w.heap.size + 1) 57 #[.int .i64 4, .int .i64 pl, .int .i64 nn, .slice q1 m1 k1, .slice q2 m2 k2, .int .i64 wa] := by rw [hz]; have := (Blk.new (w.alloc (.cells #[.slice a1 l1 c1, .slice a2 l2 c2, .slice a3 l3 c3, .slice a4 l4 c4] 27)) #[.int .i64 4, .int .i64 pl, .int .i64 nn, .slice q1 m1 k1, .slice q2 m2 k2, .int .i64 wa] 57).below (bel_alloc _ (.cells #[.int .i64 0, .int .i64 0, .int .i64 0, .int .i64 0, .slice none 0 0, .slice none 0 0] 37)); simpa using this
  have R0 : Blk z (w.heap.size + 1 + 1) 37 #[.int .i64 0, .int .i64 0, .int .i64 0, .int .i64 0, .slice none 0 0, .slice none 0 0] := by rw [hz]; have := Blk.new ((w.alloc (.cells #[.slice a1 l1 c1, .slice a2 l2 c2, .slice a3 l3 c3, .slice a4 l4 c4] 27)).alloc (.cells #[.int .i64 4, .int .i64 pl, .int .i64 nn, .slice q1 m1 k1, .slice q2 m2 k2, .int .i64 wa] 57)) #[.int .i64 0, .int .i64 0, .int .i64 0, .int .i64 0, .slice none 0 0, .slice none 0 0] 37; simpa using this
  have HB0 : Hid (Below W0.heap.size W0 w) := hB
  have HD0 : Hid (OwnD w W0.heap.size a1 a2 a3 a4 l1 l2 l3 l4 c1 c2 c3 c4 cs is hs rs) := hD
  have HQ : Hid (m1 = ws.length ∧ m2 = bs.length ∧ SlI W0 q1 ws ∧ SlB W0 q2 bs ∧ ws.length ≤ 2000000 ∧ bs.length ≤ 2000000) := ⟨hn, hn2, hq, hq2, hl, hl2⟩
  have HOK : Hid (okR 4 pl nn wa ws m1 m2 = true ∧ okD l1 l2 l3 l4 hs rs = true ∧ SmD 2000000 cs is hs rs ∧ LnD l1 l2 l3 l4 cs is hs rs) := ⟨hok, hd, hsm, hD.sl.1⟩
  have HA : Hid _ := hAll
  have HDO : Hid _ := hdo
  have BW : ∀ u : World, Below w.heap.size w u → Below W0.heap.size W0 u := fun u hu => HB0.out.trans (hu.mono HB0.out.size)
  obtain ⟨x0, x1, x2, x3⟩ := X0.four
  obtain ⟨y0, y1, y2, y3, y4, y5⟩ := Y0.six
  clear hz hB hD hn hn2 hq hq2 hl hl2 hok hd hsm hAll hdo
  go_enter Try.func31, Try.ntmps31
  go_upto_region 1 with fail
  rw [← HZ.out]
  go_wp2_with fail
  refine (implReqOk_q 4 pl nn wa q1 q2 m1 m2 k1 k2 ws bs _ HQ.out.1 HQ.out.2.1 (HQ.out.2.2.1.below (BW _ b0)) (HQ.out.2.2.2.1.below (BW _ b0)) HQ.out.2.2.2.2.1 HQ.out.2.2.2.2.2).mono ?_
  rintro e w1 ⟨he, b'⟩
  rw [HOK.out.1] at he
  subst he
  have b1 := bel_next b0 b'
  have X1 := X0.below b'
  have Y1 := Y0.below b'
  have R1 := R0.below b'
  clear x0 x1 x2 x3 y0 y1 y2 y3 y4 y5 X0 Y0 R0 b0 b'
  obtain ⟨x0, x1, x2, x3⟩ := X1.four
  obtain ⟨y0, y1, y2, y3, y4, y5⟩ := Y1.six
  go_wp2_with fail
  refine (implDeviceOk_any a1 a2 a3 a4 l1 l2 l3 l4 c1 c2 c3 c4 cs is hs rs _ HOK.out.2.2.2 (HD0.out.below b1).sl.2 HOK.out.2.2.1 _ HOK.out.2.1).mono ?_
  rintro e w2 ⟨rfl, b'⟩
  have b2 := bel_next b1 b'
  have X2 := X1.below b'
  have Y2 := Y1.below b'
  have R2 := R1.below b'
  clear x0 x1 x2 x3 y0 y1 y2 y3 y4 y5 X1 Y1 R1 b1 b'
  obtain ⟨x0, x1, x2, x3⟩ := X2.four
  obtain ⟨y0, y1, y2, y3, y4, y5⟩ := Y2.six
  go_wp2_with fail
  refine (HA.out _ (HQ.out.2.2.1.below (BW _ b2)) (HQ.out.2.2.2.1.below (BW _ b2))).mono ?_
  rintro e w3 ⟨rfl, b'⟩
  have b3 := bel_next b2 b'
  have X3 := X2.below b'
  have Y3 := Y2.below b'
  have R3 := R2.below b'
  clear x0 x1 x2 x3 y0 y1 y2 y3 y4 y5 X2 Y2 R2 b2 b'
  obtain ⟨x0, x1, x2, x3⟩ := X3.four
  obtain ⟨y0, y1, y2, y3, y4, y5⟩ := Y3.six
  go_upto_region 7 with fail
  have d3 : Below w3.heap.size w3 w3.drew := (Below.refl _ _).drew
  have hne2 : ¬ (w.heap.size = w.heap.size + 1 + 1) := by omega
  have hne3 : ¬ (w.heap.size + 1 + 1 = w.heap.size) := by omega
  go_region_held3 (fun w' => w'.cell? ⟨w.heap.size, 0, none⟩ = some (.slice a1 l1 c1) ∧ w'.cell? ⟨w.heap.size, 1, none⟩ = some (.slice a2 l2 c2) ∧ w'.cell? ⟨w.heap.size, 2, none⟩ = some (.slice a3 l3 c3) ∧ w'.cell? ⟨w.heap.size, 3, none⟩ = some (.slice a4 l4 c4) ∧ w'.cell? ⟨w.heap.size + 1, 0, none⟩ = some (.int .i64 4) ∧ w'.cell? ⟨w.heap.size + 1, 1, none⟩ = some (.int .i64 pl) ∧ w'.cell? ⟨w.heap.size + 1, 2, none⟩ = some (.int .i64 nn) ∧ w'.cell? ⟨w.heap.size + 1, 3, none⟩ = some (.slice q1 m1 k1) ∧ w'.cell? ⟨w.heap.size + 1, 4, none⟩ = some (.slice q2 m2 k2) ∧ w'.cell? ⟨w.heap.size + 1, 5, none⟩ = some (.int .i64 wa)) (go_keep)
    (first
      | (go_at_call 65; refine (deeds_any _).mono ?_; rintro e w4 ⟨rfl, hm4, b'⟩; have B4 : Below w3.heap.size w3 w4 := (by first | exact b' | exact bel_next d3 b'); have lk4 : (Instr.lookup 87 (.map (some w3.heap.size)) (.int .i64 4) false).run Try.prog w4 = .ok (.func (.func 80) #[] #[]) w4 := mp_get 4 (.func (.func 80) #[] #[]) 3 _ _ _ _ hm4 rfl; obtain ⟨x40, x41, x42, x43⟩ := (X3.below B4).four; obtain ⟨y40, y41, y42, y43, y44, y45⟩ := (Y3.below B4).six; clear b')
      | (go_at_call 80; refine (HDO.out _ (BW _ (by first | exact bel_next b3 B4 | exact (bel_next b3 B4).drew)) (HD0.out.below (by first | exact bel_next b3 B4 | exact (bel_next b3 B4).drew))).mono ?_; rintro e w5 ⟨r1, r2, n1, n2, e1, e2, rfl, o1, o2, o3, o4, o5⟩; have D4 := HD0.out.below (bel_next b3 B4); have X5 := (X3.below B4).chg o5 (D4.noBlk (X3.below B4) (by decide) (by decide)); have Y5 := (Y3.below B4).chg o5 (D4.noBlk (Y3.below B4) (by decide) (by decide)); have R5 := (R3.below B4).chg o5 (D4.noBlk (R3.below B4) (by decide) (by decide)); obtain ⟨x50, x51, x52, x53⟩ := X5.four; obtain ⟨y50, y51, y52, y53, y54, y55⟩ := Y5.six; obtain ⟨s0, s1, s2, s3, s4, s5⟩ := R5.six; have f0 := R5.fro 0; have f1 := R5.fro 1; have f2 := R5.fro 2; have f3 := R5.fro 3; have f4 := R5.fro 4; have f5 := R5.fro 5; have sz4 : w.heap.size ≤ w4.heap.size := (bel_next b3 B4).size; have HH : Hid (OwnI w5 w.heap.size (.slice r1 n1 e1) ws' ∧ OwnB w5 w.heap.size (.slice r2 n2 e2) bs' ∧ OwnD w5 W0.heap.size a1 a2 a3 a4 l1 l2 l3 l4 c1 c2 c3 c4 cs' is' hs' rs' ∧ Below W0.heap.size W0 w5 ∧ Chg w w5 (Of4 (.slice a1 l1 c1) (.slice a2 l2 c2) (.slice a3 l3 c3) (.slice a4 l4 c4)) ∧ ExB w5 (w.heap.size + 1 + 1) 37) := ⟨OwnI.mono o1 (by exact sz4), OwnB.mono o2 (by exact sz4), o3, o4, (Chg.ofBelow (bel_next b3 B4)).trans o5, ⟨_, R5⟩⟩; have HZ0 : Hid (W0.heap.size ≤ w.heap.size) := HB0.out.size; clear o1 o2 o3 o4 o5 D4 X5 Y5 R5))
  all_goals (
    go_wp2
    refine bodyPost_ret (v := rp 4 0 pl' nn' r1 r2 n1 n2 e1 e2) (by simp [results, Try.results31, go_sem, s0, s1, s2, s3, s4, s5]) rfl ?_
    obtain ⟨o1, o2, o3, o4, o5, o6⟩ := HH.out
    exact ⟨_, _, _, _, _, _, rfl, rowp_set6 o1 o6 (by decide), rowp_set6 o2 o6 (by decide), o3.set6 o6 (by decide) (by decide), belp_set6 o4 (by have := HZ0.out; omega), o5.set6 (by omega)⟩)
end Go.Proofs.Ytfdddkjonjpgpaa
namespace Go.Proofs.Ytfdddkjonjpgpaa
open Go.RowKit
set_option linter.unusedVariables false
set_option linter.unusedSimpArgs false
set_option maxRecDepth 20000 in
set_option maxHeartbeats 8000000 in
theorem serve_5 (a1 a2 a3 a4 : Option Addr) (l1 l2 l3 l4 c1 c2 c3 c4 : Nat) (cs is : List Bool) (hs rs : List Int) (pl nn wa : Int) (q1 q2 : Option Addr) (m1 m2 k1 k2 : Nat) (ws : List Int) (bs : List Bool) (W0 w : World) (hB : Below W0.heap.size W0 w) (hD : OwnD w W0.heap.size a1 a2 a3 a4 l1 l2 l3 l4 c1 c2 c3 c4 cs is hs rs) (hn : m1 = ws.length) (hn2 : m2 = bs.length) (hq : SlI W0 q1 ws) (hq2 : SlB W0 q2 bs) (hl : ws.length ≤ 2000000) (hl2 : bs.length ≤ 2000000) (hok : okR 5 pl nn wa ws m1 m2 = true) (hd : okD l1 l2 l3 l4 hs rs = true) (hsm : SmD 2000000 cs is hs rs)
    (cs' is' : List Bool) (hs' rs' : List Int) (ws' : List Int) (bs' : List Bool) (pl' nn' : Int)
    (hAll : ∀ w : World, SlI w q1 ws → SlB w q2 bs → Calls Try.prog 64 #[dv a1 a2 a3 a4 l1 l2 l3 l4 c1 c2 c3 c4, rq 5 pl nn wa q1 q2 m1 m2 k1 k2] w fun e w' => e = .returned (.bool true) ∧ Below w.heap.size w w')
    (hdo : ∀ w : World, Below W0.heap.size W0 w → OwnD w W0.heap.size a1 a2 a3 a4 l1 l2 l3 l4 c1 c2 c3 c4 cs is hs rs → Calls Try.prog 81 #[dv a1 a2 a3 a4 l1 l2 l3 l4 c1 c2 c3 c4, rq 5 pl nn wa q1 q2 m1 m2 k1 k2] w fun e w' => SV W0 w w' e a1 a2 a3 a4 l1 l2 l3 l4 c1 c2 c3 c4 cs' is' hs' rs' 5 0 pl' nn' ws' bs') :
    Calls Try.prog 31 #[dv a1 a2 a3 a4 l1 l2 l3 l4 c1 c2 c3 c4, rq 5 pl nn wa q1 q2 m1 m2 k1 k2] w fun e w' => SV W0 w w' e a1 a2 a3 a4 l1 l2 l3 l4 c1 c2 c3 c4 cs' is' hs' rs' 5 0 pl' nn' ws' bs' := by
  obtain ⟨z, hz⟩ : ∃ z, z = ((w.alloc (.cells #[.slice a1 l1 c1, .slice a2 l2 c2, .slice a3 l3 c3, .slice a4 l4 c4] 27)).alloc (.cells #[.int .i64 5, .int .i64 pl, .int .i64 nn, .slice q1 m1 k1, .slice q2 m2 k2, .int .i64 wa] 57)).alloc (.cells #[.int .i64 0, .int .i64 0, .int .i64 0, .int .i64 0, .slice none 0 0, .slice none 0 0] 37) := ⟨_, rfl⟩
  have HZ : Hid (z = _) := hz
  have b0 : Below w.heap.size w z := by rw [hz]; exact bel_next (bel_next (bel_alloc w _) (bel_alloc _ _)) (bel_alloc _ _)
  have X0 : Blk z w.heap.size 27 #[.slice a1 l1 c1, .slice a2 l2 c2, .slice a3 l3 c3, .slice a4 l4 c4] := by rw [hz]; exact ((Blk.new w _ _).below (bel_alloc _ _)).below (bel_alloc _ _)
  have Y0 : Blk z (w.heap.size + 1) 57 #[.int .i64 5, .int .i64 pl, .int .i64 nn, .slice q1 m1 k1, .slice q2 m2 k2, .int .i64 wa] := by rw [hz]; have := (Blk.new (w.alloc (.cells #[.slice a1 l1 c1, .slice a2 l2 c2, .slice a3 l3 c3, .slice a4 l4 c4] 27)) #[.int .i64 5, .int .i64 pl, .int .i64 nn, .slice q1 m1 k1, .slice q2 m2 k2, .int .i64 wa] 57).below (bel_alloc _ (.cells #[.int .i64 0, .int .i64 0, .int .i64 0, .int .i64 0, .slice none 0 0, .slice none 0 0] 37)); simpa using this
  have R0 : Blk z (w.heap.size + 1 + 1) 37 #[.int .i64 0, .int .i64 0, .int .i64 0, .int .i64 0, .slice none 0 0, .slice none 0 0] := by rw [hz]; have := Blk.new ((w.alloc (.cells #[.slice a1 l1 c1, .slice a2 l2 c2, .slice a3 l3 c3, .slice a4 l4 c4] 27)).alloc (.cells #[.int .i64 5, .int .i64 pl, .int .i64 nn, .slice q1 m1 k1, .slice q2 m2 k2, .int .i64 wa] 57)) #[.int .i64 0, .int .i64 0, .int .i64 0, .int .i64 0, .slice none 0 0, .slice none 0 0] 37; simpa using this
  have HB0 : Hid (Below W0.heap.size W0 w) := hB
  have HD0 : Hid (OwnD w W0.heap.size a1 a2 a3 a4 l1 l2 l3 l4 c1 c2 c3 c4 cs is hs rs) := hD
  have HQ : Hid (m1 = ws.length ∧ m2 = bs.length ∧ SlI W0 q1 ws ∧ SlB W0 q2 bs ∧ ws.length ≤ 2000000 ∧ bs.length ≤ 2000000) := ⟨hn, hn2, hq, hq2, hl, hl2⟩
  have HOK : Hid (okR 5 pl nn wa ws m1 m2 = true ∧ okD l1 l2 l3 l4 hs rs = true ∧ SmD 2000000 cs is hs rs ∧ LnD l1 l2 l3 l4 cs is hs rs) := ⟨hok, hd, hsm, hD.sl.1⟩
  have HA : Hid _ := hAll
  have HDO : Hid _ := hdo
  have BW : ∀ u : World, Below w.heap.size w u → Below W0.heap.size W0 u := fun u hu => HB0.out.trans (hu.mono HB0.out.size)
  obtain ⟨x0, x1, x2, x3⟩ := X0.four
  obtain ⟨y0, y1, y2, y3, y4, y5⟩ := Y0.six
  clear hz hB hD hn hn2 hq hq2 hl hl2 hok hd hsm hAll hdo
  go_enter Try.func31, Try.ntmps31
  go_upto_region 1 with fail
  rw [← HZ.out]
  go_wp2_with fail
  refine (implReqOk_q 5 pl nn wa q1 q2 m1 m2 k1 k2 ws bs _ HQ.out.1 HQ.out.2.1 (HQ.out.2.2.1.below (BW _ b0)) (HQ.out.2.2.2.1.below (BW _ b0)) HQ.out.2.2.2.2.1 HQ.out.2.2.2.2.2).mono ?_
  rintro e w1 ⟨he, b'⟩
  rw [HOK.out.1] at he
  subst he
  have b1 := bel_next b0 b'
  have X1 := X0.below b'
  have Y1 := Y0.below b'
  have R1 := R0.below b'
  clear x0 x1 x2 x3 y0 y1 y2 y3 y4 y5 X0 Y0 R0 b0 b'
  obtain ⟨x0, x1, x2, x3⟩ := X1.four
  obtain ⟨y0, y1, y2, y3, y4, y5⟩ := Y1.six
  go_wp2_with fail
  refine (implDeviceOk_any a1 a2 a3 a4 l1 l2 l3 l4 c1 c2 c3 c4 cs is hs rs _ HOK.out.2.2.2 (HD0.out.below b1).sl.2 HOK.out.2.2.1 _ HOK.out.2.1).mono ?_
  rintro e w2 ⟨rfl, b'⟩
  have b2 := bel_next b1 b'
  have X2 := X1.below b'
  have Y2 := Y1.below b'
  have R2 := R1.below b'
  clear x0 x1 x2 x3 y0 y1 y2 y3 y4 y5 X1 Y1 R1 b1 b'
  obtain ⟨x0, x1, x2, x3⟩ := X2.four
  obtain ⟨y0, y1, y2, y3, y4, y5⟩ := Y2.six
  go_wp2_with fail
  refine (HA.out _ (HQ.out.2.2.1.below (BW _ b2)) (HQ.out.2.2.2.1.below (BW _ b2))).mono ?_
  rintro e w3 ⟨rfl, b'⟩
  have b3 := bel_next b2 b'
  have X3 := X2.below b'
  have Y3 := Y2.below b'
  have R3 := R2.below b'
  clear x0 x1 x2 x3 y0 y1 y2 y3 y4 y5 X2 Y2 R2 b2 b'
  obtain ⟨x0, x1, x2, x3⟩ := X3.four
  obtain ⟨y0, y1, y2, y3, y4, y5⟩ := Y3.six
  go_upto_region 7 with fail
  have d3 : Below w3.heap.size w3 w3.drew := (Below.refl _ _).drew
  have hne2 : ¬ (w.heap.size = w.heap.size + 1 + 1) := by omega
  have hne3 : ¬ (w.heap.size + 1 + 1 = w.heap.size) := by omega
  go_region_held3 (fun w' => w'.cell? ⟨w.heap.size, 0, none⟩ = some (.slice a1 l1 c1) ∧ w'.cell? ⟨w.heap.size, 1, none⟩ = some (.slice a2 l2 c2) ∧ w'.cell? ⟨w.heap.size, 2, none⟩ = some (.slice a3 l3 c3) ∧ w'.cell? ⟨w.heap.size, 3, none⟩ = some (.slice a4 l4 c4) ∧ w'.cell? ⟨w.heap.size + 1, 0, none⟩ = some (.int .i64 5) ∧ w'.cell? ⟨w.heap.size + 1, 1, none⟩ = some (.int .i64 pl) ∧ w'.cell? ⟨w.heap.size + 1, 2, none⟩ = some (.int .i64 nn) ∧ w'.cell? ⟨w.heap.size + 1, 3, none⟩ = some (.slice q1 m1 k1) ∧ w'.cell? ⟨w.heap.size + 1, 4, none⟩ = some (.slice q2 m2 k2) ∧ w'.cell? ⟨w.heap.size + 1, 5, none⟩ = some (.int .i64 wa)) (go_keep)
    (first
      | (go_at_call 65; refine (deeds_any _).mono ?_; rintro e w4 ⟨rfl, hm4, b'⟩; have B4 : Below w3.heap.size w3 w4 := (by first | exact b' | exact bel_next d3 b'); have lk4 : (Instr.lookup 87 (.map (some w3.heap.size)) (.int .i64 5) false).run Try.prog w4 = .ok (.func (.func 81) #[] #[]) w4 := mp_get 5 (.func (.func 81) #[] #[]) 4 _ _ _ _ hm4 rfl; obtain ⟨x40, x41, x42, x43⟩ := (X3.below B4).four; obtain ⟨y40, y41, y42, y43, y44, y45⟩ := (Y3.below B4).six; clear b')
      | (go_at_call 81; refine (HDO.out _ (BW _ (by first | exact bel_next b3 B4 | exact (bel_next b3 B4).drew)) (HD0.out.below (by first | exact bel_next b3 B4 | exact (bel_next b3 B4).drew))).mono ?_; rintro e w5 ⟨r1, r2, n1, n2, e1, e2, rfl, o1, o2, o3, o4, o5⟩; have D4 := HD0.out.below (bel_next b3 B4); have X5 := (X3.below B4).chg o5 (D4.noBlk (X3.below B4) (by decide) (by decide)); have Y5 := (Y3.below B4).chg o5 (D4.noBlk (Y3.below B4) (by decide) (by decide)); have R5 := (R3.below B4).chg o5 (D4.noBlk (R3.below B4) (by decide) (by decide)); obtain ⟨x50, x51, x52, x53⟩ := X5.four; obtain ⟨y50, y51, y52, y53, y54, y55⟩ := Y5.six; obtain ⟨s0, s1, s2, s3, s4, s5⟩ := R5.six; have f0 := R5.fro 0; have f1 := R5.fro 1; have f2 := R5.fro 2; have f3 := R5.fro 3; have f4 := R5.fro 4; have f5 := R5.fro 5; have sz4 : w.heap.size ≤ w4.heap.size := (bel_next b3 B4).size; have HH : Hid (OwnI w5 w.heap.size (.slice r1 n1 e1) ws' ∧ OwnB w5 w.heap.size (.slice r2 n2 e2) bs' ∧ OwnD w5 W0.heap.size a1 a2 a3 a4 l1 l2 l3 l4 c1 c2 c3 c4 cs' is' hs' rs' ∧ Below W0.heap.size W0 w5 ∧ Chg w w5 (Of4 (.slice a1 l1 c1) (.slice a2 l2 c2) (.slice a3 l3 c3) (.slice a4 l4 c4)) ∧ ExB w5 (w.heap.size + 1 + 1) 37) := ⟨OwnI.mono o1 (by exact sz4), OwnB.mono o2 (by exact sz4), o3, o4, (Chg.ofBelow (bel_next b3 B4)).trans o5, ⟨_, R5⟩⟩; have HZ0 : Hid (W0.heap.size ≤ w.heap.size) := HB0.out.size; clear o1 o2 o3 o4 o5 D4 X5 Y5 R5))
  all_goals (
    go_wp2
    refine bodyPost_ret (v := rp 5 0 pl' nn' r1 r2 n1 n2 e1 e2) (by simp [results, Try.results31, go_sem, s0, s1, s2, s3, s4, s5]) rfl ?_
    obtain ⟨o1, o2, o3, o4, o5, o6⟩ := HH.out
    exact ⟨_, _, _, _, _, _, rfl, rowp_set6 o1 o6 (by decide), rowp_set6 o2 o6 (by decide), o3.set6 o6 (by decide) (by decide), belp_set6 o4 (by have := HZ0.out; omega), o5.set6 (by omega)⟩)
set_option maxRecDepth 20000 in
set_option maxHeartbeats 8000000 in
theorem serve_15 (a1 a2 a3 a4 : Option Addr) (l1 l2 l3 l4 c1 c2 c3 c4 : Nat) (cs is : List Bool) (hs rs : List Int) (pl nn wa : Int) (q1 q2 : Option Addr) (m1 m2 k1 k2 : Nat) (ws : List Int) (bs : List Bool) (W0 w : World) (hB : Below W0.heap.size W0 w) (hD : OwnD w W0.heap.size a1 a2 a3 a4 l1 l2 l3 l4 c1 c2 c3 c4 cs is hs rs) (hn : m1 = ws.length) (hn2 : m2 = bs.length) (hq : SlI W0 q1 ws) (hq2 : SlB W0 q2 bs) (hl : ws.length ≤ 2000000) (hl2 : bs.length ≤ 2000000) (hok : okR 15 pl nn wa ws m1 m2 = true) (hd : okD l1 l2 l3 l4 hs rs = true) (hsm : SmD 2000000 cs is hs rs)
    (cs' is' : List Bool) (hs' rs' : List Int) (ws' : List Int) (bs' : List Bool) (pl' nn' : Int)
    (hAll : ∀ w : World, SlI w q1 ws → SlB w q2 bs → Calls Try.prog 64 #[dv a1 a2 a3 a4 l1 l2 l3 l4 c1 c2 c3 c4, rq 15 pl nn wa q1 q2 m1 m2 k1 k2] w fun e w' => e = .returned (.bool true) ∧ Below w.heap.size w w')
    (hdo : ∀ w : World, Below W0.heap.size W0 w → OwnD w W0.heap.size a1 a2 a3 a4 l1 l2 l3 l4 c1 c2 c3 c4 cs is hs rs → Calls Try.prog 83 #[dv a1 a2 a3 a4 l1 l2 l3 l4 c1 c2 c3 c4, rq 15 pl nn wa q1 q2 m1 m2 k1 k2] w fun e w' => SV W0 w w' e a1 a2 a3 a4 l1 l2 l3 l4 c1 c2 c3 c4 cs' is' hs' rs' 15 0 pl' nn' ws' bs') :
    Calls Try.prog 31 #[dv a1 a2 a3 a4 l1 l2 l3 l4 c1 c2 c3 c4, rq 15 pl nn wa q1 q2 m1 m2 k1 k2] w fun e w' => SV W0 w w' e a1 a2 a3 a4 l1 l2 l3 l4 c1 c2 c3 c4 cs' is' hs' rs' 15 0 pl' nn' ws' bs' := by
  obtain ⟨z, hz⟩ : ∃ z, z = ((w.alloc (.cells #[.slice a1 l1 c1, .slice a2 l2 c2, .slice a3 l3 c3, .slice a4 l4 c4] 27)).alloc (.cells #[.int .i64 15, .int .i64 pl, .int .i64 nn, .slice q1 m1 k1, .slice q2 m2 k2, .int .i64 wa] 57)).alloc (.cells #[.int .i64 0, .int .i64 0, .int .i64 0, .int .i64 0, .slice none 0 0, .slice none 0 0] 37) := ⟨_, rfl⟩
  have HZ : Hid (z = _) := hz
  have b0 : Below w.heap.size w z := by rw [hz]; exact bel_next (bel_next (bel_alloc w _) (bel_alloc _ _)) (bel_alloc _ _)
  have X0 : Blk z w.heap.size 27 #[.slice a1 l1 c1, .slice a2 l2 c2, .slice a3 l3 c3, .slice a4 l4 c4] := by rw [hz]; exact ((Blk.new w _ _).below (bel_alloc _ _)).below (bel_alloc _ _)
  have Y0 : Blk z (w.heap.size + 1) 57 #[.int .i64 15, .int .i64 pl, .int .i64 nn, .slice q1 m1 k1, .slice q2 m2 k2, .int .i64 wa] := by rw [hz]; have := (Blk.new (w.alloc (.cells #[.slice a1 l1 c1, .slice a2 l2 c2, .slice a3 l3 c3, .slice a4 l4 c4] 27)) #[.int .i64 15, .int .i64 pl, .int .i64 nn, .slice q1 m1 k1, .slice q2 m2 k2, .int .i64 wa] 57).below (bel_alloc _ (.cells #[.int .i64 0, .int .i64 0, .int .i64 0, .int .i64 0, .slice none 0 0, .slice none 0 0] 37)); simpa using this
  have R0 : Blk z (w.heap.size + 1 + 1) 37 #[.int .i64 0, .int .i64 0, .int .i64 0, .int .i64 0, .slice none 0 0, .slice none 0 0] := by rw [hz]; have := Blk.new ((w.alloc (.cells #[.slice a1 l1 c1, .slice a2 l2 c2, .slice a3 l3 c3, .slice a4 l4 c4] 27)).alloc (.cells #[.int .i64 15, .int .i64 pl, .int .i64 nn, .slice q1 m1 k1, .slice q2 m2 k2, .int .i64 wa] 57)) #[.int .i64 0, .int .i64 0, .int .i64 0, .int .i64 0, .slice none 0 0, .slice none 0 0] 37; simpa using this
  have HB0 : Hid (Below W0.heap.size W0 w) := hB
  have HD0 : Hid (OwnD w W0.heap.size a1 a2 a3 a4 l1 l2 l3 l4 c1 c2 c3 c4 cs is hs rs) := hD
  have HQ : Hid (m1 = ws.length ∧ m2 = bs.length ∧ SlI W0 q1 ws ∧ SlB W0 q2 bs ∧ ws.length ≤ 2000000 ∧ bs.length ≤ 2000000) := ⟨hn, hn2, hq, hq2, hl, hl2⟩
  have HOK : Hid (okR 15 pl nn wa ws m1 m2 = true ∧ okD l1 l2 l3 l4 hs rs = true ∧ SmD 2000000 cs is hs rs ∧ LnD l1 l2 l3 l4 cs is hs rs) := ⟨hok, hd, hsm, hD.sl.1⟩
  have HA : Hid _ := hAll
  have HDO : Hid _ := hdo
  have BW : ∀ u : World, Below w.heap.size w u → Below W0.heap.size W0 u := fun u hu => HB0.out.trans (hu.mono HB0.out.size)
  obtain ⟨x0, x1, x2, x3⟩ := X0.four
  obtain ⟨y0, y1, y2, y3, y4, y5⟩ := Y0.six
  clear hz hB hD hn hn2 hq hq2 hl hl2 hok hd hsm hAll hdo
  go_enter Try.func31, Try.ntmps31
  go_upto_region 1 with fail
  rw [← HZ.out]
  go_wp2_with fail
  refine (implReqOk_q 15 pl nn wa q1 q2 m1 m2 k1 k2 ws bs _ HQ.out.1 HQ.out.2.1 (HQ.out.2.2.1.below (BW _ b0)) (HQ.out.2.2.2.1.below (BW _ b0)) HQ.out.2.2.2.2.1 HQ.out.2.2.2.2.2).mono ?_
  rintro e w1 ⟨he, b'⟩
  rw [HOK.out.1] at he
  subst he
  have b1 := bel_next b0 b'
  have X1 := X0.below b'
  have Y1 := Y0.below b'
  have R1 := R0.below b'
  clear x0 x1 x2 x3 y0 y1 y2 y3 y4 y5 X0 Y0 R0 b0 b'
  obtain ⟨x0, x1, x2, x3⟩ := X1.four
  obtain ⟨y0, y1, y2, y3, y4, y5⟩ := Y1.six
  go_wp2_with fail
  refine (implDeviceOk_any a1 a2 a3 a4 l1 l2 l3 l4 c1 c2 c3 c4 cs is hs rs _ HOK.out.2.2.2 (HD0.out.below b1).sl.2 HOK.out.2.2.1 _ HOK.out.2.1).mono ?_
  rintro e w2 ⟨rfl, b'⟩
  have b2 := bel_next b1 b'
  have X2 := X1.below b'
  have Y2 := Y1.below b'
  have R2 := R1.below b'
  clear x0 x1 x2 x3 y0 y1 y2 y3 y4 y5 X1 Y1 R1 b1 b'
  obtain ⟨x0, x1, x2, x3⟩ := X2.four
  obtain ⟨y0, y1, y2, y3, y4, y5⟩ := Y2.six
  go_wp2_with fail
  refine (HA.out _ (HQ.out.2.2.1.below (BW _ b2)) (HQ.out.2.2.2.1.below (BW _ b2))).mono ?_
  rintro e w3 ⟨rfl, b'⟩
  have b3 := bel_next b2 b'
  have X3 := X2.below b'
  have Y3 := Y2.below b'
  have R3 := R2.below b'
  clear x0 x1 x2 x3 y0 y1 y2 y3 y4 y5 X2 Y2 R2 b2 b'
  obtain ⟨x0, x1, x2, x3⟩ := X3.four
  obtain ⟨y0, y1, y2, y3, y4, y5⟩ := Y3.six
  go_upto_region 7 with fail
  have d3 : Below w3.heap.size w3 w3.drew := (Below.refl _ _).drew
  have hne2 : ¬ (w.heap.size = w.heap.size + 1 + 1) := by omega
  have hne3 : ¬ (w.heap.size + 1 + 1 = w.heap.size) := by omega
  go_region_held3 (fun w' => w'.cell? ⟨w.heap.size, 0, none⟩ = some (.slice a1 l1 c1) ∧ w'.cell? ⟨w.heap.size, 1, none⟩ = some (.slice a2 l2 c2) ∧ w'.cell? ⟨w.heap.size, 2, none⟩ = some (.slice a3 l3 c3) ∧ w'.cell? ⟨w.heap.size, 3, none⟩ = some (.slice a4 l4 c4) ∧ w'.cell? ⟨w.heap.size + 1, 0, none⟩ = some (.int .i64 15) ∧ w'.cell? ⟨w.heap.size + 1, 1, none⟩ = some (.int .i64 pl) ∧ w'.cell? ⟨w.heap.size + 1, 2, none⟩ = some (.int .i64 nn) ∧ w'.cell? ⟨w.heap.size + 1, 3, none⟩ = some (.slice q1 m1 k1) ∧ w'.cell? ⟨w.heap.size + 1, 4, none⟩ = some (.slice q2 m2 k2) ∧ w'.cell? ⟨w.heap.size + 1, 5, none⟩ = some (.int .i64 wa)) (go_keep)
    (first
      | (go_at_call 65; refine (deeds_any _).mono ?_; rintro e w4 ⟨rfl, hm4, b'⟩; have B4 : Below w3.heap.size w3 w4 := (by first | exact b' | exact bel_next d3 b'); have lk4 : (Instr.lookup 87 (.map (some w3.heap.size)) (.int .i64 15) false).run Try.prog w4 = .ok (.func (.func 83) #[] #[]) w4 := mp_get 15 (.func (.func 83) #[] #[]) 6 _ _ _ _ hm4 rfl; obtain ⟨x40, x41, x42, x43⟩ := (X3.below B4).four; obtain ⟨y40, y41, y42, y43, y44, y45⟩ := (Y3.below B4).six; clear b')
      | (go_at_call 83; refine (HDO.out _ (BW _ (by first | exact bel_next b3 B4 | exact (bel_next b3 B4).drew)) (HD0.out.below (by first | exact bel_next b3 B4 | exact (bel_next b3 B4).drew))).mono ?_; rintro e w5 ⟨r1, r2, n1, n2, e1, e2, rfl, o1, o2, o3, o4, o5⟩; have D4 := HD0.out.below (bel_next b3 B4); have X5 := (X3.below B4).chg o5 (D4.noBlk (X3.below B4) (by decide) (by decide)); have Y5 := (Y3.below B4).chg o5 (D4.noBlk (Y3.below B4) (by decide) (by decide)); have R5 := (R3.below B4).chg o5 (D4.noBlk (R3.below B4) (by decide) (by decide)); obtain ⟨x50, x51, x52, x53⟩ := X5.four; obtain ⟨y50, y51, y52, y53, y54, y55⟩ := Y5.six; obtain ⟨s0, s1, s2, s3, s4, s5⟩ := R5.six; have f0 := R5.fro 0; have f1 := R5.fro 1; have f2 := R5.fro 2; have f3 := R5.fro 3; have f4 := R5.fro 4; have f5 := R5.fro 5; have sz4 : w.heap.size ≤ w4.heap.size := (bel_next b3 B4).size; have HH : Hid (OwnI w5 w.heap.size (.slice r1 n1 e1) ws' ∧ OwnB w5 w.heap.size (.slice r2 n2 e2) bs' ∧ OwnD w5 W0.heap.size a1 a2 a3 a4 l1 l2 l3 l4 c1 c2 c3 c4 cs' is' hs' rs' ∧ Below W0.heap.size W0 w5 ∧ Chg w w5 (Of4 (.slice a1 l1 c1) (.slice a2 l2 c2) (.slice a3 l3 c3) (.slice a4 l4 c4)) ∧ ExB w5 (w.heap.size + 1 + 1) 37) := ⟨OwnI.mono o1 (by exact sz4), OwnB.mono o2 (by exact sz4), o3, o4, (Chg.ofBelow (bel_next b3 B4)).trans o5, ⟨_, R5⟩⟩; have HZ0 : Hid (W0.heap.size ≤ w.heap.size) := HB0.out.size; clear o1 o2 o3 o4 o5 D4 X5 Y5 R5))
  all_goals (
    go_wp2
    refine bodyPost_ret (v := rp 15 0 pl' nn' r1 r2 n1 n2 e1 e2) (by simp [results, Try.results31, go_sem, s0, s1, s2, s3, s4, s5]) rfl ?_
    obtain ⟨o1, o2, o3, o4, o5, o6⟩ := HH.out
    exact ⟨_, _, _, _, _, _, rfl, rowp_set6 o1 o6 (by decide), rowp_set6 o2 o6 (by decide), o3.set6 o6 (by decide) (by decide), belp_set6 o4 (by have := HZ0.out; omega), o5.set6 (by omega)⟩)
set_option maxRecDepth 20000 in
set_option maxHeartbeats 8000000 in
theorem serve_16 (a1 a2 a3 a4 : Option Addr) (l1 l2 l3 l4 c1 c2 c3 c4 : Nat) (cs is : List Bool) (hs rs : List Int) (pl nn wa : Int) (q1 q2 : Option Addr) (m1 m2 k1 k2 : Nat) (ws : List Int) (bs : List Bool) (W0 w : World) (hB : Below W0.heap.size W0 w) (hD : OwnD w W0.heap.size a1 a2 a3 a4 l1 l2 l3 l4 c1 c2 c3 c4 cs is hs rs) (hn : m1 = ws.length) (hn2 : m2 = bs.length) (hq : SlI W0 q1 ws) (hq2 : SlB W0 q2 bs) (hl : ws.length ≤ 2000000) (hl2 : bs.length ≤ 2000000) (hok : okR 16 pl nn wa ws m1 m2 = true) (hd : okD l1 l2 l3 l4 hs rs = true) (hsm : SmD 2000000 cs is hs rs)
    (cs' is' : List Bool) (hs' rs' : List Int) (ws' : List Int) (bs' : List Bool) (pl' nn' : Int)
    (hAll : ∀ w : World, SlI w q1 ws → SlB w q2 bs → Calls Try.prog 64 #[dv a1 a2 a3 a4 l1 l2 l3 l4 c1 c2 c3 c4, rq 16 pl nn wa q1 q2 m1 m2 k1 k2] w fun e w' => e = .returned (.bool true) ∧ Below w.heap.size w w')
    (hdo : ∀ w : World, Below W0.heap.size W0 w → OwnD w W0.heap.size a1 a2 a3 a4 l1 l2 l3 l4 c1 c2 c3 c4 cs is hs rs → Calls Try.prog 84 #[dv a1 a2 a3 a4 l1 l2 l3 l4 c1 c2 c3 c4, rq 16 pl nn wa q1 q2 m1 m2 k1 k2] w fun e w' => SV W0 w w' e a1 a2 a3 a4 l1 l2 l3 l4 c1 c2 c3 c4 cs' is' hs' rs' 16 0 pl' nn' ws' bs') :
    Calls Try.prog 31 #[dv a1 a2 a3 a4 l1 l2 l3 l4 c1 c2 c3 c4, rq 16 pl nn wa q1 q2 m1 m2 k1 k2] w fun e w' => SV W0 w w' e a1 a2 a3 a4 l1 l2 l3 l4 c1 c2 c3 c4 cs' is' hs' rs' 16 0 pl' nn' ws' bs' := by
  obtain ⟨z, hz⟩ : ∃ z, z = ((w.alloc (.cells #[.slice a1 l1 c1, .slice a2 l2 c2, .slice a3 l3 c3, .slice a4 l4 c4] 27)).alloc (.cells #[.int .i64 16, .int .i64 pl, .int .i64 nn, .slice q1 m1 k1, .slice q2 m2 k2, .int .i64 wa] 57)).alloc (.cells #[.int .i64 0, .int .i64 0, .int .i64 0, .int .i64 0, .slice none 0 0, .slice none 0 0] 37) := ⟨_, rfl⟩
  have HZ : Hid (z = _) := hz
  have b0 : Below w.heap.size w z := by rw [hz]; exact bel_next (bel_next (bel_alloc w _) (bel_alloc _ _)) (bel_alloc _ _)
  have X0 : Blk z w.heap.size 27 #[.slice a1 l1 c1, .slice a2 l2 c2, .slice a3 l3 c3, .slice a4 l4 c4] := by rw [hz]; exact ((Blk.new w _ _).below (bel_alloc _ _)).below (bel_alloc _ _)
  have Y0 : Blk z (w.heap.size + 1) 57 #[.int .i64 16, .int .i64 pl, .int .i64 nn, .slice q1 m1 k1, .slice q2 m2 k2, .int .i64 wa] := by rw [hz]; have := (Blk.new (w.alloc (.cells #[.slice a1 l1 c1, .slice a2 l2 c2, .slice a3 l3 c3, .slice a4 l4 c4] 27)) #[.int .i64 16, .int .i64 pl, .int .i64 nn, .slice q1 m1 k1, .slice q2 m2 k2, .int .i64 wa] 57).below (bel_alloc _ (.cells #[.int .i64 0, .int .i64 0, .int .i64 0, .int .i64 0, .slice none 0 0, .slice none 0 0] 37)); simpa using this
  have R0 : Blk z (w.heap.size + 1 + 1) 37 #[.int .i64 0, .int .i64 0, .int .i64 0, .int .i64 0, .slice none 0 0, .slice none 0 0] := by rw [hz]; have := Blk.new ((w.alloc (.cells #[.slice a1 l1 c1, .slice a2 l2 c2, .slice a3 l3 c3, .slice a4 l4 c4] 27)).alloc (.cells #[.int .i64 16, .int .i64 pl, .int .i64 nn, .slice q1 m1 k1, .slice q2 m2 k2, .int .i64 wa] 57)) #[.int .i64 0, .int .i64 0, .int .i64 0, .int .i64 0, .slice none 0 0, .slice none 0 0] 37; simpa using this
  have HB0 : Hid (Below W0.heap.size W0 w) := hB
  have HD0 : Hid (OwnD w W0.heap.size a1 a2 a3 a4 l1 l2 l3 l4 c1 c2 c3 c4 cs is hs rs) := hD
  have HQ : Hid (m1 = ws.length ∧ m2 = bs.length ∧ SlI W0 q1 ws ∧ SlB W0 q2 bs ∧ ws.length ≤ 2000000 ∧ bs.length ≤ 2000000) := ⟨hn, hn2, hq, hq2, hl, hl2⟩
  have HOK : Hid (okR 16 pl nn wa ws m1 m2 = true ∧ okD l1 l2 l3 l4 hs rs = true ∧ SmD 2000000 cs is hs rs ∧ LnD l1 l2 l3 l4 cs is hs rs) := ⟨hok, hd, hsm, hD.sl.1⟩
  have HA : Hid _ := hAll
  have HDO : Hid _ := hdo
  have BW : ∀ u : World, Below w.heap.size w u → Below W0.heap.size W0 u := fun u hu => HB0.out.trans (hu.mono HB0.out.size)
  obtain ⟨x0, x1, x2, x3⟩ := X0.four
  obtain ⟨y0, y1, y2, y3, y4, y5⟩ := Y0.six
  clear hz hB hD hn hn2 hq hq2 hl hl2 hok hd hsm hAll hdo
  go_enter Try.func31, Try.ntmps31
  go_upto_region 1 with fail
  rw [← HZ.out]
  go_wp2_with fail
  refine (implReqOk_q 16 pl nn wa q1 q2 m1 m2 k1 k2 ws bs _ HQ.out.1 HQ.out.2.1 (HQ.out.2.2.1.below (BW _ b0)) (HQ.out.2.2.2.1.below (BW _ b0)) HQ.out.2.2.2.2.1 HQ.out.2.2.2.2.2).mono ?_
  rintro e w1 ⟨he, b'⟩
  rw [HOK.out.1] at he
  subst he
  have b1 := bel_next b0 b'
  have X1 := X0.below b'
  have Y1 := Y0.below b'
  have R1 := R0.below b'
  clear x0 x1 x2 x3 y0 y1 y2 y3 y4 y5 X0 Y0 R0 b0 b'
  obtain ⟨x0, x1, x2, x3⟩ := X1.four
  obtain ⟨y0, y1, y2, y3, y4, y5⟩ := Y1.six
  go_wp2_with fail
  refine (implDeviceOk_any a1 a2 a3 a4 l1 l2 l3 l4 c1 c2 c3 c4 cs is hs rs _ HOK.out.2.2.2 (HD0.out.below b1).sl.2 HOK.out.2.2.1 _ HOK.out.2.1).mono ?_
  rintro e w2 ⟨rfl, b'⟩
  have b2 := bel_next b1 b'
  have X2 := X1.below b'
  have Y2 := Y1.below b'
  have R2 := R1.below b'
  clear x0 x1 x2 x3 y0 y1 y2 y3 y4 y5 X1 Y1 R1 b1 b'
  obtain ⟨x0, x1, x2, x3⟩ := X2.four
  obtain ⟨y0, y1, y2, y3, y4, y5⟩ := Y2.six
  go_wp2_with fail
  refine (HA.out _ (HQ.out.2.2.1.below (BW _ b2)) (HQ.out.2.2.2.1.below (BW _ b2))).mono ?_
  rintro e w3 ⟨rfl, b'⟩
  have b3 := bel_next b2 b'
  have X3 := X2.below b'
  have Y3 := Y2.below b'
  have R3 := R2.below b'
  clear x0 x1 x2 x3 y0 y1 y2 y3 y4 y5 X2 Y2 R2 b2 b'
  obtain ⟨x0, x1, x2, x3⟩ := X3.four
  obtain ⟨y0, y1, y2, y3, y4, y5⟩ := Y3.six
  go_upto_region 7 with fail
  have d3 : Below w3.heap.size w3 w3.drew := (Below.refl _ _).drew
  have hne2 : ¬ (w.heap.size = w.heap.size + 1 + 1) := by omega
  have hne3 : ¬ (w.heap.size + 1 + 1 = w.heap.size) := by omega
  go_region_held3 (fun w' => w'.cell? ⟨w.heap.size, 0, none⟩ = some (.slice a1 l1 c1) ∧ w'.cell? ⟨w.heap.size, 1, none⟩ = some (.slice a2 l2 c2) ∧ w'.cell? ⟨w.heap.size, 2, none⟩ = some (.slice a3 l3 c3) ∧ w'.cell? ⟨w.heap.size, 3, none⟩ = some (.slice a4 l4 c4) ∧ w'.cell? ⟨w.heap.size + 1, 0, none⟩ = some (.int .i64 16) ∧ w'.cell? ⟨w.heap.size + 1, 1, none⟩ = some (.int .i64 pl) ∧ w'.cell? ⟨w.heap.size + 1, 2, none⟩ = some (.int .i64 nn) ∧ w'.cell? ⟨w.heap.size + 1, 3, none⟩ = some (.slice q1 m1 k1) ∧ w'.cell? ⟨w.heap.size + 1, 4, none⟩ = some (.slice q2 m2 k2) ∧ w'.cell? ⟨w.heap.size + 1, 5, none⟩ = some (.int .i64 wa)) (go_keep)
    (first
      | (go_at_call 65; refine (deeds_any _).mono ?_; rintro e w4 ⟨rfl, hm4, b'⟩; have B4 : Below w3.heap.size w3 w4 := (by first | exact b' | exact bel_next d3 b'); have lk4 : (Instr.lookup 87 (.map (some w3.heap.size)) (.int .i64 16) false).run Try.prog w4 = .ok (.func (.func 84) #[] #[]) w4 := mp_get 16 (.func (.func 84) #[] #[]) 7 _ _ _ _ hm4 rfl; obtain ⟨x40, x41, x42, x43⟩ := (X3.below B4).four; obtain ⟨y40, y41, y42, y43, y44, y45⟩ := (Y3.below B4).six; clear b')
      | (go_at_call 84; refine (HDO.out _ (BW _ (by first | exact bel_next b3 B4 | exact (bel_next b3 B4).drew)) (HD0.out.below (by first | exact bel_next b3 B4 | exact (bel_next b3 B4).drew))).mono ?_; rintro e w5 ⟨r1, r2, n1, n2, e1, e2, rfl, o1, o2, o3, o4, o5⟩; have D4 := HD0.out.below (bel_next b3 B4); have X5 := (X3.below B4).chg o5 (D4.noBlk (X3.below B4) (by decide) (by decide)); have Y5 := (Y3.below B4).chg o5 (D4.noBlk (Y3.below B4) (by decide) (by decide)); have R5 := (R3.below B4).chg o5 (D4.noBlk (R3.below B4) (by decide) (by decide)); obtain ⟨x50, x51, x52, x53⟩ := X5.four; obtain ⟨y50, y51, y52, y53, y54, y55⟩ := Y5.six; obtain ⟨s0, s1, s2, s3, s4, s5⟩ := R5.six; have f0 := R5.fro 0; have f1 := R5.fro 1; have f2 := R5.fro 2; have f3 := R5.fro 3; have f4 := R5.fro 4; have f5 := R5.fro 5; have sz4 : w.heap.size ≤ w4.heap.size := (bel_next b3 B4).size; have HH : Hid (OwnI w5 w.heap.size (.slice r1 n1 e1) ws' ∧ OwnB w5 w.heap.size (.slice r2 n2 e2) bs' ∧ OwnD w5 W0.heap.size a1 a2 a3 a4 l1 l2 l3 l4 c1 c2 c3 c4 cs' is' hs' rs' ∧ Below W0.heap.size W0 w5 ∧ Chg w w5 (Of4 (.slice a1 l1 c1) (.slice a2 l2 c2) (.slice a3 l3 c3) (.slice a4 l4 c4)) ∧ ExB w5 (w.heap.size + 1 + 1) 37) := ⟨OwnI.mono o1 (by exact sz4), OwnB.mono o2 (by exact sz4), o3, o4, (Chg.ofBelow (bel_next b3 B4)).trans o5, ⟨_, R5⟩⟩; have HZ0 : Hid (W0.heap.size ≤ w.heap.size) := HB0.out.size; clear o1 o2 o3 o4 o5 D4 X5 Y5 R5))
  all_goals (
    go_wp2
    refine bodyPost_ret (v := rp 16 0 pl' nn' r1 r2 n1 n2 e1 e2) (by simp [results, Try.results31, go_sem, s0, s1, s2, s3, s4, s5]) rfl ?_
    obtain ⟨o1, o2, o3, o4, o5, o6⟩ := HH.out
    exact ⟨_, _, _, _, _, _, rfl, rowp_set6 o1 o6 (by decide), rowp_set6 o2 o6 (by decide), o3.set6 o6 (by decide) (by decide), belp_set6 o4 (by have := HZ0.out; omega), o5.set6 (by omega)⟩)
set_option maxRecDepth 20000 in
set_option maxHeartbeats 8000000 in
theorem serve_23 (a1 a2 a3 a4 : Option Addr) (l1 l2 l3 l4 c1 c2 c3 c4 : Nat) (cs is : List Bool) (hs rs : List Int) (pl nn wa : Int) (q1 q2 : Option Addr) (m1 m2 k1 k2 : Nat) (ws : List Int) (bs : List Bool) (W0 w : World) (hB : Below W0.heap.size W0 w) (hD : OwnD w W0.heap.size a1 a2 a3 a4 l1 l2 l3 l4 c1 c2 c3 c4 cs is hs rs) (hn : m1 = ws.length) (hn2 : m2 = bs.length) (hq : SlI W0 q1 ws) (hq2 : SlB W0 q2 bs) (hl : ws.length ≤ 2000000) (hl2 : bs.length ≤ 2000000) (hok : okR 23 pl nn wa ws m1 m2 = true) (hd : okD l1 l2 l3 l4 hs rs = true) (hsm : SmD 2000000 cs is hs rs)
    (cs' is' : List Bool) (hs' rs' : List Int) (ws' : List Int) (bs' : List Bool) (pl' nn' : Int)
    (hAll : ∀ w : World, SlI w q1 ws → SlB w q2 bs → Calls Try.prog 64 #[dv a1 a2 a3 a4 l1 l2 l3 l4 c1 c2 c3 c4, rq 23 pl nn wa q1 q2 m1 m2 k1 k2] w fun e w' => e = .returned (.bool true) ∧ Below w.heap.size w w')
    (hdo : ∀ w : World, Below W0.heap.size W0 w → OwnD w W0.heap.size a1 a2 a3 a4 l1 l2 l3 l4 c1 c2 c3 c4 cs is hs rs → Calls Try.prog 86 #[dv a1 a2 a3 a4 l1 l2 l3 l4 c1 c2 c3 c4, rq 23 pl nn wa q1 q2 m1 m2 k1 k2] w fun e w' => SV W0 w w' e a1 a2 a3 a4 l1 l2 l3 l4 c1 c2 c3 c4 cs' is' hs' rs' 23 0 pl' nn' ws' bs') :
    Calls Try.prog 31 #[dv a1 a2 a3 a4 l1 l2 l3 l4 c1 c2 c3 c4, rq 23 pl nn wa q1 q2 m1 m2 k1 k2] w fun e w' => SV W0 w w' e a1 a2 a3 a4 l1 l2 l3 l4 c1 c2 c3 c4 cs' is' hs' rs' 23 0 pl' nn' ws' bs' := by
  obtain ⟨z, hz⟩ : ∃ z, z = ((w.alloc (.cells #[.slice a1 l1 c1, .slice a2 l2 c2, .slice a3 l3 c3, .slice a4 l4 c4] 27)).alloc (.cells #[.int .i64 23, .int .i64 pl, .int .i64 nn, .slice q1 m1 k1, .slice q2 m2 k2, .int .i64 wa] 57)).alloc (.cells #[.int .i64 0, .int .i64 0, .int .i64 0, .int .i64 0, .slice none 0 0, .slice none 0 0] 37) := ⟨_, rfl⟩
  have HZ : Hid (z = _) := hz
  have b0 : Below w.heap.size w z := by rw [hz]; exact bel_next (bel_next (bel_alloc w _) (bel_alloc _ _)) (bel_alloc _ _)
  have X0 : Blk z w.heap.size 27 #[.slice a1 l1 c1, .slice a2 l2 c2, .slice a3 l3 c3, .slice a4 l4 c4] := by rw [hz]; exact ((Blk.new w _ _).below (bel_alloc _ _)).below (bel_alloc _ _)
  have Y0 : Blk z (w.heap.size + 1) 57 #[.int .i64 23, .int .i64 pl, .int .i64 nn, .slice q1 m1 k1, .slice q2 m2 k2, .int .i64 wa] := by rw [hz]; have := (Blk.new (w.alloc (.cells #[.slice a1 l1 c1, .slice a2 l2 c2, .slice a3 l3 c3, .slice a4 l4 c4] 27)) #[.int .i64 23, .int .i64 pl, .int .i64 nn, .slice q1 m1 k1, .slice q2 m2 k2, .int .i64 wa] 57).below (bel_alloc _ (.cells #[.int .i64 0, .int .i64 0, .int .i64 0, .int .i64 0, .slice none 0 0, .slice none 0 0] 37)); simpa using this
  have R0 : Blk z (w.heap.size + 1 + 1) 37 #[.int .i64 0, .int .i64 0, .int .i64 0, .int .i64 0, .slice none 0 0, .slice none 0 0] := by rw [hz]; have := Blk.new ((w.alloc (.cells #[.slice a1 l1 c1, .slice a2 l2 c2, .slice a3 l3 c3, .slice a4 l4 c4] 27)).alloc (.cells #[.int .i64 23, .int .i64 pl, .int .i64 nn, .slice q1 m1 k1, .slice q2 m2 k2, .int .i64 wa] 57)) #[.int .i64 0, .int .i64 0, .int .i64 0, .int .i64 0, .slice none 0 0, .slice none 0 0] 37; simpa using this
  have HB0 : Hid (Below W0.heap.size W0 w) := hB
  have HD0 : Hid (OwnD w W0.heap.size a1 a2 a3 a4 l1 l2 l3 l4 c1 c2 c3 c4 cs is hs rs) := hD
  have HQ : Hid (m1 = ws.length ∧ m2 = bs.length ∧ SlI W0 q1 ws ∧ SlB W0 q2 bs ∧ ws.length ≤ 2000000 ∧ bs.length ≤ 2000000) := ⟨hn, hn2, hq, hq2, hl, hl2⟩
  have HOK : Hid (okR 23 pl nn wa ws m1 m2 = true ∧ okD l1 l2 l3 l4 hs rs = true ∧ SmD 2000000 cs is hs rs ∧ LnD l1 l2 l3 l4 cs is hs rs) := ⟨hok, hd, hsm, hD.sl.1⟩
  have HA : Hid _ := hAll
  have HDO : Hid _ := hdo
  have BW : ∀ u : World, Below w.heap.size w u → Below W0.heap.size W0 u := fun u hu => HB0.out.trans (hu.mono HB0.out.size)
  obtain ⟨x0, x1, x2, x3⟩ := X0.four
  obtain ⟨y0, y1, y2, y3, y4, y5⟩ := Y0.six
  clear hz hB hD hn hn2 hq hq2 hl hl2 hok hd hsm hAll hdo
  go_enter Try.func31, Try.ntmps31
  go_upto_region 1 with fail
  rw [← HZ.out]
  go_wp2_with fail
  refine (implReqOk_q 23 pl nn wa q1 q2 m1 m2 k1 k2 ws bs _ HQ.out.1 HQ.out.2.1 (HQ.out.2.2.1.below (BW _ b0)) (HQ.out.2.2.2.1.below (BW _ b0)) HQ.out.2.2.2.2.1 HQ.out.2.2.2.2.2).mono ?_
  rintro e w1 ⟨he, b'⟩
  rw [HOK.out.1] at he
  subst he
  have b1 := bel_next b0 b'
  have X1 := X0.below b'
  have Y1 := Y0.below b'
  have R1 := R0.below b'
  clear x0 x1 x2 x3 y0 y1 y2 y3 y4 y5 X0 Y0 R0 b0 b'
  obtain ⟨x0, x1, x2, x3⟩ := X1.four
  obtain ⟨y0, y1, y2, y3, y4, y5⟩ := Y1.six
  go_wp2_with fail
  refine (implDeviceOk_any a1 a2 a3 a4 l1 l2 l3 l4 c1 c2 c3 c4 cs is hs rs _ HOK.out.2.2.2 (HD0.out.below b1).sl.2 HOK.out.2.2.1 _ HOK.out.2.1).mono ?_
  rintro e w2 ⟨rfl, b'⟩
  have b2 := bel_next b1 b'
  have X2 := X1.below b'
  have Y2 := Y1.below b'
  have R2 := R1.below b'
  clear x0 x1 x2 x3 y0 y1 y2 y3 y4 y5 X1 Y1 R1 b1 b'
  obtain ⟨x0, x1, x2, x3⟩ := X2.four
  obtain ⟨y0, y1, y2, y3, y4, y5⟩ := Y2.six
  go_wp2_with fail
  refine (HA.out _ (HQ.out.2.2.1.below (BW _ b2)) (HQ.out.2.2.2.1.below (BW _ b2))).mono ?_
  rintro e w3 ⟨rfl, b'⟩
  have b3 := bel_next b2 b'
  have X3 := X2.below b'
  have Y3 := Y2.below b'
  have R3 := R2.below b'
  clear x0 x1 x2 x3 y0 y1 y2 y3 y4 y5 X2 Y2 R2 b2 b'
  obtain ⟨x0, x1, x2, x3⟩ := X3.four
  obtain ⟨y0, y1, y2, y3, y4, y5⟩ := Y3.six
  go_upto_region 7 with fail
  have d3 : Below w3.heap.size w3 w3.drew := (Below.refl _ _).drew
  have hne2 : ¬ (w.heap.size = w.heap.size + 1 + 1) := by omega
  have hne3 : ¬ (w.heap.size + 1 + 1 = w.heap.size) := by omega
  go_region_held3 (fun w' => w'.cell? ⟨w.heap.size, 0, none⟩ = some (.slice a1 l1 c1) ∧ w'.cell? ⟨w.heap.size, 1, none⟩ = some (.slice a2 l2 c2) ∧ w'.cell? ⟨w.heap.size, 2, none⟩ = some (.slice a3 l3 c3) ∧ w'.cell? ⟨w.heap.size, 3, none⟩ = some (.slice a4 l4 c4) ∧ w'.cell? ⟨w.heap.size + 1, 0, none⟩ = some (.int .i64 23) ∧ w'.cell? ⟨w.heap.size + 1, 1, none⟩ = some (.int .i64 pl) ∧ w'.cell? ⟨w.heap.size + 1, 2, none⟩ = some (.int .i64 nn) ∧ w'.cell? ⟨w.heap.size + 1, 3, none⟩ = some (.slice q1 m1 k1) ∧ w'.cell? ⟨w.heap.size + 1, 4, none⟩ = some (.slice q2 m2 k2) ∧ w'.cell? ⟨w.heap.size + 1, 5, none⟩ = some (.int .i64 wa)) (go_keep)
    (first
      | (go_at_call 65; refine (deeds_any _).mono ?_; rintro e w4 ⟨rfl, hm4, b'⟩; have B4 : Below w3.heap.size w3 w4 := (by first | exact b' | exact bel_next d3 b'); have lk4 : (Instr.lookup 87 (.map (some w3.heap.size)) (.int .i64 23) false).run Try.prog w4 = .ok (.func (.func 86) #[] #[]) w4 := mp_get 23 (.func (.func 86) #[] #[]) 9 _ _ _ _ hm4 rfl; obtain ⟨x40, x41, x42, x43⟩ := (X3.below B4).four; obtain ⟨y40, y41, y42, y43, y44, y45⟩ := (Y3.below B4).six; clear b')
      | (go_at_call 86; refine (HDO.out _ (BW _ (by first | exact bel_next b3 B4 | exact (bel_next b3 B4).drew)) (HD0.out.below (by first | exact bel_next b3 B4 | exact (bel_next b3 B4).drew))).mono ?_; rintro e w5 ⟨r1, r2, n1, n2, e1, e2, rfl, o1, o2, o3, o4, o5⟩; have D4 := HD0.out.below (bel_next b3 B4); have X5 := (X3.below B4).chg o5 (D4.noBlk (X3.below B4) (by decide) (by decide)); have Y5 := (Y3.below B4).chg o5 (D4.noBlk (Y3.below B4) (by decide) (by decide)); have R5 := (R3.below B4).chg o5 (D4.noBlk (R3.below B4) (by decide) (by decide)); obtain ⟨x50, x51, x52, x53⟩ := X5.four; obtain ⟨y50, y51, y52, y53, y54, y55⟩ := Y5.six; obtain ⟨s0, s1, s2, s3, s4, s5⟩ := R5.six; have f0 := R5.fro 0; have f1 := R5.fro 1; have f2 := R5.fro 2; have f3 := R5.fro 3; have f4 := R5.fro 4; have f5 := R5.fro 5; have sz4 : w.heap.size ≤ w4.heap.size := (bel_next b3 B4).size; have HH : Hid (OwnI w5 w.heap.size (.slice r1 n1 e1) ws' ∧ OwnB w5 w.heap.size (.slice r2 n2 e2) bs' ∧ OwnD w5 W0.heap.size a1 a2 a3 a4 l1 l2 l3 l4 c1 c2 c3 c4 cs' is' hs' rs' ∧ Below W0.heap.size W0 w5 ∧ Chg w w5 (Of4 (.slice a1 l1 c1) (.slice a2 l2 c2) (.slice a3 l3 c3) (.slice a4 l4 c4)) ∧ ExB w5 (w.heap.size + 1 + 1) 37) := ⟨OwnI.mono o1 (by exact sz4), OwnB.mono o2 (by exact sz4), o3, o4, (Chg.ofBelow (bel_next b3 B4)).trans o5, ⟨_, R5⟩⟩; have HZ0 : Hid (W0.heap.size ≤ w.heap.size) := HB0.out.size; clear o1 o2 o3 o4 o5 D4 X5 Y5 R5))
  all_goals (
    go_wp2
    refine bodyPost_ret (v := rp 23 0 pl' nn' r1 r2 n1 n2 e1 e2) (by simp [results, Try.results31, go_sem, s0, s1, s2, s3, s4, s5]) rfl ?_
    obtain ⟨o1, o2, o3, o4, o5, o6⟩ := HH.out
    exact ⟨_, _, _, _, _, _, rfl, rowp_set6 o1 o6 (by decide), rowp_set6 o2 o6 (by decide), o3.set6 o6 (by decide) (by decide), belp_set6 o4 (by have := HZ0.out; omega), o5.set6 (by omega)⟩)
end Go.Proofs.Ytfdddkjonjpgpaa
namespace Go.Proofs.Ytfdddkjonjpgpaa
open Go.RowKit
set_option linter.unusedVariables false
set_option linter.unusedSimpArgs false
set_option maxRecDepth 20000 in
set_option maxHeartbeats 2000000 in
theorem serve_no (a1 a2 a3 a4 : Option Addr) (l1 l2 l3 l4 c1 c2 c3 c4 : Nat) (cs is : List Bool) (hs rs : List Int) (kd pl nn wa : Int) (q1 q2 : Option Addr) (m1 m2 k1 k2 : Nat) (ws : List Int) (bs : List Bool) (W0 w : World) (hB : Below W0.heap.size W0 w) (hD : OwnD w W0.heap.size a1 a2 a3 a4 l1 l2 l3 l4 c1 c2 c3 c4 cs is hs rs) (hn : m1 = ws.length) (hn2 : m2 = bs.length) (hq : SlI W0 q1 ws) (hq2 : SlB W0 q2 bs) (hl : ws.length ≤ 2000000) (hl2 : bs.length ≤ 2000000) (hsm : SmD 2000000 cs is hs rs) (hok : okR kd pl nn wa ws m1 m2 = false)
    : Calls Try.prog 31 #[dv a1 a2 a3 a4 l1 l2 l3 l4 c1 c2 c3 c4, rq kd pl nn wa q1 q2 m1 m2 k1 k2] w fun e w' => SV W0 w w' e a1 a2 a3 a4 l1 l2 l3 l4 c1 c2 c3 c4 cs is hs rs 0 0 0 0 [] [] := by
  obtain ⟨z, hz⟩ : ∃ z, z = ((w.alloc (.cells #[.slice a1 l1 c1, .slice a2 l2 c2, .slice a3 l3 c3, .slice a4 l4 c4] 27)).alloc (.cells #[.int .i64 kd, .int .i64 pl, .int .i64 nn, .slice q1 m1 k1, .slice q2 m2 k2, .int .i64 wa] 57)).alloc (.cells #[.int .i64 0, .int .i64 0, .int .i64 0, .int .i64 0, .slice none 0 0, .slice none 0 0] 37) := ⟨_, rfl⟩
  have HZ : Hid (z = _) := hz
  have b0 : Below w.heap.size w z := by rw [hz]; exact bel_next (bel_next (bel_alloc w _) (bel_alloc _ _)) (bel_alloc _ _)
  have X0 : Blk z w.heap.size 27 #[.slice a1 l1 c1, .slice a2 l2 c2, .slice a3 l3 c3, .slice a4 l4 c4] := by rw [hz]; exact ((Blk.new w _ _).below (bel_alloc _ _)).below (bel_alloc _ _)
  have Y0 : Blk z (w.heap.size + 1) 57 #[.int .i64 kd, .int .i64 pl, .int .i64 nn, .slice q1 m1 k1, .slice q2 m2 k2, .int .i64 wa] := by rw [hz]; have := (Blk.new (w.alloc (.cells #[.slice a1 l1 c1, .slice a2 l2 c2, .slice a3 l3 c3, .slice a4 l4 c4] 27)) #[.int .i64 kd, .int .i64 pl, .int .i64 nn, .slice q1 m1 k1, .slice q2 m2 k2, .int .i64 wa] 57).below (bel_alloc _ (.cells #[.int .i64 0, .int .i64 0, .int .i64 0, .int .i64 0, .slice none 0 0, .slice none 0 0] 37)); simpa using this
  have R0 : Blk z (w.heap.size + 1 + 1) 37 #[.int .i64 0, .int .i64 0, .int .i64 0, .int .i64 0, .slice none 0 0, .slice none 0 0] := by rw [hz]; have := Blk.new ((w.alloc (.cells #[.slice a1 l1 c1, .slice a2 l2 c2, .slice a3 l3 c3, .slice a4 l4 c4] 27)).alloc (.cells #[.int .i64 kd, .int .i64 pl, .int .i64 nn, .slice q1 m1 k1, .slice q2 m2 k2, .int .i64 wa] 57)) #[.int .i64 0, .int .i64 0, .int .i64 0, .int .i64 0, .slice none 0 0, .slice none 0 0] 37; simpa using this
  have HB0 : Hid (Below W0.heap.size W0 w) := hB
  have HD0 : Hid (OwnD w W0.heap.size a1 a2 a3 a4 l1 l2 l3 l4 c1 c2 c3 c4 cs is hs rs) := hD
  have HQ : Hid (m1 = ws.length ∧ m2 = bs.length ∧ SlI W0 q1 ws ∧ SlB W0 q2 bs ∧ ws.length ≤ 2000000 ∧ bs.length ≤ 2000000) := ⟨hn, hn2, hq, hq2, hl, hl2⟩
  have HOK : Hid _ := hok
  have HSM : Hid (SmD 2000000 cs is hs rs ∧ LnD l1 l2 l3 l4 cs is hs rs) := ⟨hsm, hD.sl.1⟩
  have BW : ∀ u : World, Below w.heap.size w u → Below W0.heap.size W0 u := fun u hu => HB0.out.trans (hu.mono HB0.out.size)
  obtain ⟨x0, x1, x2, x3⟩ := X0.four
  obtain ⟨y0, y1, y2, y3, y4, y5⟩ := Y0.six
  clear hz hB hD hn hn2 hq hq2 hl hl2 hok hsm
  go_enter Try.func31, Try.ntmps31
  go_upto_region 1 with fail
  rw [← HZ.out]
  go_wp2_with fail
  refine (implReqOk_q kd pl nn wa q1 q2 m1 m2 k1 k2 ws bs _ HQ.out.1 HQ.out.2.1 (HQ.out.2.2.1.below (BW _ b0)) (HQ.out.2.2.2.1.below (BW _ b0)) HQ.out.2.2.2.2.1 HQ.out.2.2.2.2.2).mono ?_
  rintro e w1 ⟨he, b'⟩
  rw [HOK.out] at he
  subst he
  have b1 := bel_next b0 b'
  have X1 := X0.below b'
  have Y1 := Y0.below b'
  have R1 := R0.below b'
  clear x0 x1 x2 x3 y0 y1 y2 y3 y4 y5 X0 Y0 R0 b0 b'
  obtain ⟨x0, x1, x2, x3⟩ := X1.four
  obtain ⟨y0, y1, y2, y3, y4, y5⟩ := Y1.six
  obtain ⟨s0, s1, s2, s3, s4, s5⟩ := R1.six
  have f0 := R1.fro 0
  have f1 := R1.fro 1
  have f2 := R1.fro 2
  have f3 := R1.fro 3
  have f4 := R1.fro 4
  have f5 := R1.fro 5
  have HR : Hid (ExB _ (w.heap.size + 1 + 1) 37) := ⟨_, R1⟩
  have HB : Hid (Below w.heap.size w _) := b1
  have HZ0 : Hid (W0.heap.size ≤ w.heap.size) := HB0.out.size
  go_wp2_with fail
  refine bodyPost_ret (v := rp 0 0 0 0 none none 0 0 0 0) (by simp [results, Try.results31, go_sem, s0, s1, s2, s3, s4, s5]) rfl ?_
  exact ⟨_, _, _, _, _, _, rfl, ownI_nil0 _ _, ownB_nil0 _ _, (HD0.out.below HB.out).set6 HR.out (by decide) (by decide), belp_set6 (BW _ HB.out) (by have := HZ0.out; omega), (Chg.ofBelow HB.out).set6 (by omega)⟩
set_option maxRecDepth 20000 in
set_option maxHeartbeats 2000000 in
theorem serve_dev (a1 a2 a3 a4 : Option Addr) (l1 l2 l3 l4 c1 c2 c3 c4 : Nat) (cs is : List Bool) (hs rs : List Int) (kd pl nn wa : Int) (q1 q2 : Option Addr) (m1 m2 k1 k2 : Nat) (ws : List Int) (bs : List Bool) (W0 w : World) (hB : Below W0.heap.size W0 w) (hD : OwnD w W0.heap.size a1 a2 a3 a4 l1 l2 l3 l4 c1 c2 c3 c4 cs is hs rs) (hn : m1 = ws.length) (hn2 : m2 = bs.length) (hq : SlI W0 q1 ws) (hq2 : SlB W0 q2 bs) (hl : ws.length ≤ 2000000) (hl2 : bs.length ≤ 2000000) (hsm : SmD 2000000 cs is hs rs) (hok : okR kd pl nn wa ws m1 m2 = true) (hd : okD l1 l2 l3 l4 hs rs = false)
    : Calls Try.prog 31 #[dv a1 a2 a3 a4 l1 l2 l3 l4 c1 c2 c3 c4, rq kd pl nn wa q1 q2 m1 m2 k1 k2] w fun e w' => SV W0 w w' e a1 a2 a3 a4 l1 l2 l3 l4 c1 c2 c3 c4 cs is hs rs kd 4 0 0 [] [] := by
  obtain ⟨z, hz⟩ : ∃ z, z = ((w.alloc (.cells #[.slice a1 l1 c1, .slice a2 l2 c2, .slice a3 l3 c3, .slice a4 l4 c4] 27)).alloc (.cells #[.int .i64 kd, .int .i64 pl, .int .i64 nn, .slice q1 m1 k1, .slice q2 m2 k2, .int .i64 wa] 57)).alloc (.cells #[.int .i64 0, .int .i64 0, .int .i64 0, .int .i64 0, .slice none 0 0, .slice none 0 0] 37) := ⟨_, rfl⟩
  have HZ : Hid (z = _) := hz
  have b0 : Below w.heap.size w z := by rw [hz]; exact bel_next (bel_next (bel_alloc w _) (bel_alloc _ _)) (bel_alloc _ _)
  have X0 : Blk z w.heap.size 27 #[.slice a1 l1 c1, .slice a2 l2 c2, .slice a3 l3 c3, .slice a4 l4 c4] := by rw [hz]; exact ((Blk.new w _ _).below (bel_alloc _ _)).below (bel_alloc _ _)
  have Y0 : Blk z (w.heap.size + 1) 57 #[.int .i64 kd, .int .i64 pl, .int .i64 nn, .slice q1 m1 k1, .slice q2 m2 k2, .int .i64 wa] := by rw [hz]; have := (Blk.new (w.alloc (.cells #[.slice a1 l1 c1, .slice a2 l2 c2, .slice a3 l3 c3, .slice a4 l4 c4] 27)) #[.int .i64 kd, .int .i64 pl, .int .i64 nn, .slice q1 m1 k1, .slice q2 m2 k2, .int .i64 wa] 57).below (bel_alloc _ (.cells #[.int .i64 0, .int .i64 0, .int .i64 0, .int .i64 0, .slice none 0 0, .slice none 0 0] 37)); simpa using this
  have R0 : Blk z (w.heap.size + 1 + 1) 37 #[.int .i64 0, .int .i64 0, .int .i64 0, .int .i64 0, .slice none 0 0, .slice none 0 0] := by rw [hz]; have := Blk.new ((w.alloc (.cells #[.slice a1 l1 c1, .slice a2 l2 c2, .slice a3 l3 c3, .slice a4 l4 c4] 27)).alloc (.cells #[.int .i64 kd, .int .i64 pl, .int .i64 nn, .slice q1 m1 k1, .slice q2 m2 k2, .int .i64 wa] 57)) #[.int .i64 0, .int .i64 0, .int .i64 0, .int .i64 0, .slice none 0 0, .slice none 0 0] 37; simpa using this
  have HB0 : Hid (Below W0.heap.size W0 w) := hB
  have HD0 : Hid (OwnD w W0.heap.size a1 a2 a3 a4 l1 l2 l3 l4 c1 c2 c3 c4 cs is hs rs) := hD
  have HQ : Hid (m1 = ws.length ∧ m2 = bs.length ∧ SlI W0 q1 ws ∧ SlB W0 q2 bs ∧ ws.length ≤ 2000000 ∧ bs.length ≤ 2000000) := ⟨hn, hn2, hq, hq2, hl, hl2⟩
  have HOK : Hid _ := hok
  have HSM : Hid (SmD 2000000 cs is hs rs ∧ LnD l1 l2 l3 l4 cs is hs rs) := ⟨hsm, hD.sl.1⟩
  have BW : ∀ u : World, Below w.heap.size w u → Below W0.heap.size W0 u := fun u hu => HB0.out.trans (hu.mono HB0.out.size)
  obtain ⟨x0, x1, x2, x3⟩ := X0.four
  obtain ⟨y0, y1, y2, y3, y4, y5⟩ := Y0.six
  have HDK : Hid _ := hd
  clear hz hB hD hn hn2 hq hq2 hl hl2 hok hsm hd
  go_enter Try.func31, Try.ntmps31
  go_upto_region 1 with fail
  rw [← HZ.out]
  go_wp2_with fail
  refine (implReqOk_q kd pl nn wa q1 q2 m1 m2 k1 k2 ws bs _ HQ.out.1 HQ.out.2.1 (HQ.out.2.2.1.below (BW _ b0)) (HQ.out.2.2.2.1.below (BW _ b0)) HQ.out.2.2.2.2.1 HQ.out.2.2.2.2.2).mono ?_
  rintro e w1 ⟨he, b'⟩
  rw [HOK.out] at he
  subst he
  have b1 := bel_next b0 b'
  have X1 := X0.below b'
  have Y1 := Y0.below b'
  have R1 := R0.below b'
  clear x0 x1 x2 x3 y0 y1 y2 y3 y4 y5 X0 Y0 R0 b0 b'
  obtain ⟨x0, x1, x2, x3⟩ := X1.four
  obtain ⟨y0, y1, y2, y3, y4, y5⟩ := Y1.six
  go_wp2_with fail
  refine (implDeviceOk_any a1 a2 a3 a4 l1 l2 l3 l4 c1 c2 c3 c4 cs is hs rs _ HSM.out.2 (HD0.out.below b1).sl.2 HSM.out.1 _ HDK.out).mono ?_
  rintro e w2 ⟨rfl, b'⟩
  have b2 := bel_next b1 b'
  have X2 := X1.below b'
  have Y2 := Y1.below b'
  have R2 := R1.below b'
  clear x0 x1 x2 x3 y0 y1 y2 y3 y4 y5 X1 Y1 R1 b1 b'
  obtain ⟨x0, x1, x2, x3⟩ := X2.four
  obtain ⟨y0, y1, y2, y3, y4, y5⟩ := Y2.six
  go_wp2_with fail
  refine (implFaultOf_q kd pl nn wa q1 q2 m1 m2 k1 k2 ws bs _ _ HQ.out.1 HQ.out.2.1 (HQ.out.2.2.1.below (BW _ b2)) (HQ.out.2.2.2.1.below (BW _ b2)) HQ.out.2.2.2.2.1 HQ.out.2.2.2.2.2).mono ?_
  rintro e w5 ⟨he, b'⟩
  rw [HOK.out] at he
  have he' : e = .returned (rp kd 4 0 0 none none 0 0 0 0) := he
  subst he'
  clear he
  have b5 := bel_next b2 b'
  have R5 := R2.below b'
  clear x0 x1 x2 x3 y0 y1 y2 y3 y4 y5
  obtain ⟨s0, s1, s2, s3, s4, s5⟩ := R5.six
  have f0 := R5.fro 0
  have f1 := R5.fro 1
  have f2 := R5.fro 2
  have f3 := R5.fro 3
  have f4 := R5.fro 4
  have f5 := R5.fro 5
  have HR : Hid (ExB _ (w.heap.size + 1 + 1) 37) := ⟨_, R5⟩
  have HB : Hid (Below w.heap.size w _) := b5
  have HZ0 : Hid (W0.heap.size ≤ w.heap.size) := HB0.out.size
  go_wp2_with fail
  refine bodyPost_ret (v := rp kd 4 0 0 none none 0 0 0 0) (by simp [results, Try.results31, go_sem, s0, s1, s2, s3, s4, s5]) rfl ?_
  exact ⟨_, _, _, _, _, _, rfl, ownI_nil0 _ _, ownB_nil0 _ _, (HD0.out.below HB.out).set6 HR.out (by decide) (by decide), belp_set6 (BW _ HB.out) (by have := HZ0.out; omega), (Chg.ofBelow HB.out).set6 (by omega)⟩
set_option maxRecDepth 20000 in
set_option maxHeartbeats 2000000 in
theorem serve_at (a1 a2 a3 a4 : Option Addr) (l1 l2 l3 l4 c1 c2 c3 c4 : Nat) (cs is : List Bool) (hs rs : List Int) (kd pl nn wa : Int) (q1 q2 : Option Addr) (m1 m2 k1 k2 : Nat) (ws : List Int) (bs : List Bool) (W0 w : World) (hB : Below W0.heap.size W0 w) (hD : OwnD w W0.heap.size a1 a2 a3 a4 l1 l2 l3 l4 c1 c2 c3 c4 cs is hs rs) (hn : m1 = ws.length) (hn2 : m2 = bs.length) (hq : SlI W0 q1 ws) (hq2 : SlB W0 q2 bs) (hl : ws.length ≤ 2000000) (hl2 : bs.length ≤ 2000000) (hsm : SmD 2000000 cs is hs rs) (hok : okR kd pl nn wa ws m1 m2 = true) (hd : okD l1 l2 l3 l4 hs rs = true)
    (hAll : ∀ w : World, SlI w q1 ws → SlB w q2 bs → Calls Try.prog 64 #[dv a1 a2 a3 a4 l1 l2 l3 l4 c1 c2 c3 c4, rq kd pl nn wa q1 q2 m1 m2 k1 k2] w fun e w' => e = .returned (.bool false) ∧ Below w.heap.size w w')
    : Calls Try.prog 31 #[dv a1 a2 a3 a4 l1 l2 l3 l4 c1 c2 c3 c4, rq kd pl nn wa q1 q2 m1 m2 k1 k2] w fun e w' => SV W0 w w' e a1 a2 a3 a4 l1 l2 l3 l4 c1 c2 c3 c4 cs is hs rs kd 2 0 0 [] [] := by
  obtain ⟨z, hz⟩ : ∃ z, z = ((w.alloc (.cells #[.slice a1 l1 c1, .slice a2 l2 c2, .slice a3 l3 c3, .slice a4 l4 c4] 27)).alloc (.cells #[.int .i64 kd, .int .i64 pl, .int .i64 nn, .slice q1 m1 k1, .slice q2 m2 k2, .int .i64 wa] 57)).alloc (.cells #[.int .i64 0, .int .i64 0, .int .i64 0, .int .i64 0, .slice none 0 0, .slice none 0 0] 37) := ⟨_, rfl⟩
  have HZ : Hid (z = _) := hz
  have b0 : Below w.heap.size w z := by rw [hz]; exact bel_next (bel_next (bel_alloc w _) (bel_alloc _ _)) (bel_alloc _ _)
  have X0 : Blk z w.heap.size 27 #[.slice a1 l1 c1, .slice a2 l2 c2, .slice a3 l3 c3, .slice a4 l4 c4] := by rw [hz]; exact ((Blk.new w _ _).below (bel_alloc _ _)).below (bel_alloc _ _)
  have Y0 : Blk z (w.heap.size + 1) 57 #[.int .i64 kd, .int .i64 pl, .int .i64 nn, .slice q1 m1 k1, .slice q2 m2 k2, .int .i64 wa] := by rw [hz]; have := (Blk.new (w.alloc (.cells #[.slice a1 l1 c1, .slice a2 l2 c2, .slice a3 l3 c3, .slice a4 l4 c4] 27)) #[.int .i64 kd, .int .i64 pl, .int .i64 nn, .slice q1 m1 k1, .slice q2 m2 k2, .int .i64 wa] 57).below (bel_alloc _ (.cells #[.int .i64 0, .int .i64 0, .int .i64 0, .int .i64 0, .slice none 0 0, .slice none 0 0] 37)); simpa using this
  have R0 : Blk z (w.heap.size + 1 + 1) 37 #[.int .i64 0, .int .i64 0, .int .i64 0, .int .i64 0, .slice none 0 0, .slice none 0 0] := by rw [hz]; have := Blk.new ((w.alloc (.cells #[.slice a1 l1 c1, .slice a2 l2 c2, .slice a3 l3 c3, .slice a4 l4 c4] 27)).alloc (.cells #[.int .i64 kd, .int .i64 pl, .int .i64 nn, .slice q1 m1 k1, .slice q2 m2 k2, .int .i64 wa] 57)) #[.int .i64 0, .int .i64 0, .int .i64 0, .int .i64 0, .slice none 0 0, .slice none 0 0] 37; simpa using this
  have HB0 : Hid (Below W0.heap.size W0 w) := hB
  have HD0 : Hid (OwnD w W0.heap.size a1 a2 a3 a4 l1 l2 l3 l4 c1 c2 c3 c4 cs is hs rs) := hD
  have HQ : Hid (m1 = ws.length ∧ m2 = bs.length ∧ SlI W0 q1 ws ∧ SlB W0 q2 bs ∧ ws.length ≤ 2000000 ∧ bs.length ≤ 2000000) := ⟨hn, hn2, hq, hq2, hl, hl2⟩
  have HOK : Hid _ := hok
  have HSM : Hid (SmD 2000000 cs is hs rs ∧ LnD l1 l2 l3 l4 cs is hs rs) := ⟨hsm, hD.sl.1⟩
  have BW : ∀ u : World, Below w.heap.size w u → Below W0.heap.size W0 u := fun u hu => HB0.out.trans (hu.mono HB0.out.size)
  obtain ⟨x0, x1, x2, x3⟩ := X0.four
  obtain ⟨y0, y1, y2, y3, y4, y5⟩ := Y0.six
  have HDK : Hid _ := hd
  have HA : Hid _ := hAll
  clear hz hB hD hn hn2 hq hq2 hl hl2 hok hsm hd hAll
  go_enter Try.func31, Try.ntmps31
  go_upto_region 1 with fail
  rw [← HZ.out]
  go_wp2_with fail
  refine (implReqOk_q kd pl nn wa q1 q2 m1 m2 k1 k2 ws bs _ HQ.out.1 HQ.out.2.1 (HQ.out.2.2.1.below (BW _ b0)) (HQ.out.2.2.2.1.below (BW _ b0)) HQ.out.2.2.2.2.1 HQ.out.2.2.2.2.2).mono ?_
  rintro e w1 ⟨he, b'⟩
  rw [HOK.out] at he
  subst he
  have b1 := bel_next b0 b'
  have X1 := X0.below b'
  have Y1 := Y0.below b'
  have R1 := R0.below b'
  clear x0 x1 x2 x3 y0 y1 y2 y3 y4 y5 X0 Y0 R0 b0 b'
  obtain ⟨x0, x1, x2, x3⟩ := X1.four
  obtain ⟨y0, y1, y2, y3, y4, y5⟩ := Y1.six
  go_wp2_with fail
  refine (implDeviceOk_any a1 a2 a3 a4 l1 l2 l3 l4 c1 c2 c3 c4 cs is hs rs _ HSM.out.2 (HD0.out.below b1).sl.2 HSM.out.1 _ HDK.out).mono ?_
  rintro e w2 ⟨rfl, b'⟩
  have b2 := bel_next b1 b'
  have X2 := X1.below b'
  have Y2 := Y1.below b'
  have R2 := R1.below b'
  clear x0 x1 x2 x3 y0 y1 y2 y3 y4 y5 X1 Y1 R1 b1 b'
  obtain ⟨x0, x1, x2, x3⟩ := X2.four
  obtain ⟨y0, y1, y2, y3, y4, y5⟩ := Y2.six
  go_wp2_with fail
  refine (HA.out _ (HQ.out.2.2.1.below (BW _ b2)) (HQ.out.2.2.2.1.below (BW _ b2))).mono ?_
  rintro e w3 ⟨rfl, b'⟩
  have b3 := bel_next b2 b'
  have X3 := X2.below b'
  have Y3 := Y2.below b'
  have R3 := R2.below b'
  clear x0 x1 x2 x3 y0 y1 y2 y3 y4 y5 X2 Y2 R2 b2 b'
  obtain ⟨x0, x1, x2, x3⟩ := X3.four
  obtain ⟨y0, y1, y2, y3, y4, y5⟩ := Y3.six
  go_wp2_with fail
  refine (implFaultOf_q kd pl nn wa q1 q2 m1 m2 k1 k2 ws bs _ _ HQ.out.1 HQ.out.2.1 (HQ.out.2.2.1.below (BW _ b3)) (HQ.out.2.2.2.1.below (BW _ b3)) HQ.out.2.2.2.2.1 HQ.out.2.2.2.2.2).mono ?_
  rintro e w5 ⟨he, b'⟩
  rw [HOK.out] at he
  have he' : e = .returned (rp kd 2 0 0 none none 0 0 0 0) := he
  subst he'
  clear he
  have b5 := bel_next b3 b'
  have R5 := R3.below b'
  clear x0 x1 x2 x3 y0 y1 y2 y3 y4 y5
  obtain ⟨s0, s1, s2, s3, s4, s5⟩ := R5.six
  have f0 := R5.fro 0
  have f1 := R5.fro 1
  have f2 := R5.fro 2
  have f3 := R5.fro 3
  have f4 := R5.fro 4
  have f5 := R5.fro 5
  have HR : Hid (ExB _ (w.heap.size + 1 + 1) 37) := ⟨_, R5⟩
  have HB : Hid (Below w.heap.size w _) := b5
  have HZ0 : Hid (W0.heap.size ≤ w.heap.size) := HB0.out.size
  go_wp2_with fail
  refine bodyPost_ret (v := rp kd 2 0 0 none none 0 0 0 0) (by simp [results, Try.results31, go_sem, s0, s1, s2, s3, s4, s5]) rfl ?_
  exact ⟨_, _, _, _, _, _, rfl, ownI_nil0 _ _, ownB_nil0 _ _, (HD0.out.below HB.out).set6 HR.out (by decide) (by decide), belp_set6 (BW _ HB.out) (by have := HZ0.out; omega), (Chg.ofBelow HB.out).set6 (by omega)⟩
end Go.Proofs.Ytfdddkjonjpgpaa
