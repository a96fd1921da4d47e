/- Texts that the proof needs, joined: Dev10 Dev11 Dev12 Dev20 Dev21 Dev22 Dev23 Dev24. -/
import Derived.Test.YtfdddkjonjpgpaaV8
import Derived.Test.YtfdddkjonjpgpaaV10
import Derived.Test.YtfdddkjonjpgpaaV3
import Derived.Deep.Upon
namespace Go.Proofs.Ytfdddkjonjpgpaa
open Go.RowKit
set_option linter.unusedVariables false
set_option linter.unusedSimpArgs false
set_option maxRecDepth 20000 in
set_option maxHeartbeats 8000000 in
theorem serve_6 (a1 a2 a3 a4 : Option Addr) (l1 l2 l3 l4 c1 c2 c3 c4 : Nat) (cs is : List Bool) (hs rs : List Int) (pl nn wa : Int) (q1 q2 : Option Addr) (m1 m2 k1 k2 : Nat) (ws : List Int) (bs : List Bool) (W0 w : World) (hB : Below W0.heap.size W0 w) (hD : OwnD w W0.heap.size a1 a2 a3 a4 l1 l2 l3 l4 c1 c2 c3 c4 cs is hs rs) (hn : m1 = ws.length) (hn2 : m2 = bs.length) (hq : SlI W0 q1 ws) (hq2 : SlB W0 q2 bs) (hl : ws.length ≤ 2000000) (hl2 : bs.length ≤ 2000000) (hok : okR 6 pl nn wa ws m1 m2 = true) (hd : okD l1 l2 l3 l4 hs rs = true) (hsm : SmD 2000000 cs is hs rs)
    (cs' is' : List Bool) (hs' rs' : List Int) (ws' : List Int) (bs' : List Bool) (pl' nn' : Int)
    (hAll : ∀ w : World, SlI w q1 ws → SlB w q2 bs → Calls Try.prog 64 #[dv a1 a2 a3 a4 l1 l2 l3 l4 c1 c2 c3 c4, rq 6 pl nn wa q1 q2 m1 m2 k1 k2] w fun e w' => e = .returned (.bool true) ∧ Below w.heap.size w w')
    (hdo : ∀ w : World, Below W0.heap.size W0 w → OwnD w W0.heap.size a1 a2 a3 a4 l1 l2 l3 l4 c1 c2 c3 c4 cs is hs rs → Calls Try.prog 82 #[dv a1 a2 a3 a4 l1 l2 l3 l4 c1 c2 c3 c4, rq 6 pl nn wa q1 q2 m1 m2 k1 k2] w fun e w' => SV W0 w w' e a1 a2 a3 a4 l1 l2 l3 l4 c1 c2 c3 c4 cs' is' hs' rs' 6 0 pl' nn' ws' bs') :
    Calls Try.prog 31 #[dv a1 a2 a3 a4 l1 l2 l3 l4 c1 c2 c3 c4, rq 6 pl nn wa q1 q2 m1 m2 k1 k2] w fun e w' => SV W0 w w' e a1 a2 a3 a4 l1 l2 l3 l4 c1 c2 c3 c4 cs' is' hs' rs' 6 0 pl' nn' ws' bs' := by
  obtain ⟨z, hz⟩ : ∃ z, z = ((w.alloc (.cells #[.slice a1 l1 c1, .slice a2 l2 c2, .slice a3 l3 c3, .slice a4 l4 c4] 27)).alloc (.cells #[.int .i64 6, .int .i64 pl, .int .i64 nn, .slice q1 m1 k1, .slice q2 m2 k2, .int .i64 wa] 57)).alloc (.cells #[.int .i64 0, .int .i64 0, .int .i64 0, .int .i64 0, .slice none 0 0, .slice none 0 0] 37) := ⟨_, rfl⟩
  have HZ : Hid (z = _) := hz
  have b0 : Below w.heap.size w z := by rw [hz]; exact bel_next (bel_next (bel_alloc w _) (bel_alloc _ _)) (bel_alloc _ _)
  have X0 : Blk z w.heap.size 27 #[.slice a1 l1 c1, .slice a2 l2 c2, .slice a3 l3 c3, .slice a4 l4 c4] := by rw [hz]; exact ((Blk.new w _ _).below (bel_alloc _ _)).below (bel_alloc _ _)
  have Y0 : Blk z (w.heap.size + 1) 57 #[.int .i64 6, .int .i64 pl, .int .i64 nn, .slice q1 m1 k1, .slice q2 m2 k2, .int .i64 wa] := by rw [hz]; have := (Blk.new (w.alloc (.cells #[.slice a1 l1 c1, .slice a2 l2 c2, .slice a3 l3 c3, .slice a4 l4 c4] 27)) #[.int .i64 6, .int .i64 pl, .int .i64 nn, .slice q1 m1 k1, .slice q2 m2 k2, .int .i64 wa] 57).below (bel_alloc _ (.cells #[.int .i64 0, .int .i64 0, .int .i64 0, .int .i64 0, .slice none 0 0, .slice none 0 0] 37)); simpa using this
  have R0 : Blk z (w.heap.size + 1 + 1) 37 #[.int .i64 0, .int .i64 0, .int .i64 0, .int .i64 0, .slice none 0 0, .slice none 0 0] := by rw [hz]; have := Blk.new ((w.alloc (.cells #[.slice a1 l1 c1, .slice a2 l2 c2, .slice a3 l3 c3, .slice a4 l4 c4] 27)).alloc (.cells #[.int .i64 6, .int .i64 pl, .int .i64 nn, .slice q1 m1 k1, .slice q2 m2 k2, .int .i64 wa] 57)) #[.int .i64 0, .int .i64 0, .int .i64 0, .int .i64 0, .slice none 0 0, .slice none 0 0] 37; simpa using this
  have HB0 : Hid (Below W0.heap.size W0 w) := hB
  have HD0 : Hid (OwnD w W0.heap.size a1 a2 a3 a4 l1 l2 l3 l4 c1 c2 c3 c4 cs is hs rs) := hD
  have HQ : Hid (m1 = ws.length ∧ m2 = bs.length ∧ SlI W0 q1 ws ∧ SlB W0 q2 bs ∧ ws.length ≤ 2000000 ∧ bs.length ≤ 2000000) := ⟨hn, hn2, hq, hq2, hl, hl2⟩
  have HOK : Hid (okR 6 pl nn wa ws m1 m2 = true ∧ okD l1 l2 l3 l4 hs rs = true ∧ SmD 2000000 cs is hs rs ∧ LnD l1 l2 l3 l4 cs is hs rs) := ⟨hok, hd, hsm, hD.sl.1⟩
  have HA : Hid _ := hAll
  have HDO : Hid _ := hdo
  have BW : ∀ u : World, Below w.heap.size w u → Below W0.heap.size W0 u := fun u hu => HB0.out.trans (hu.mono HB0.out.size)
  obtain ⟨x0, x1, x2, x3⟩ := X0.four
  obtain ⟨y0, y1, y2, y3, y4, y5⟩ := Y0.six
  clear hz hB hD hn hn2 hq hq2 hl hl2 hok hd hsm hAll hdo
  go_enter Try.func31, Try.ntmps31
  go_upto_region 1 with fail
  rw [← HZ.out]
  go_wp2_with fail
  refine (implReqOk_q 6 pl nn wa q1 q2 m1 m2 k1 k2 ws bs _ HQ.out.1 HQ.out.2.1 (HQ.out.2.2.1.below (BW _ b0)) (HQ.out.2.2.2.1.below (BW _ b0)) HQ.out.2.2.2.2.1 HQ.out.2.2.2.2.2).mono ?_
  rintro e w1 ⟨he, b'⟩
  rw [HOK.out.1] at he
  subst he
  have b1 := bel_next b0 b'
  have X1 := X0.below b'
  have Y1 := Y0.below b'
  have R1 := R0.below b'
  clear x0 x1 x2 x3 y0 y1 y2 y3 y4 y5 X0 Y0 R0 b0 b'
  obtain ⟨x0, x1, x2, x3⟩ := X1.four
  obtain ⟨y0, y1, y2, y3, y4, y5⟩ := Y1.six
  go_wp2_with fail
  refine (implDeviceOk_any a1 a2 a3 a4 l1 l2 l3 l4 c1 c2 c3 c4 cs is hs rs _ HOK.out.2.2.2 (HD0.out.below b1).sl.2 HOK.out.2.2.1 _ HOK.out.2.1).mono ?_
  rintro e w2 ⟨rfl, b'⟩
  have b2 := bel_next b1 b'
  have X2 := X1.below b'
  have Y2 := Y1.below b'
  have R2 := R1.below b'
  clear x0 x1 x2 x3 y0 y1 y2 y3 y4 y5 X1 Y1 R1 b1 b'
  obtain ⟨x0, x1, x2, x3⟩ := X2.four
  obtain ⟨y0, y1, y2, y3, y4, y5⟩ := Y2.six
  go_wp2_with fail
  refine (HA.out _ (HQ.out.2.2.1.below (BW _ b2)) (HQ.out.2.2.2.1.below (BW _ b2))).mono ?_
  rintro e w3 ⟨rfl, b'⟩
  have b3 := bel_next b2 b'
  have X3 := X2.below b'
  have Y3 := Y2.below b'
  have R3 := R2.below b'
  clear x0 x1 x2 x3 y0 y1 y2 y3 y4 y5 X2 Y2 R2 b2 b'
  obtain ⟨x0, x1, x2, x3⟩ := X3.four
  obtain ⟨y0, y1, y2, y3, y4, y5⟩ := Y3.six
  go_upto_region 7 with fail
  have d3 : Below w3.heap.size w3 w3.drew := (Below.refl _ _).drew
  have hne2 : ¬ (w.heap.size = w.heap.size + 1 + 1) := by omega
  have hne3 : ¬ (w.heap.size + 1 + 1 = w.heap.size) := by omega
  go_region_held3 (fun w' => w'.cell? ⟨w.heap.size, 0, none⟩ = some (.slice a1 l1 c1) ∧ w'.cell? ⟨w.heap.size, 1, none⟩ = some (.slice a2 l2 c2) ∧ w'.cell? ⟨w.heap.size, 2, none⟩ = some (.slice a3 l3 c3) ∧ w'.cell? ⟨w.heap.size, 3, none⟩ = some (.slice a4 l4 c4) ∧ w'.cell? ⟨w.heap.size + 1, 0, none⟩ = some (.int .i64 6) ∧ w'.cell? ⟨w.heap.size + 1, 1, none⟩ = some (.int .i64 pl) ∧ w'.cell? ⟨w.heap.size + 1, 2, none⟩ = some (.int .i64 nn) ∧ w'.cell? ⟨w.heap.size + 1, 3, none⟩ = some (.slice q1 m1 k1) ∧ w'.cell? ⟨w.heap.size + 1, 4, none⟩ = some (.slice q2 m2 k2) ∧ w'.cell? ⟨w.heap.size + 1, 5, none⟩ = some (.int .i64 wa)) (go_keep)
    (first
      | (go_at_call 65; refine (deeds_any _).mono ?_; rintro e w4 ⟨rfl, hm4, b'⟩; have B4 : Below w3.heap.size w3 w4 := (by first | exact b' | exact bel_next d3 b'); have lk4 : (Instr.lookup 87 (.map (some w3.heap.size)) (.int .i64 6) false).run Try.prog w4 = .ok (.func (.func 82) #[] #[]) w4 := mp_get 6 (.func (.func 82) #[] #[]) 5 _ _ _ _ hm4 rfl; obtain ⟨x40, x41, x42, x43⟩ := (X3.below B4).four; obtain ⟨y40, y41, y42, y43, y44, y45⟩ := (Y3.below B4).six; clear b')
      | (go_at_call 82; refine (HDO.out _ (BW _ (by first | exact bel_next b3 B4 | exact (bel_next b3 B4).drew)) (HD0.out.below (by first | exact bel_next b3 B4 | exact (bel_next b3 B4).drew))).mono ?_; rintro e w5 ⟨r1, r2, n1, n2, e1, e2, rfl, o1, o2, o3, o4, o5⟩; have D4 := HD0.out.below (bel_next b3 B4); have X5 := (X3.below B4).chg o5 (D4.noBlk (X3.below B4) (by decide) (by decide)); have Y5 := (Y3.below B4).chg o5 (D4.noBlk (Y3.below B4) (by decide) (by decide)); have R5 := (R3.below B4).chg o5 (D4.noBlk (R3.below B4) (by decide) (by decide)); obtain ⟨x50, x51, x52, x53⟩ := X5.four; obtain ⟨y50, y51, y52, y53, y54, y55⟩ := Y5.six; obtain ⟨s0, s1, s2, s3, s4, s5⟩ := R5.six; have f0 := R5.fro 0; have f1 := R5.fro 1; have f2 := R5.fro 2; have f3 := R5.fro 3; have f4 := R5.fro 4; have f5 := R5.fro 5; have sz4 : w.heap.size ≤ w4.heap.size := (bel_next b3 B4).size; have HH : Hid (OwnI w5 w.heap.size (.slice r1 n1 e1) ws' ∧ OwnB w5 w.heap.size (.slice r2 n2 e2) bs' ∧ OwnD w5 W0.heap.size a1 a2 a3 a4 l1 l2 l3 l4 c1 c2 c3 c4 cs' is' hs' rs' ∧ Below W0.heap.size W0 w5 ∧ Chg w w5 (Of4 (.slice a1 l1 c1) (.slice a2 l2 c2) (.slice a3 l3 c3) (.slice a4 l4 c4)) ∧ ExB w5 (w.heap.size + 1 + 1) 37) := ⟨OwnI.mono o1 (by exact sz4), OwnB.mono o2 (by exact sz4), o3, o4, (Chg.ofBelow (bel_next b3 B4)).trans o5, ⟨_, R5⟩⟩; have HZ0 : Hid (W0.heap.size ≤ w.heap.size) := HB0.out.size; clear o1 o2 o3 o4 o5 D4 X5 Y5 R5))
  all_goals (
    go_wp2
    refine bodyPost_ret (v := rp 6 0 pl' nn' r1 r2 n1 n2 e1 e2) (by simp [results, Try.results31, go_sem, s0, s1, s2, s3, s4, s5]) rfl ?_
    obtain ⟨o1, o2, o3, o4, o5, o6⟩ := HH.out
    exact ⟨_, _, _, _, _, _, rfl, rowp_set6 o1 o6 (by decide), rowp_set6 o2 o6 (by decide), o3.set6 o6 (by decide) (by decide), belp_set6 o4 (by have := HZ0.out; omega), o5.set6 (by omega)⟩)
set_option maxRecDepth 20000 in
set_option maxHeartbeats 8000000 in
theorem serve_22 (a1 a2 a3 a4 : Option Addr) (l1 l2 l3 l4 c1 c2 c3 c4 : Nat) (cs is : List Bool) (hs rs : List Int) (pl nn wa : Int) (q1 q2 : Option Addr) (m1 m2 k1 k2 : Nat) (ws : List Int) (bs : List Bool) (W0 w : World) (hB : Below W0.heap.size W0 w) (hD : OwnD w W0.heap.size a1 a2 a3 a4 l1 l2 l3 l4 c1 c2 c3 c4 cs is hs rs) (hn : m1 = ws.length) (hn2 : m2 = bs.length) (hq : SlI W0 q1 ws) (hq2 : SlB W0 q2 bs) (hl : ws.length ≤ 2000000) (hl2 : bs.length ≤ 2000000) (hok : okR 22 pl nn wa ws m1 m2 = true) (hd : okD l1 l2 l3 l4 hs rs = true) (hsm : SmD 2000000 cs is hs rs)
    (cs' is' : List Bool) (hs' rs' : List Int) (ws' : List Int) (bs' : List Bool) (pl' nn' : Int)
    (hAll : ∀ w : World, SlI w q1 ws → SlB w q2 bs → Calls Try.prog 64 #[dv a1 a2 a3 a4 l1 l2 l3 l4 c1 c2 c3 c4, rq 22 pl nn wa q1 q2 m1 m2 k1 k2] w fun e w' => e = .returned (.bool true) ∧ Below w.heap.size w w')
    (hdo : ∀ w : World, Below W0.heap.size W0 w → OwnD w W0.heap.size a1 a2 a3 a4 l1 l2 l3 l4 c1 c2 c3 c4 cs is hs rs → Calls Try.prog 85 #[dv a1 a2 a3 a4 l1 l2 l3 l4 c1 c2 c3 c4, rq 22 pl nn wa q1 q2 m1 m2 k1 k2] w fun e w' => SV W0 w w' e a1 a2 a3 a4 l1 l2 l3 l4 c1 c2 c3 c4 cs' is' hs' rs' 22 0 pl' nn' ws' bs') :
    Calls Try.prog 31 #[dv a1 a2 a3 a4 l1 l2 l3 l4 c1 c2 c3 c4, rq 22 pl nn wa q1 q2 m1 m2 k1 k2] w fun e w' => SV W0 w w' e a1 a2 a3 a4 l1 l2 l3 l4 c1 c2 c3 c4 cs' is' hs' rs' 22 0 pl' nn' ws' bs' := by
  obtain ⟨z, hz⟩ : ∃ z, z = ((w.alloc (.cells #[.slice a1 l1 c1, .slice a2 l2 c2, .slice a3 l3 c3, .slice a4 l4 c4] 27)).alloc (.cells #[.int .i64 22, .int .i64 pl, .int .i64 nn, .slice q1 m1 k1, .slice q2 m2 k2, .int .i64 wa] 57)).alloc (.cells #[.int .i64 0, .int .i64 0, .int .i64 0, .int .i64 0, .slice none 0 0, .slice none 0 0] 37) := ⟨_, rfl⟩
  have HZ : Hid (z = _) := hz
  have b0 : Below w.heap.size w z := by rw [hz]; exact bel_next (bel_next (bel_alloc w _) (bel_alloc _ _)) (bel_alloc _ _)
  have X0 : Blk z w.heap.size 27 #[.slice a1 l1 c1, .slice a2 l2 c2, .slice a3 l3 c3, .slice a4 l4 c4] := by rw [hz]; exact ((Blk.new w _ _).below (bel_alloc _ _)).below (bel_alloc _ _)
  have Y0 : Blk z (w.heap.size + 1) 57 #[.int .i64 22, .int .i64 pl, .int .i64 nn, .slice q1 m1 k1, .slice q2 m2 k2, .int .i64 wa] := by rw [hz]; have := (Blk.new (w.alloc (.cells #[.slice a1 l1 c1, .slice a2 l2 c2, .slice a3 l3 c3, .slice a4 l4 c4] 27)) #[.int .i64 22, .int .i64 pl, .int .i64 nn, .slice q1 m1 k1, .slice q2 m2 k2, .int .i64 wa] 57).below (bel_alloc _ (.cells #[.int .i64 0, .int .i64 0, .int .i64 0, .int .i64 0, .slice none 0 0, .slice none 0 0] 37)); simpa using this
  have R0 : Blk z (w.heap.size + 1 + 1) 37 #[.int .i64 0, .int .i64 0, .int .i64 0, .int .i64 0, .slice none 0 0, .slice none 0 0] := by rw [hz]; have := Blk.new ((w.alloc (.cells #[.slice a1 l1 c1, .slice a2 l2 c2, .slice a3 l3 c3, .slice a4 l4 c4] 27)).alloc (.cells #[.int .i64 22, .int .i64 pl, .int .i64 nn, .slice q1 m1 k1, .slice q2 m2 k2, .int .i64 wa] 57)) #[.int .i64 0, .int .i64 0, .int .i64 0, .int .i64 0, .slice none 0 0, .slice none 0 0] 37; simpa using this
  have HB0 : Hid (Below W0.heap.size W0 w) := hB
  have HD0 : Hid (OwnD w W0.heap.size a1 a2 a3 a4 l1 l2 l3 l4 c1 c2 c3 c4 cs is hs rs) := hD
  have HQ : Hid (m1 = ws.length ∧ m2 = bs.length ∧ SlI W0 q1 ws ∧ SlB W0 q2 bs ∧ ws.length ≤ 2000000 ∧ bs.length ≤ 2000000) := ⟨hn, hn2, hq, hq2, hl, hl2⟩
  have HOK : Hid (okR 22 pl nn wa ws m1 m2 = true ∧ okD l1 l2 l3 l4 hs rs = true ∧ SmD 2000000 cs is hs rs ∧ LnD l1 l2 l3 l4 cs is hs rs) := ⟨hok, hd, hsm, hD.sl.1⟩
  have HA : Hid _ := hAll
  have HDO : Hid _ := hdo
  have BW : ∀ u : World, Below w.heap.size w u → Below W0.heap.size W0 u := fun u hu => HB0.out.trans (hu.mono HB0.out.size)
  obtain ⟨x0, x1, x2, x3⟩ := X0.four
  obtain ⟨y0, y1, y2, y3, y4, y5⟩ := Y0.six
  clear hz hB hD hn hn2 hq hq2 hl hl2 hok hd hsm hAll hdo
  go_enter Try.func31, Try.ntmps31
  go_upto_region 1 with fail
  rw [← HZ.out]
  go_wp2_with fail
  refine (implReqOk_q 22 pl nn wa q1 q2 m1 m2 k1 k2 ws bs _ HQ.out.1 HQ.out.2.1 (HQ.out.2.2.1.below (BW _ b0)) (HQ.out.2.2.2.1.below (BW _ b0)) HQ.out.2.2.2.2.1 HQ.out.2.2.2.2.2).mono ?_
  rintro e w1 ⟨he, b'⟩
  rw [HOK.out.1] at he
  subst he
  have b1 := bel_next b0 b'
  have X1 := X0.below b'
  have Y1 := Y0.below b'
  have R1 := R0.below b'
  clear x0 x1 x2 x3 y0 y1 y2 y3 y4 y5 X0 Y0 R0 b0 b'
  obtain ⟨x0, x1, x2, x3⟩ := X1.four
  obtain ⟨y0, y1, y2, y3, y4, y5⟩ := Y1.six
  go_wp2_with fail
  refine (implDeviceOk_any a1 a2 a3 a4 l1 l2 l3 l4 c1 c2 c3 c4 cs is hs rs _ HOK.out.2.2.2 (HD0.out.below b1).sl.2 HOK.out.2.2.1 _ HOK.out.2.1).mono ?_
  rintro e w2 ⟨rfl, b'⟩
  have b2 := bel_next b1 b'
  have X2 := X1.below b'
  have Y2 := Y1.below b'
  have R2 := R1.below b'
  clear x0 x1 x2 x3 y0 y1 y2 y3 y4 y5 X1 Y1 R1 b1 b'
  obtain ⟨x0, x1, x2, x3⟩ := X2.four
  obtain ⟨y0, y1, y2, y3, y4, y5⟩ := Y2.six
  go_wp2_with fail
  refine (HA.out _ (HQ.out.2.2.1.below (BW _ b2)) (HQ.out.2.2.2.1.below (BW _ b2))).mono ?_
  rintro e w3 ⟨rfl, b'⟩
  have b3 := bel_next b2 b'
  have X3 := X2.below b'
  have Y3 := Y2.below b'
  have R3 := R2.below b'
  clear x0 x1 x2 x3 y0 y1 y2 y3 y4 y5 X2 Y2 R2 b2 b'
  obtain ⟨x0, x1, x2, x3⟩ := X3.four
  obtain ⟨y0, y1, y2, y3, y4, y5⟩ := Y3.six
  go_upto_region 7 with fail
  have d3 : Below w3.heap.size w3 w3.drew := (Below.refl _ _).drew
  have hne2 : ¬ (w.heap.size = w.heap.size + 1 + 1) := by omega
  have hne3 : ¬ (w.heap.size + 1 + 1 = w.heap.size) := by omega
  go_region_held3 (fun w' => w'.cell? ⟨w.heap.size, 0, none⟩ = some (.slice a1 l1 c1) ∧ w'.cell? ⟨w.heap.size, 1, none⟩ = some (.slice a2 l2 c2) ∧ w'.cell? ⟨w.heap.size, 2, none⟩ = some (.slice a3 l3 c3) ∧ w'.cell? ⟨w.heap.size, 3, none⟩ = some (.slice a4 l4 c4) ∧ w'.cell? ⟨w.heap.size + 1, 0, none⟩ = some (.int .i64 22) ∧ w'.cell? ⟨w.heap.size + 1, 1, none⟩ = some (.int .i64 pl) ∧ w'.cell? ⟨w.heap.size + 1, 2, none⟩ = some (.int .i64 nn) ∧ w'.cell? ⟨w.heap.size + 1, 3, none⟩ = some (.slice q1 m1 k1) ∧ w'.cell? ⟨w.heap.size + 1, 4, none⟩ = some (.slice q2 m2 k2) ∧ w'.cell? ⟨w.heap.size + 1, 5, none⟩ = some (.int .i64 wa)) (go_keep)
    (first
      | (go_at_call 65; refine (deeds_any _).mono ?_; rintro e w4 ⟨rfl, hm4, b'⟩; have B4 : Below w3.heap.size w3 w4 := (by first | exact b' | exact bel_next d3 b'); have lk4 : (Instr.lookup 87 (.map (some w3.heap.size)) (.int .i64 22) false).run Try.prog w4 = .ok (.func (.func 85) #[] #[]) w4 := mp_get 22 (.func (.func 85) #[] #[]) 8 _ _ _ _ hm4 rfl; obtain ⟨x40, x41, x42, x43⟩ := (X3.below B4).four; obtain ⟨y40, y41, y42, y43, y44, y45⟩ := (Y3.below B4).six; clear b')
      | (go_at_call 85; refine (HDO.out _ (BW _ (by first | exact bel_next b3 B4 | exact (bel_next b3 B4).drew)) (HD0.out.below (by first | exact bel_next b3 B4 | exact (bel_next b3 B4).drew))).mono ?_; rintro e w5 ⟨r1, r2, n1, n2, e1, e2, rfl, o1, o2, o3, o4, o5⟩; have D4 := HD0.out.below (bel_next b3 B4); have X5 := (X3.below B4).chg o5 (D4.noBlk (X3.below B4) (by decide) (by decide)); have Y5 := (Y3.below B4).chg o5 (D4.noBlk (Y3.below B4) (by decide) (by decide)); have R5 := (R3.below B4).chg o5 (D4.noBlk (R3.below B4) (by decide) (by decide)); obtain ⟨x50, x51, x52, x53⟩ := X5.four; obtain ⟨y50, y51, y52, y53, y54, y55⟩ := Y5.six; obtain ⟨s0, s1, s2, s3, s4, s5⟩ := R5.six; have f0 := R5.fro 0; have f1 := R5.fro 1; have f2 := R5.fro 2; have f3 := R5.fro 3; have f4 := R5.fro 4; have f5 := R5.fro 5; have sz4 : w.heap.size ≤ w4.heap.size := (bel_next b3 B4).size; have HH : Hid (OwnI w5 w.heap.size (.slice r1 n1 e1) ws' ∧ OwnB w5 w.heap.size (.slice r2 n2 e2) bs' ∧ OwnD w5 W0.heap.size a1 a2 a3 a4 l1 l2 l3 l4 c1 c2 c3 c4 cs' is' hs' rs' ∧ Below W0.heap.size W0 w5 ∧ Chg w w5 (Of4 (.slice a1 l1 c1) (.slice a2 l2 c2) (.slice a3 l3 c3) (.slice a4 l4 c4)) ∧ ExB w5 (w.heap.size + 1 + 1) 37) := ⟨OwnI.mono o1 (by exact sz4), OwnB.mono o2 (by exact sz4), o3, o4, (Chg.ofBelow (bel_next b3 B4)).trans o5, ⟨_, R5⟩⟩; have HZ0 : Hid (W0.heap.size ≤ w.heap.size) := HB0.out.size; clear o1 o2 o3 o4 o5 D4 X5 Y5 R5))
  all_goals (
    go_wp2
    refine bodyPost_ret (v := rp 22 0 pl' nn' r1 r2 n1 n2 e1 e2) (by simp [results, Try.results31, go_sem, s0, s1, s2, s3, s4, s5]) rfl ?_
    obtain ⟨o1, o2, o3, o4, o5, o6⟩ := HH.out
    exact ⟨_, _, _, _, _, _, rfl, rowp_set6 o1 o6 (by decide), rowp_set6 o2 o6 (by decide), o3.set6 o6 (by decide) (by decide), belp_set6 o4 (by have := HZ0.out; omega), o5.set6 (by omega)⟩)
end Go.Proofs.Ytfdddkjonjpgpaa
namespace Go.Proofs.Ytfdddkjonjpgpaa
open Go.RowKit
set_option linter.unusedVariables false
set_option linter.unusedSimpArgs false
def SR (w w' : World) (e : Ending) (cs is : List Bool) (hs rs : List Int) (kd fl pl nn : Int) (ws : List Int) (bs : List Bool) : Prop :=
  ∃ a1 a2 a3 a4 l1 l2 l3 l4 c1 c2 c3 c4 r1 r2 m1 m2 k1 k2, e = .returned (.tuple #[dv a1 a2 a3 a4 l1 l2 l3 l4 c1 c2 c3 c4, rp kd fl pl nn r1 r2 m1 m2 k1 k2]) ∧ OwnD w' w.heap.size a1 a2 a3 a4 l1 l2 l3 l4 c1 c2 c3 c4 cs is hs rs ∧ OwnI w' w.heap.size (.slice r1 m1 k1) ws ∧ OwnB w' w.heap.size (.slice r2 m2 k2) bs ∧
    (∀ g, Of4 (.slice a1 l1 c1) (.slice a2 l2 c2) (.slice a3 l3 c3) (.slice a4 l4 c4) g → ¬ Of2 (.slice r1 m1 k1) (.slice r2 m2 k2) g) ∧ Below w.heap.size w w'
end Go.Proofs.Ytfdddkjonjpgpaa
namespace Go.Proofs.Ytfdddkjonjpgpaa
open Go.RowKit
set_option linter.unusedVariables false
set_option linter.unusedSimpArgs false
theorem okD_len {l1 l2 l3 l4 : Nat} {hs rs : List Int} (h : okD l1 l2 l3 l4 hs rs = true) : l1 ≤ 64 ∧ l2 ≤ 64 ∧ l3 ≤ 64 ∧ l4 ≤ 64 := by
  unfold okD at h; simp only [Bool.and_eq_true] at h; exact of_decide_eq_true h.1
end Go.Proofs.Ytfdddkjonjpgpaa
namespace Go.Proofs.Ytfdddkjonjpgpaa
open Go.RowKit
set_option linter.unusedVariables false
set_option linter.unusedSimpArgs false
structure SvR where
  cs : List Bool
  hs : List Int
  kd : Int
  fl : Int
  pl : Int
  nn : Int
  ws : List Int
  bs : List Bool
def svAll (l1 l2 l3 l4 : Nat) (kd pl nn wa : Int) (m1 m2 : Nat) : Bool := hsB ([(l1 : Int), (l2 : Int), (l3 : Int), (l4 : Int)].getD (spc0 kd).toNat 0) pl (spcN kd nn m1 m2) kd wa m1
def tB8 (cs : List Bool) (k N : Nat) : List Bool := (cs.drop k).take N ++ List.replicate (8 * ((N + 7) / 8) - N) false
def svDo (cs is : List Bool) (hs rs : List Int) (kd pl nn wa : Int) (ws : List Int) (bs : List Bool) : SvR :=
  if kd = 1 then ⟨cs, hs, 1, 0, 0, 0, [], tB8 cs pl.toNat nn.toNat⟩
  else if kd = 2 then ⟨cs, hs, 2, 0, 0, 0, [], tB8 is pl.toNat nn.toNat⟩
  else if kd = 3 then ⟨cs, hs, 3, 0, 0, 0, (hs.drop pl.toNat).take nn.toNat, []⟩
  else if kd = 4 then ⟨cs, hs, 4, 0, 0, 0, (rs.drop pl.toNat).take nn.toNat, []⟩
  else if kd = 5 then ⟨cs.set pl.toNat (bs.getD 0 false), hs, 5, 0, pl, 0, [], bs⟩
  else if kd = 6 then ⟨cs, hs.set pl.toNat (ws.getD 0 0), 6, 0, pl, 0, ws, []⟩
  else if kd = 15 then ⟨wr cs pl.toNat bs, hs, 15, 0, pl, bs.length, [], []⟩
  else if kd = 16 then ⟨cs, wr hs pl.toNat ws, 16, 0, pl, ws.length, [], []⟩
  else if kd = 22 then ⟨cs, hs.set pl.toNat (mskI (hs.getD pl.toNat 0) (ws.getD 0 0) (ws.getD 1 0)), 22, 0, pl, 0, ws, []⟩
  else ⟨cs, wr hs wa.toNat ws, 23, 0, 0, 0, ((wr hs wa.toNat ws).drop pl.toNat).take nn.toNat, []⟩
def svV (l1 l2 l3 l4 : Nat) (cs is : List Bool) (hs rs : List Int) (kd pl nn wa : Int) (m1 m2 : Nat) (ws : List Int) (bs : List Bool) : SvR :=
  if okR kd pl nn wa ws m1 m2 = false then ⟨cs, hs, 0, 0, 0, 0, [], []⟩
  else if okD l1 l2 l3 l4 hs rs = false then ⟨cs, hs, kd, 4, 0, 0, [], []⟩
  else if svAll l1 l2 l3 l4 kd pl nn wa m1 m2 = false then ⟨cs, hs, kd, 2, 0, 0, [], []⟩
  else svDo cs is hs rs kd pl nn wa ws bs
theorem okR_f {kd pl nn wa : Int} {ws : List Int} {m1 m2 : Nat} (h : okR kd pl nn wa ws m1 m2 = true) : (0 ≤ pl ∧ pl ≤ 65535) ∧
    ((kd = 1 ∧ 1 ≤ nn ∧ nn ≤ 2000 ∧ m1 = 0 ∧ m2 = 0 ∧ wa = 0) ∨ (kd = 2 ∧ 1 ≤ nn ∧ nn ≤ 2000 ∧ m1 = 0 ∧ m2 = 0 ∧ wa = 0) ∨ (kd = 3 ∧ 1 ≤ nn ∧ nn ≤ 125 ∧ m1 = 0 ∧ m2 = 0 ∧ wa = 0) ∨ (kd = 4 ∧ 1 ≤ nn ∧ nn ≤ 125 ∧ m1 = 0 ∧ m2 = 0 ∧ wa = 0)
     ∨ (kd = 5 ∧ nn = 0 ∧ m1 = 0 ∧ m2 = 1 ∧ wa = 0) ∨ (kd = 6 ∧ nn = 0 ∧ m1 = 1 ∧ m2 = 0 ∧ wa = 0) ∨ (kd = 15 ∧ nn = 0 ∧ m1 = 0 ∧ 1 ≤ m2 ∧ m2 ≤ 1968 ∧ wa = 0) ∨ (kd = 16 ∧ nn = 0 ∧ m2 = 0 ∧ 1 ≤ m1 ∧ m1 ≤ 123 ∧ wa = 0)
     ∨ (kd = 22 ∧ nn = 0 ∧ m1 = 2 ∧ m2 = 0 ∧ wa = 0) ∨ (kd = 23 ∧ 1 ≤ nn ∧ nn ≤ 125 ∧ m2 = 0 ∧ 1 ≤ m1 ∧ m1 ≤ 121 ∧ 0 ≤ wa ∧ wa ≤ 65535)) := by
  unfold okR at h
  simp only [Bool.and_eq_true] at h
  obtain ⟨_, h2, h3⟩ := h
  refine ⟨inB_yes h2, ?_⟩
  by_cases e1 : kd = 1
  · subst e1
    simp [okK, zrB, inB, fitB] at h3
    exact .inl ⟨rfl, by omega, by omega, by omega, by omega, by omega⟩
  by_cases e2 : kd = 2
  · subst e2
    simp [okK, zrB, inB, fitB] at h3
    exact .inr (.inl ⟨rfl, by omega, by omega, by omega, by omega, by omega⟩)
  by_cases e3 : kd = 3
  · subst e3
    simp [okK, zrB, inB, fitB] at h3
    exact .inr (.inr (.inl ⟨rfl, by omega, by omega, by omega, by omega, by omega⟩))
  by_cases e4 : kd = 4
  · subst e4
    simp [okK, zrB, inB, fitB] at h3
    exact .inr (.inr (.inr (.inl ⟨rfl, by omega, by omega, by omega, by omega, by omega⟩)))
  by_cases e5 : kd = 5
  · subst e5
    simp [okK, zrB, inB, fitB] at h3
    exact .inr (.inr (.inr (.inr (.inl ⟨rfl, by omega, by omega, by omega, by omega⟩))))
  by_cases e6 : kd = 6
  · subst e6
    simp [okK, zrB, inB, fitB] at h3
    exact .inr (.inr (.inr (.inr (.inr (.inl ⟨rfl, by omega, by omega, by omega, by omega⟩)))))
  by_cases e15 : kd = 15
  · subst e15
    simp [okK, zrB, inB, fitB] at h3
    exact .inr (.inr (.inr (.inr (.inr (.inr (.inl ⟨rfl, by omega, by omega, by omega, by omega, by omega⟩))))))
  by_cases e16 : kd = 16
  · subst e16
    simp [okK, zrB, inB, fitB] at h3
    exact .inr (.inr (.inr (.inr (.inr (.inr (.inr (.inl ⟨rfl, by omega, by omega, by omega, by omega, by omega⟩)))))))
  by_cases e22 : kd = 22
  · subst e22
    simp [okK, zrB, inB, fitB] at h3
    exact .inr (.inr (.inr (.inr (.inr (.inr (.inr (.inr (.inl ⟨rfl, by omega, by omega, by omega, by omega⟩))))))))
  by_cases e23 : kd = 23
  · subst e23
    simp [okK, zrB, inB, fitB] at h3
    exact .inr (.inr (.inr (.inr (.inr (.inr (.inr (.inr (.inr (⟨rfl, by omega, by omega, by omega, by omega, by omega, by omega, by omega⟩)))))))))
  simp [okK, e1, e2, e3, e4, e5, e6, e15, e16, e22, e23] at h3
theorem okR_w {kd pl nn wa : Int} {ws : List Int} {m1 m2 : Nat} (h : okR kd pl nn wa ws m1 m2 = true) : allW ws = true := by
  unfold okR at h
  simp only [Bool.and_eq_true] at h
  exact h.1
set_option maxHeartbeats 1000000 in
theorem hasAll_q (a1 a2 a3 a4 : Option Addr) (l1 l2 l3 l4 c1 c2 c3 c4 : Nat) (kd pl nn wa : Int) (q1 q2 : Option Addr) (m1 m2 k1 k2 : Nat) (ws : List Int) (bs : List Bool) (w : World) (h1 : m1 = ws.length) (h2 : m2 = bs.length) (s1 : SlI w q1 ws) (s2 : SlB w q2 bs) (hl1 : ws.length ≤ 2000000) (hl2 : bs.length ≤ 2000000) (hok : okR kd pl nn wa ws m1 m2 = true) (n1 : l1 ≤ 2000000) (n2 : l2 ≤ 2000000) (n3 : l3 ≤ 2000000) (n4 : l4 ≤ 2000000) (b : Bool) (hb : svAll l1 l2 l3 l4 kd pl nn wa m1 m2 = b) :
    Calls Try.prog 64 #[dv a1 a2 a3 a4 l1 l2 l3 l4 c1 c2 c3 c4, rq kd pl nn wa q1 q2 m1 m2 k1 k2] w fun e w' => e = .returned (.bool b) ∧ Below w.heap.size w w' := by
  have f := okR_f hok
  have hs0 : 0 ≤ spc0 kd ∧ spc0 kd < 4 := by unfold spc0; split <;> (try split) <;> (try split) <;> omega
  have hsN : 0 ≤ spcN kd nn m1 m2 ∧ spcN kd nn m1 m2 ≤ 2000000 := by unfold spcN; split <;> (try split) <;> (try split) <;> omega
  refine hasAll_any a1 a2 a3 a4 l1 l2 l3 l4 c1 c2 c3 c4 kd pl nn wa q1 q2 m1 m2 k1 k2 ws bs w h1 h2 s1 s2 hl1 hl2 (spc0 kd).toNat pl (spcN kd nn m1 m2) _ ?_ (by omega) f.1 hsN (fun h => by omega) n1 n2 n3 n4 rfl b hb
  rw [hok]
  unfold spcV
  rw [show ((spc0 kd).toNat : Int) = spc0 kd by omega]
  rfl
theorem svAll_le {l1 l2 l3 l4 : Nat} {kd pl nn wa : Int} {m1 m2 : Nat} (h : svAll l1 l2 l3 l4 kd pl nn wa m1 m2 = true) : pl + spcN kd nn m1 m2 ≤ [(l1 : Int), (l2 : Int), (l3 : Int), (l4 : Int)].getD (spc0 kd).toNat 0 ∧ (kd = 23 → wa + m1 ≤ (l3 : Int)) := by
  unfold svAll hsB at h
  split at h
  · exact absurd h (by decide)
  · rename_i hh
    refine ⟨of_decide_eq_true h, fun h23 => ?_⟩
    have : spc0 kd = 2 := by rw [h23]; rfl
    rw [this] at hh
    simp at hh
    have := hh h23
    omega
set_option maxRecDepth 20000 in
set_option maxHeartbeats 4000000 in
theorem serve_q (a1 a2 a3 a4 : Option Addr) (l1 l2 l3 l4 c1 c2 c3 c4 : Nat) (cs is : List Bool) (hs rs : List Int) (kd pl nn wa : Int) (q1 q2 : Option Addr) (m1 m2 k1 k2 : Nat) (ws : List Int) (bs : List Bool) (W0 w : World) (hB : Below W0.heap.size W0 w) (hD : OwnD w W0.heap.size a1 a2 a3 a4 l1 l2 l3 l4 c1 c2 c3 c4 cs is hs rs) (hn : m1 = ws.length) (hn2 : m2 = bs.length) (hq : SlI W0 q1 ws) (hq2 : SlB W0 q2 bs) (hl : ws.length ≤ 2000000) (hl2 : bs.length ≤ 2000000) (hsm : SmD 2000000 cs is hs rs) (V : SvR) (hV : svV l1 l2 l3 l4 cs is hs rs kd pl nn wa m1 m2 ws bs = V) :
    Calls Try.prog 31 #[dv a1 a2 a3 a4 l1 l2 l3 l4 c1 c2 c3 c4, rq kd pl nn wa q1 q2 m1 m2 k1 k2] w fun e w' => SV W0 w w' e a1 a2 a3 a4 l1 l2 l3 l4 c1 c2 c3 c4 V.cs is V.hs rs V.kd V.fl V.pl V.nn V.ws V.bs := by
  have hln := hD.sl.1
  have hlim : l1 ≤ 2000000 ∧ l2 ≤ 2000000 ∧ l3 ≤ 2000000 ∧ l4 ≤ 2000000 := by
    obtain ⟨e1, e2, e3, e4⟩ := hln
    obtain ⟨g1, g2, g3, g4⟩ := hsm
    omega
  cases hok : okR kd pl nn wa ws m1 m2
  · obtain rfl : V = ⟨cs, hs, 0, 0, 0, 0, [], []⟩ := by rw [← hV]; unfold svV; rw [if_pos hok]
    exact serve_no a1 a2 a3 a4 l1 l2 l3 l4 c1 c2 c3 c4 cs is hs rs kd pl nn wa q1 q2 m1 m2 k1 k2 ws bs W0 w hB hD hn hn2 hq hq2 hl hl2 hsm hok
  cases hd : okD l1 l2 l3 l4 hs rs
  · obtain rfl : V = ⟨cs, hs, kd, 4, 0, 0, [], []⟩ := by rw [← hV]; unfold svV; rw [hok, if_neg (by decide), if_pos hd]
    exact serve_dev a1 a2 a3 a4 l1 l2 l3 l4 c1 c2 c3 c4 cs is hs rs kd pl nn wa q1 q2 m1 m2 k1 k2 ws bs W0 w hB hD hn hn2 hq hq2 hl hl2 hsm hok hd
  cases ha : svAll l1 l2 l3 l4 kd pl nn wa m1 m2
  · obtain rfl : V = ⟨cs, hs, kd, 2, 0, 0, [], []⟩ := by rw [← hV]; unfold svV; rw [hok, if_neg (by decide), hd, if_neg (by decide), if_pos ha]
    exact serve_at a1 a2 a3 a4 l1 l2 l3 l4 c1 c2 c3 c4 cs is hs rs kd pl nn wa q1 q2 m1 m2 k1 k2 ws bs W0 w hB hD hn hn2 hq hq2 hl hl2 hsm hok hd (fun v s1 s2 => hasAll_q a1 a2 a3 a4 l1 l2 l3 l4 c1 c2 c3 c4 kd pl nn wa q1 q2 m1 m2 k1 k2 ws bs v hn hn2 s1 s2 hl hl2 hok hlim.1 hlim.2.1 hlim.2.2.1 hlim.2.2.2 false ha)
  have hVd : svDo cs is hs rs kd pl nn wa ws bs = V := by rw [← hV]; unfold svV; rw [hok, if_neg (by decide), hd, if_neg (by decide), ha, if_neg (by decide)]
  have hle := svAll_le ha
  have hA : ∀ v : World, SlI v q1 ws → SlB v q2 bs → Calls Try.prog 64 #[dv a1 a2 a3 a4 l1 l2 l3 l4 c1 c2 c3 c4, rq kd pl nn wa q1 q2 m1 m2 k1 k2] v fun e w' => e = .returned (.bool true) ∧ Below v.heap.size v w' := fun v s1 s2 => hasAll_q a1 a2 a3 a4 l1 l2 l3 l4 c1 c2 c3 c4 kd pl nn wa q1 q2 m1 m2 k1 k2 ws bs v hn hn2 s1 s2 hl hl2 hok hlim.1 hlim.2.1 hlim.2.2.1 hlim.2.2.2 true ha
  obtain ⟨⟨hp0, hp1⟩, hf⟩ := okR_f hok
  obtain ⟨k, rfl⟩ := Int.eq_ofNat_of_zero_le hp0
  clear hV ha
  rcases hf with h1 | h2 | h3 | h4 | h5 | h6 | h15 | h16 | h22 | h23
  · obtain ⟨rfl, hN1, hN2, hm1, hm2, rfl⟩ := h1
    obtain ⟨N, rfl⟩ := Int.eq_ofNat_of_zero_le (show 0 ≤ nn by omega)
    obtain rfl : V = ⟨cs, hs, 1, 0, 0, 0, [], tB8 cs k N⟩ := by rw [← hVd]; rfl
    have hle1 := hle.1
    have hle2 := hle.2
    simp [spc0, spcN] at hle1 hle2
    exact serve_1 a1 a2 a3 a4 l1 l2 l3 l4 c1 c2 c3 c4 cs is hs rs (k : Int) (N : Int) 0 q1 q2 m1 m2 k1 k2 ws bs W0 w hB hD hn hn2 hq hq2 hl hl2 hok hd hsm cs is hs rs ([]) (tB8 cs k N) 0 0 hA (fun v hv hDv => tellCoils_any a1 a2 a3 a4 l1 l2 l3 l4 c1 c2 c3 c4 cs is hs rs 1 0 k N q1 q2 m1 m2 k1 k2 W0 v hv hDv (by omega) (by omega) (by omega) (by omega))
  · obtain ⟨rfl, hN1, hN2, hm1, hm2, rfl⟩ := h2
    obtain ⟨N, rfl⟩ := Int.eq_ofNat_of_zero_le (show 0 ≤ nn by omega)
    obtain rfl : V = ⟨cs, hs, 2, 0, 0, 0, [], tB8 is k N⟩ := by rw [← hVd]; rfl
    have hle1 := hle.1
    have hle2 := hle.2
    simp [spc0, spcN] at hle1 hle2
    exact serve_2 a1 a2 a3 a4 l1 l2 l3 l4 c1 c2 c3 c4 cs is hs rs (k : Int) (N : Int) 0 q1 q2 m1 m2 k1 k2 ws bs W0 w hB hD hn hn2 hq hq2 hl hl2 hok hd hsm cs is hs rs ([]) (tB8 is k N) 0 0 hA (fun v hv hDv => tellInputs_any a1 a2 a3 a4 l1 l2 l3 l4 c1 c2 c3 c4 cs is hs rs 2 0 k N q1 q2 m1 m2 k1 k2 W0 v hv hDv (by omega) (by omega) (by omega) (by omega))
  · obtain ⟨rfl, hN1, hN2, hm1, hm2, rfl⟩ := h3
    obtain ⟨N, rfl⟩ := Int.eq_ofNat_of_zero_le (show 0 ≤ nn by omega)
    obtain rfl : V = ⟨cs, hs, 3, 0, 0, 0, (hs.drop k).take N, []⟩ := by rw [← hVd]; rfl
    have hle1 := hle.1
    have hle2 := hle.2
    simp [spc0, spcN] at hle1 hle2
    exact serve_3 a1 a2 a3 a4 l1 l2 l3 l4 c1 c2 c3 c4 cs is hs rs (k : Int) (N : Int) 0 q1 q2 m1 m2 k1 k2 ws bs W0 w hB hD hn hn2 hq hq2 hl hl2 hok hd hsm cs is hs rs ((hs.drop k).take N) ([]) 0 0 hA (fun v hv hDv => tellHolding_any a1 a2 a3 a4 l1 l2 l3 l4 c1 c2 c3 c4 cs is hs rs 3 0 k N q1 q2 m1 m2 k1 k2 W0 v hv hDv (by omega) (by omega) (by omega) (by omega))
  · obtain ⟨rfl, hN1, hN2, hm1, hm2, rfl⟩ := h4
    obtain ⟨N, rfl⟩ := Int.eq_ofNat_of_zero_le (show 0 ≤ nn by omega)
    obtain rfl : V = ⟨cs, hs, 4, 0, 0, 0, (rs.drop k).take N, []⟩ := by rw [← hVd]; rfl
    have hle1 := hle.1
    have hle2 := hle.2
    simp [spc0, spcN] at hle1 hle2
    exact serve_4 a1 a2 a3 a4 l1 l2 l3 l4 c1 c2 c3 c4 cs is hs rs (k : Int) (N : Int) 0 q1 q2 m1 m2 k1 k2 ws bs W0 w hB hD hn hn2 hq hq2 hl hl2 hok hd hsm cs is hs rs ((rs.drop k).take N) ([]) 0 0 hA (fun v hv hDv => tellWords_any a1 a2 a3 a4 l1 l2 l3 l4 c1 c2 c3 c4 cs is hs rs 4 0 k N q1 q2 m1 m2 k1 k2 W0 v hv hDv (by omega) (by omega) (by omega) (by omega))
  · obtain ⟨rfl, rfl, hm1, hm2, rfl⟩ := h5
    obtain rfl : V = ⟨cs.set k (bs.getD 0 false), hs, 5, 0, (k : Int), 0, [], bs⟩ := by rw [← hVd]; rfl
    have hle1 := hle.1
    have hle2 := hle.2
    simp [spc0, spcN] at hle1 hle2
    exact serve_5 a1 a2 a3 a4 l1 l2 l3 l4 c1 c2 c3 c4 cs is hs rs (k : Int) 0 0 q1 q2 m1 m2 k1 k2 ws bs W0 w hB hD hn hn2 hq hq2 hl hl2 hok hd hsm (cs.set k (bs.getD 0 false)) is hs rs [] bs (k : Int) 0 hA (fun v hv hDv => setCoil_any a1 a2 a3 a4 l1 l2 l3 l4 c1 c2 c3 c4 cs is hs rs 5 0 0 k q1 q2 m1 m2 k1 k2 ws bs W0 v hv hDv hn2 hq2 (by omega) (by omega) hl2 (by omega))
  · obtain ⟨rfl, rfl, hm1, hm2, rfl⟩ := h6
    obtain rfl : V = ⟨cs, hs.set k (ws.getD 0 0), 6, 0, (k : Int), 0, ws, []⟩ := by rw [← hVd]; rfl
    have hle1 := hle.1
    have hle2 := hle.2
    simp [spc0, spcN] at hle1 hle2
    exact serve_6 a1 a2 a3 a4 l1 l2 l3 l4 c1 c2 c3 c4 cs is hs rs (k : Int) 0 0 q1 q2 m1 m2 k1 k2 ws bs W0 w hB hD hn hn2 hq hq2 hl hl2 hok hd hsm cs is (hs.set k (ws.getD 0 0)) rs ws [] (k : Int) 0 hA (fun v hv hDv => setWord_any a1 a2 a3 a4 l1 l2 l3 l4 c1 c2 c3 c4 cs is hs rs 6 0 0 k q1 q2 m1 m2 k1 k2 ws bs W0 v hv hDv hn hq (by omega) hl (by omega) (by omega))
  · obtain ⟨rfl, rfl, hm1, hm2, hm3, rfl⟩ := h15
    obtain rfl : V = ⟨wr cs k bs, hs, 15, 0, (k : Int), bs.length, [], []⟩ := by rw [← hVd]; rfl
    have hle1 := hle.1
    have hle2 := hle.2
    simp [spc0, spcN] at hle1 hle2
    have hmi : (m2 : Int) = bs.length := by rw [← hn2]
    exact serve_15 a1 a2 a3 a4 l1 l2 l3 l4 c1 c2 c3 c4 cs is hs rs (k : Int) 0 0 q1 q2 m1 m2 k1 k2 ws bs W0 w hB hD hn hn2 hq hq2 hl hl2 hok hd hsm (wr cs k bs) is hs rs [] [] (k : Int) (bs.length : Int) hA (fun v hv hDv => (hn2 ▸ setCoils_any a1 a2 a3 a4 l1 l2 l3 l4 c1 c2 c3 c4 cs is hs rs 15 0 0 k q1 q2 m1 m2 k1 k2 ws bs W0 v hv hDv hn2 hq2 (by omega) (by omega) (by omega) (by omega)))
  · obtain ⟨rfl, rfl, hm2, hm1, hm3, rfl⟩ := h16
    obtain rfl : V = ⟨cs, wr hs k ws, 16, 0, (k : Int), ws.length, [], []⟩ := by rw [← hVd]; rfl
    have hle1 := hle.1
    have hle2 := hle.2
    simp [spc0, spcN] at hle1 hle2
    have hmi : (m1 : Int) = ws.length := by rw [← hn]
    exact serve_16 a1 a2 a3 a4 l1 l2 l3 l4 c1 c2 c3 c4 cs is hs rs (k : Int) 0 0 q1 q2 m1 m2 k1 k2 ws bs W0 w hB hD hn hn2 hq hq2 hl hl2 hok hd hsm cs is (wr hs k ws) rs [] [] (k : Int) (ws.length : Int) hA (fun v hv hDv => (hn ▸ setWords_any a1 a2 a3 a4 l1 l2 l3 l4 c1 c2 c3 c4 cs is hs rs 16 0 0 k q1 q2 m1 m2 k1 k2 ws bs W0 v hv hDv hn hq (by omega) (by omega) (by omega) (by omega)))
  · obtain ⟨rfl, rfl, hm1, hm2, rfl⟩ := h22
    obtain rfl : V = ⟨cs, hs.set k (mskI (hs.getD k 0) (ws.getD 0 0) (ws.getD 1 0)), 22, 0, (k : Int), 0, ws, []⟩ := by rw [← hVd]; rfl
    have hle1 := hle.1
    have hle2 := hle.2
    simp [spc0, spcN] at hle1 hle2
    exact serve_22 a1 a2 a3 a4 l1 l2 l3 l4 c1 c2 c3 c4 cs is hs rs (k : Int) 0 0 q1 q2 m1 m2 k1 k2 ws bs W0 w hB hD hn hn2 hq hq2 hl hl2 hok hd hsm cs is (hs.set k (mskI (hs.getD k 0) (ws.getD 0 0) (ws.getD 1 0))) rs ws [] (k : Int) 0 hA (fun v hv hDv => maskWord_any a1 a2 a3 a4 l1 l2 l3 l4 c1 c2 c3 c4 cs is hs rs 22 0 0 k q1 q2 m1 m2 k1 k2 ws bs W0 v hv hDv hn hq (by omega) hl (by omega) (by omega))
  · obtain ⟨rfl, hN1, hN2, hm2, hm1, hm3, hw1, hw2⟩ := h23
    obtain ⟨N, rfl⟩ := Int.eq_ofNat_of_zero_le (show 0 ≤ nn by omega)
    obtain ⟨j, rfl⟩ := Int.eq_ofNat_of_zero_le hw1
    obtain rfl : V = ⟨cs, wr hs j ws, 23, 0, 0, 0, ((wr hs j ws).drop k).take N, []⟩ := by rw [← hVd]; rfl
    have hle1 := hle.1
    have hle2 := hle.2
    simp [spc0, spcN] at hle1 hle2
    exact serve_23 a1 a2 a3 a4 l1 l2 l3 l4 c1 c2 c3 c4 cs is hs rs (k : Int) (N : Int) (j : Int) q1 q2 m1 m2 k1 k2 ws bs W0 w hB hD hn hn2 hq hq2 hl hl2 hok hd hsm cs is (wr hs j ws) rs (((wr hs j ws).drop k).take N) [] 0 0 hA (fun v hv hDv => setAndTell_any a1 a2 a3 a4 l1 l2 l3 l4 c1 c2 c3 c4 cs is hs rs 23 0 0 k q1 q2 m1 m2 k1 k2 ws bs W0 v hv hDv N j hn hq (by omega) (by omega) (by omega) (by omega) (by omega) (by omega) (by omega))
end Go.Proofs.Ytfdddkjonjpgpaa
namespace Go.Proofs.Ytfdddkjonjpgpaa
open Go.RowKit
set_option linter.unusedVariables false
set_option linter.unusedSimpArgs false
theorem app0B (w : World) (g B : Nat) (a : Option Addr) (n c : Nat) (xs : List Bool) (hn : n = xs.length) (hs : SlB w a xs) (hl : xs.length ≤ 2000000) (hB : B ≤ g) (hg : OwnB w B (.slice (some ⟨g, 0, none⟩) 0 0) []) :
    ∃ v w', (Builtin.append_ #[24, 24] 24 #[.slice (some ⟨g, 0, none⟩) 0 0, .slice a n c]).run Try.prog w = .ok v w' ∧ OwnB w' B v xs ∧ Below w.heap.size w w' ∧ (v = .slice (some ⟨g, 0, none⟩) 0 0 ∨ v.ownBlock = some w.heap.size) ∧ ∃ a' c', v = .slice a' n c' := by
  obtain ⟨i0, hi, hz0, hz1, hz2⟩ := info_parts Try.info4
  rcases Nat.eq_zero_or_pos xs.length with h0 | hp
  · have ex : xs = [] := List.eq_nil_of_length_eq_zero h0
    subst ex
    subst hn
    refine ⟨_, w, run_append_nothing w 24 24 24 4 i0 Try.underlying24 hi (some ⟨g, 0, none⟩) 0 0 (Nat.le_refl _) _ ?_, hg, Below.refl _ _, .inl rfl, _, _, rfl⟩
    cases a with
    | none => exact Src.ofNil w Try.underlying24 c
    | some ad => exact Src.ofSlice w Try.underlying24 ad 0 c [] (by simp) (fun j u hj => by simp at hj) (fun u hu => by simp at hu)
  · subst hn
    rcases hs with e | ⟨b, off, rfl, hb, hc⟩
    · subst e; simp at hp
    · have hr := run_append_grow (P := Try.prog) w 24 24 4 i0 (.bool false) Try.underlying24 hi hz0 ⟨g, 0, none⟩ 0 0 [] (by simp) (fun j v h => by simp at h) ⟨b, off, none⟩ xs.length c (xs.map Value.bool) (by simp [hz1]) (slB_at (.inr ⟨b, off, rfl, hb, hc⟩)) (by omega) (by omega) (growslice_fits (by omega) (by rw [hz2]; omega))
      have hG0 := grownCap_ge w (0 + xs.length) 0 4
      have hG1 := grownCap_le_maxLen w (0 + xs.length) 0 4 (by unfold maxLen; omega)
      generalize grownCap w (0 + xs.length) 0 4 = G at *
      rw [Nat.zero_add] at hr hG0
      refine ⟨_, _, hr, ⟨by simp, .inr ⟨w.heap.size, G, _, rfl, ?_, Blk.new w.drew _ 4, hG0, hG1, ?_, ?_⟩⟩, bel_next (Below.refl _ _).drew (bel_alloc _ _), .inr rfl, _, _, rfl⟩
      · have := (World.ownsRow.lt hg g rfl).2; omega
      · simp [Builtin.zeroCells, Value.cells]; omega
      · simp [Builtin.zeroCells]
theorem step_app0B {ops : Array Oper} {o : Oper} {act : Act} {w : World} {K : Act → World → Prop} {Q : Exit → Act → World → Prop} {E : Prop} (hgd : o.guard = none) (s x : Operand)
    (ho : o.op = .call { callee := .builtin .append, args := #[s, x], argTypes := #[24, 24] }) (hty : o.type = 24) (g B : Nat) (a : Option Addr) (n c : Nat) (xs : List Bool) (hs' : act.eval s = .slice (some ⟨g, 0, none⟩) 0 0) (hx : act.eval x = .slice a n c)
    (hn : n = xs.length) (hs : SlB w a xs) (hl : xs.length ≤ 2000000) (hB : B ≤ g) (hg : OwnB w B (.slice (some ⟨g, 0, none⟩) 0 0) [])
    (h : ∀ v w', OwnB w' B v xs → Below w.heap.size w w' → (v = .slice (some ⟨g, 0, none⟩) 0 0 ∨ v.ownBlock = some w.heap.size) → (∃ a' c', v = .slice a' n c') → K (act.put o.dst v) w') : if Region.wanted o (yielded ops act.tmps) = true then Oper.wp Try.prog o act w K Q else E := by
  have hw : Region.wanted o (yielded ops act.tmps) = true := by simp [Region.wanted, hgd]
  rw [if_pos hw]
  obtain ⟨v, w', hr, h1, h2, h3, h4⟩ := app0B w g B a n c xs hn hs hl hB hg
  unfold Oper.wp
  simp [execOp, ho, resolve, invoke, builtin, hs', hx, hty, hr, Result.andThen]
  exact h v w' h1 h2 h3 h4
theorem app0I (w : World) (g B : Nat) (a : Option Addr) (n c : Nat) (xs : List Int) (hn : n = xs.length) (hs : SlI w a xs) (hl : xs.length ≤ 2000000) (hB : B ≤ g) (hg : OwnI w B (.slice (some ⟨g, 0, none⟩) 0 0) []) :
    ∃ v w', (Builtin.append_ #[25, 25] 25 #[.slice (some ⟨g, 0, none⟩) 0 0, .slice a n c]).run Try.prog w = .ok v w' ∧ OwnI w' B v xs ∧ Below w.heap.size w w' ∧ (v = .slice (some ⟨g, 0, none⟩) 0 0 ∨ v.ownBlock = some w.heap.size) ∧ ∃ a' c', v = .slice a' n c' := by
  obtain ⟨i0, hi, hz0, hz1, hz2⟩ := info_parts Try.infoI3
  rcases Nat.eq_zero_or_pos xs.length with h0 | hp
  · have ex : xs = [] := List.eq_nil_of_length_eq_zero h0
    subst ex
    subst hn
    refine ⟨_, w, run_append_nothing w 25 25 25 3 i0 Try.underlying25 hi (some ⟨g, 0, none⟩) 0 0 (Nat.le_refl _) _ ?_, hg, Below.refl _ _, .inl rfl, _, _, rfl⟩
    cases a with
    | none => exact Src.ofNil w Try.underlying25 c
    | some ad => exact Src.ofSlice w Try.underlying25 ad 0 c [] (by simp) (fun j u hj => by simp at hj) (fun u hu => by simp at hu)
  · subst hn
    rcases hs with e | ⟨b, off, rfl, hb, hc⟩
    · subst e; simp at hp
    · have hr := run_append_grow (P := Try.prog) w 25 25 3 i0 (.int .i64 0) Try.underlying25 hi hz0 ⟨g, 0, none⟩ 0 0 [] (by simp) (fun j v h => by simp at h) ⟨b, off, none⟩ xs.length c (xs.map (Value.int .i64)) (by simp [hz1]) (slI_at (.inr ⟨b, off, rfl, hb, hc⟩)) (by omega) (by omega) (growslice_fits (by omega) (by rw [hz2]; omega))
      have hG0 := grownCap_ge w (0 + xs.length) 0 3
      have hG1 := grownCap_le_maxLen w (0 + xs.length) 0 3 (by unfold maxLen; omega)
      generalize grownCap w (0 + xs.length) 0 3 = G at *
      rw [Nat.zero_add] at hr hG0
      refine ⟨_, _, hr, ⟨by simp, .inr ⟨w.heap.size, G, _, rfl, ?_, Blk.new w.drew _ 3, hG0, hG1, ?_, ?_⟩⟩, bel_next (Below.refl _ _).drew (bel_alloc _ _), .inr rfl, _, _, rfl⟩
      · have := (World.ownsRow.lt hg g rfl).2; omega
      · simp [Builtin.zeroCells, Value.cells]; omega
      · simp [Builtin.zeroCells]
theorem step_app0I {ops : Array Oper} {o : Oper} {act : Act} {w : World} {K : Act → World → Prop} {Q : Exit → Act → World → Prop} {E : Prop} (hgd : o.guard = none) (s x : Operand)
    (ho : o.op = .call { callee := .builtin .append, args := #[s, x], argTypes := #[25, 25] }) (hty : o.type = 25) (g B : Nat) (a : Option Addr) (n c : Nat) (xs : List Int) (hs' : act.eval s = .slice (some ⟨g, 0, none⟩) 0 0) (hx : act.eval x = .slice a n c)
    (hn : n = xs.length) (hs : SlI w a xs) (hl : xs.length ≤ 2000000) (hB : B ≤ g) (hg : OwnI w B (.slice (some ⟨g, 0, none⟩) 0 0) [])
    (h : ∀ v w', OwnI w' B v xs → Below w.heap.size w w' → (v = .slice (some ⟨g, 0, none⟩) 0 0 ∨ v.ownBlock = some w.heap.size) → (∃ a' c', v = .slice a' n c') → K (act.put o.dst v) w') : if Region.wanted o (yielded ops act.tmps) = true then Oper.wp Try.prog o act w K Q else E := by
  have hw : Region.wanted o (yielded ops act.tmps) = true := by simp [Region.wanted, hgd]
  rw [if_pos hw]
  obtain ⟨v, w', hr, h1, h2, h3, h4⟩ := app0I w g B a n c xs hn hs hl hB hg
  unfold Oper.wp
  simp [execOp, ho, resolve, invoke, builtin, hs', hx, hty, hr, Result.andThen]
  exact h v w' h1 h2 h3 h4
end Go.Proofs.Ytfdddkjonjpgpaa
namespace Go.Proofs.Ytfdddkjonjpgpaa
open Go.RowKit
set_option linter.unusedVariables false
set_option linter.unusedSimpArgs false
theorem Df.fresh {w : World} {B s n : Nat} {e : TypeId} {v u : Value} {xs : List Value} (hv : v.ownBlock = some w.heap.size) (hu : w.ownsRow B e s u n xs) : Df v u := by
  rcases h : u.ownBlock with _ | k
  · exact .inr (.inl h)
  · refine .inr (.inr ?_)
    rw [hv, h]
    have := (World.ownsRow.lt hu k h).2
    simp; omega
structure CI (w : World) (a1 a2 a3 a4 : Option Addr) (l1 l2 l3 l4 c1 c2 c3 c4 : Nat) (cs is : List Bool) (hs rs : List Int) (b0 b1 b2 b3 b4 b5 b6 b7 b8 b9 b10 b11 b12 b13 b14 b15 b16 b17 : Bool) (t3 t4 t5 t6 t7 t8 t9 t10 t11 t12 t13 t14 t15 t16 t17 t18 t19 : Value) (u : World) : Prop where
  f0 : b0 = true → ∃ g, t3 = .slice (some ⟨g, 0, none⟩) 0 0 ∧ w.heap.size ≤ g ∧ OwnB u w.heap.size t3 []
  f1 : b1 = true → t4 = .pointer (some ⟨w.heap.size, 0, none⟩)
  f2 : b2 = true → t5 = .slice a1 l1 c1
  f3 : b3 = true → (∃ a' c', t6 = .slice a' l1 c') ∧ OwnB u w.heap.size t6 cs
  f4 : b4 = true → ∃ g, t7 = .slice (some ⟨g, 0, none⟩) 0 0 ∧ w.heap.size ≤ g ∧ OwnB u w.heap.size t7 []
  f5 : b5 = true → t8 = .pointer (some ⟨w.heap.size, 1, none⟩)
  f6 : b6 = true → t9 = .slice a2 l2 c2
  f7 : b7 = true → (∃ a' c', t10 = .slice a' l2 c') ∧ OwnB u w.heap.size t10 is
  f8 : b8 = true → ∃ g, t11 = .slice (some ⟨g, 0, none⟩) 0 0 ∧ w.heap.size ≤ g ∧ OwnI u w.heap.size t11 []
  f9 : b9 = true → t12 = .pointer (some ⟨w.heap.size, 2, none⟩)
  f10 : b10 = true → t13 = .slice a3 l3 c3
  f11 : b11 = true → (∃ a' c', t14 = .slice a' l3 c') ∧ OwnI u w.heap.size t14 hs
  f12 : b12 = true → ∃ g, t15 = .slice (some ⟨g, 0, none⟩) 0 0 ∧ w.heap.size ≤ g ∧ OwnI u w.heap.size t15 []
  f13 : b13 = true → t16 = .pointer (some ⟨w.heap.size, 3, none⟩)
  f14 : b14 = true → t17 = .slice a4 l4 c4
  f15 : b15 = true → (∃ a' c', t18 = .slice a' l4 c') ∧ OwnI u w.heap.size t18 rs
  f16 : b16 = true → t19 = .agg #[t6, t10, t14, t18]
  g16 : b16 = true → b3 = true ∧ b7 = true ∧ b11 = true ∧ b15 = true
  g17 : b17 = true → b16 = true
  f17 : b17 = true → Blk u (w.heap.size + 1) 27 #[t6, t10, t14, t18]
  z17 : b17 = false → Blk u (w.heap.size + 1) 27 #[.slice none 0 0, .slice none 0 0, .slice none 0 0, .slice none 0 0]
  d0_4 : b0 = true → b4 = true → Df t3 t7
  d0_7 : b0 = true → b7 = true → Df t3 t10
  d3_4 : b3 = true → b4 = true → Df t6 t7
  d3_7 : b3 = true → b7 = true → Df t6 t10
  d8_12 : b8 = true → b12 = true → Df t11 t15
  d8_15 : b8 = true → b15 = true → Df t11 t18
  d11_12 : b11 = true → b12 = true → Df t14 t15
  d11_15 : b11 = true → b15 = true → Df t14 t18
  bx : Blk u w.heap.size 27 #[.slice a1 l1 c1, .slice a2 l2 c2, .slice a3 l3 c3, .slice a4 l4 c4]
  bel : Below w.heap.size w u
theorem CI.below {w : World} {a1 a2 a3 a4 : Option Addr} {l1 l2 l3 l4 c1 c2 c3 c4 : Nat} {cs is : List Bool} {hs rs : List Int} {b0 b1 b2 b3 b4 b5 b6 b7 b8 b9 b10 b11 b12 b13 b14 b15 b16 b17 : Bool} {t3 t4 t5 t6 t7 t8 t9 t10 t11 t12 t13 t14 t15 t16 t17 t18 t19 : Value} {u u' : World} (F : CI w a1 a2 a3 a4 l1 l2 l3 l4 c1 c2 c3 c4 cs is hs rs b0 b1 b2 b3 b4 b5 b6 b7 b8 b9 b10 b11 b12 b13 b14 b15 b16 b17 t3 t4 t5 t6 t7 t8 t9 t10 t11 t12 t13 t14 t15 t16 t17 t18 t19 u) (hb : Below u.heap.size u u') : CI w a1 a2 a3 a4 l1 l2 l3 l4 c1 c2 c3 c4 cs is hs rs b0 b1 b2 b3 b4 b5 b6 b7 b8 b9 b10 b11 b12 b13 b14 b15 b16 b17 t3 t4 t5 t6 t7 t8 t9 t10 t11 t12 t13 t14 t15 t16 t17 t18 t19 u' where
  f0 := fun h => by obtain ⟨g, e, h1, o⟩ := F.f0 h; exact ⟨g, e, h1, o.below hb⟩
  f1 := F.f1
  f2 := F.f2
  f3 := fun h => ⟨(F.f3 h).1, (F.f3 h).2.below hb⟩
  f4 := fun h => by obtain ⟨g, e, h1, o⟩ := F.f4 h; exact ⟨g, e, h1, o.below hb⟩
  f5 := F.f5
  f6 := F.f6
  f7 := fun h => ⟨(F.f7 h).1, (F.f7 h).2.below hb⟩
  f8 := fun h => by obtain ⟨g, e, h1, o⟩ := F.f8 h; exact ⟨g, e, h1, o.below hb⟩
  f9 := F.f9
  f10 := F.f10
  f11 := fun h => ⟨(F.f11 h).1, (F.f11 h).2.below hb⟩
  f12 := fun h => by obtain ⟨g, e, h1, o⟩ := F.f12 h; exact ⟨g, e, h1, o.below hb⟩
  f13 := F.f13
  f14 := F.f14
  f15 := fun h => ⟨(F.f15 h).1, (F.f15 h).2.below hb⟩
  f16 := F.f16
  g16 := F.g16
  g17 := F.g17
  f17 := fun h => (F.f17 h).below hb
  z17 := fun h => (F.z17 h).below hb
  d0_4 := F.d0_4
  d0_7 := F.d0_7
  d3_4 := F.d3_4
  d3_7 := F.d3_7
  d8_12 := F.d8_12
  d8_15 := F.d8_15
  d11_12 := F.d11_12
  d11_15 := F.d11_15
  bx := F.bx.below hb
  bel := bel_next F.bel hb
def CInv (w : World) (a1 a2 a3 a4 : Option Addr) (l1 l2 l3 l4 c1 c2 c3 c4 : Nat) (cs is : List Bool) (hs rs : List Int) (l : Array Bool) (act : Act) (u : World) : Prop :=
  ∃ b0 b1 b2 b3 b4 b5 b6 b7 b8 b9 b10 b11 b12 b13 b14 b15 b16 b17 : Bool, l = #[b0, b1, b2, b3, b4, b5, b6, b7, b8, b9, b10, b11, b12, b13, b14, b15, b16, b17] ∧ ∃ t3 t4 t5 t6 t7 t8 t9 t10 t11 t12 t13 t14 t15 t16 t17 t18 t19 : Value, act = { tmps := #[dv a1 a2 a3 a4 l1 l2 l3 l4 c1 c2 c3 c4, .pointer (some ⟨w.heap.size, 0, none⟩), .pointer (some ⟨w.heap.size + 1, 0, none⟩), t3, t4, t5, t6, t7, t8, t9, t10, t11, t12, t13, t14, t15, t16, t17, t18, t19], defers := [] } ∧ CI w a1 a2 a3 a4 l1 l2 l3 l4 c1 c2 c3 c4 cs is hs rs b0 b1 b2 b3 b4 b5 b6 b7 b8 b9 b10 b11 b12 b13 b14 b15 b16 b17 t3 t4 t5 t6 t7 t8 t9 t10 t11 t12 t13 t14 t15 t16 t17 t18 t19 u
set_option maxRecDepth 20000 in
set_option maxHeartbeats 4000000 in
theorem l5Copy_any (a1 a2 a3 a4 : Option Addr) (l1 l2 l3 l4 c1 c2 c3 c4 : Nat) (cs is : List Bool) (hs rs : List Int) (w : World) (hn : LnD l1 l2 l3 l4 cs is hs rs) (hs0 : SlD w a1 a2 a3 a4 cs is hs rs) (hsm : SmD 2000000 cs is hs rs) :
    Calls Try.prog 41 #[dv a1 a2 a3 a4 l1 l2 l3 l4 c1 c2 c3 c4] w fun e w' => ∃ x1 x2 x3 x4 d1 d2 d3 d4, e = .returned (dv x1 x2 x3 x4 l1 l2 l3 l4 d1 d2 d3 d4) ∧ OwnD w' w.heap.size x1 x2 x3 x4 l1 l2 l3 l4 d1 d2 d3 d4 cs is hs rs ∧ Below w.heap.size w w' := by
  obtain ⟨z, hz⟩ : ∃ z, z = (w.alloc (.cells #[.slice a1 l1 c1, .slice a2 l2 c2, .slice a3 l3 c3, .slice a4 l4 c4] 27)).alloc (.cells #[.slice none 0 0, .slice none 0 0, .slice none 0 0, .slice none 0 0] 27) := ⟨_, rfl⟩
  have HZ : Hid (z = _) := hz
  have b0 : Below w.heap.size w z := by rw [hz]; exact bel_next (bel_alloc w _) (bel_alloc _ _)
  have X0 : Blk z w.heap.size 27 #[.slice a1 l1 c1, .slice a2 l2 c2, .slice a3 l3 c3, .slice a4 l4 c4] := by rw [hz]; exact (Blk.new w _ _).below (bel_alloc _ _)
  have R0 : Blk z (w.heap.size + 1) 27 #[.slice none 0 0, .slice none 0 0, .slice none 0 0, .slice none 0 0] := by rw [hz]; have := Blk.new (w.alloc (.cells #[.slice a1 l1 c1, .slice a2 l2 c2, .slice a3 l3 c3, .slice a4 l4 c4] 27)) #[.slice none 0 0, .slice none 0 0, .slice none 0 0, .slice none 0 0] 27; simpa using this
  have HN : Hid (LnD l1 l2 l3 l4 cs is hs rs ∧ SlD w a1 a2 a3 a4 cs is hs rs ∧ SmD 2000000 cs is hs rs) := ⟨hn, hs0, hsm⟩
  clear hz hn hs0 hsm
  go_enter Try.func41, Try.ntmps41
  go_upto_region 1 with fail
  rw [← HZ.out]
  refine wp_region_any (by kernel_rfl) ?_
  refine wpAny_inv (CInv w a1 a2 a3 a4 l1 l2 l3 l4 c1 c2 c3 c4 cs is hs rs) ?_ ?_ ?_ _ _ _ _ rfl (by decide) ?_
  · kernel_rfl
  · rintro l act u ⟨b0, b1, b2, b3, b4, b5, b6, b7, b8, b9, b10, b11, b12, b13, b14, b15, b16, b17, rfl, t3, t4, t5, t6, t7, t8, t9, t10, t11, t12, t13, t14, t15, t16, t17, t18, t19, rfl, F⟩ hall
    obtain rfl : b0 = true := hall 0 (by simp)
    obtain rfl : b1 = true := hall 1 (by simp)
    obtain rfl : b2 = true := hall 2 (by simp)
    obtain rfl : b3 = true := hall 3 (by simp)
    obtain rfl : b4 = true := hall 4 (by simp)
    obtain rfl : b5 = true := hall 5 (by simp)
    obtain rfl : b6 = true := hall 6 (by simp)
    obtain rfl : b7 = true := hall 7 (by simp)
    obtain rfl : b8 = true := hall 8 (by simp)
    obtain rfl : b9 = true := hall 9 (by simp)
    obtain rfl : b10 = true := hall 10 (by simp)
    obtain rfl : b11 = true := hall 11 (by simp)
    obtain rfl : b12 = true := hall 12 (by simp)
    obtain rfl : b13 = true := hall 13 (by simp)
    obtain rfl : b14 = true := hall 14 (by simp)
    obtain rfl : b15 = true := hall 15 (by simp)
    obtain rfl : b16 = true := hall 16 (by simp)
    obtain rfl : b17 = true := hall 17 (by simp)
    obtain ⟨⟨x1, d1, rfl⟩, o1⟩ := F.f3 rfl
    obtain ⟨⟨x2, d2, rfl⟩, o2⟩ := F.f7 rfl
    obtain ⟨⟨x3, d3, rfl⟩, o3⟩ := F.f11 rfl
    obtain ⟨⟨x4, d4, rfl⟩, o4⟩ := F.f15 rfl
    have R := F.f17 rfl
    have hB := F.bel
    have D1 := F.d3_7 rfl rfl
    have D2 := F.d11_15 rfl rfl
    obtain ⟨s0, s1, s2, s3⟩ := R.four
    clear F
    go_wp2
    refine bodyPost_ret (v := dv x1 x2 x3 x4 l1 l2 l3 l4 d1 d2 d3 d4) (by simp [results, Try.results41, go_sem, s0, s1, s2, s3]) rfl ?_
    exact ⟨_, _, _, _, _, _, _, _, rfl, ⟨o1, o2, o3, o4, D1, D2⟩, hB⟩
  · rintro l act u i o ⟨b0, b1, b2, b3, b4, b5, b6, b7, b8, b9, b10, b11, b12, b13, b14, b15, b16, b17, rfl, t3, t4, t5, t6, t7, t8, t9, t10, t11, t12, t13, t14, t15, t16, t17, t18, t19, rfl, F⟩ ho hl hd K hK
    have hi : i < 18 := by
      have := (Array.getElem?_eq_some_iff.1 ho).1
      simpa using this
    have hX := F.bx
    obtain ⟨x0, x1, x2, x3⟩ := hX.four
    obtain rfl | rfl | rfl | rfl | rfl | rfl | rfl | rfl | rfl | rfl | rfl | rfl | rfl | rfl | rfl | rfl | rfl | rfl : i = 0 ∨ i = 1 ∨ i = 2 ∨ i = 3 ∨ i = 4 ∨ i = 5 ∨ i = 6 ∨ i = 7 ∨ i = 8 ∨ i = 9 ∨ i = 10 ∨ i = 11 ∨ i = 12 ∨ i = 13 ∨ i = 14 ∨ i = 15 ∨ i = 16 ∨ i = 17 := by omega
    all_goals (injection ho with ho; subst ho)
    · -- 0
      have hb := bel_alloc u (.cells #[] 4)
      have G := F.below hb
      have ol : OwnB (u.alloc (.cells #[] 4)) w.heap.size (.slice (some ⟨u.heap.size, 0, none⟩) 0 0) [] := ⟨rfl, .inr ⟨u.heap.size, 0, #[], rfl, F.bel.size, Blk.new u #[] 4, by simp, by simp, rfl, rfl⟩⟩
      go_simp
      refine hK _ _ ?_
      exact ⟨true, b1, b2, b3, b4, b5, b6, b7, b8, b9, b10, b11, b12, b13, b14, b15, b16, b17, rfl, _, _, _, _, _, _, _, _, _, _, _, _, _, _, _, _, _, rfl, { f0 := fun _ => ⟨_, rfl, F.bel.size, ol⟩, f1 := G.f1, f2 := G.f2, f3 := G.f3, f4 := G.f4, f5 := G.f5, f6 := G.f6, f7 := G.f7, f8 := G.f8, f9 := G.f9, f10 := G.f10, f11 := G.f11, f12 := G.f12, f13 := G.f13, f14 := G.f14, f15 := G.f15, f16 := G.f16, g16 := G.g16, g17 := G.g17, f17 := G.f17, z17 := G.z17, d0_4 := fun _ h => Df.fresh rfl (by obtain ⟨g, e, _, o⟩ := F.f4 h; exact o), d0_7 := fun _ h => Df.fresh rfl (F.f7 h).2, d3_4 := G.d3_4, d3_7 := G.d3_7, d8_12 := G.d8_12, d8_15 := G.d8_15, d11_12 := G.d11_12, d11_15 := G.d11_15, bx := G.bx, bel := G.bel }⟩
    · -- 1
      go_simp
      refine hK _ _ ?_
      exact ⟨b0, true, b2, b3, b4, b5, b6, b7, b8, b9, b10, b11, b12, b13, b14, b15, b16, b17, rfl, _, _, _, _, _, _, _, _, _, _, _, _, _, _, _, _, _, rfl, { f0 := F.f0, f1 := fun _ => rfl, f2 := F.f2, f3 := F.f3, f4 := F.f4, f5 := F.f5, f6 := F.f6, f7 := F.f7, f8 := F.f8, f9 := F.f9, f10 := F.f10, f11 := F.f11, f12 := F.f12, f13 := F.f13, f14 := F.f14, f15 := F.f15, f16 := F.f16, g16 := F.g16, g17 := F.g17, f17 := F.f17, z17 := F.z17, d0_4 := F.d0_4, d0_7 := F.d0_7, d3_4 := F.d3_4, d3_7 := F.d3_7, d8_12 := F.d8_12, d8_15 := F.d8_15, d11_12 := F.d11_12, d11_15 := F.d11_15, bx := F.bx, bel := F.bel }⟩
    · -- 2
      obtain rfl := F.f1 (hd ⟨1, .data⟩ (by simp) rfl)
      go_simp
      refine hK _ _ ?_
      exact ⟨b0, b1, true, b3, b4, b5, b6, b7, b8, b9, b10, b11, b12, b13, b14, b15, b16, b17, rfl, _, _, _, _, _, _, _, _, _, _, _, _, _, _, _, _, _, rfl, { f0 := F.f0, f1 := F.f1, f2 := fun _ => rfl, f3 := F.f3, f4 := F.f4, f5 := F.f5, f6 := F.f6, f7 := F.f7, f8 := F.f8, f9 := F.f9, f10 := F.f10, f11 := F.f11, f12 := F.f12, f13 := F.f13, f14 := F.f14, f15 := F.f15, f16 := F.f16, g16 := F.g16, g17 := F.g17, f17 := F.f17, z17 := F.z17, d0_4 := F.d0_4, d0_7 := F.d0_7, d3_4 := F.d3_4, d3_7 := F.d3_7, d8_12 := F.d8_12, d8_15 := F.d8_15, d11_12 := F.d11_12, d11_15 := F.d11_15, bx := F.bx, bel := F.bel }⟩
    · -- 3
      have hbl : b0 = true := hd ⟨0, .data⟩ (by simp) rfl
      have hself : b3 = false := hl
      have nb16 : b16 = false := by cases hx : b16; rfl; have := (F.g16 hx).1; rw [hself] at this; exact absurd this (by decide)
      obtain ⟨g, rfl, hg, og⟩ := F.f0 hbl
      obtain rfl := F.f2 (hd ⟨2, .data⟩ (by simp) rfl)
      refine step_app0B rfl (.tmp 3) (.tmp 5) rfl rfl g w.heap.size a1 l1 c1 cs rfl rfl HN.out.1.1 (HN.out.2.1.1.below F.bel) HN.out.2.2.1 hg og ?_
      intro v u' ov hb hv hsh
      have G := F.below hb
      refine hK _ _ ?_
      exact ⟨b0, b1, b2, true, b4, b5, b6, b7, b8, b9, b10, b11, b12, b13, b14, b15, b16, b17, rfl, _, _, _, _, _, _, _, _, _, _, _, _, _, _, _, _, _, rfl, { f0 := G.f0, f1 := G.f1, f2 := G.f2, f3 := fun _ => ⟨hsh, ov⟩, f4 := G.f4, f5 := G.f5, f6 := G.f6, f7 := G.f7, f8 := G.f8, f9 := G.f9, f10 := G.f10, f11 := G.f11, f12 := G.f12, f13 := G.f13, f14 := G.f14, f15 := G.f15, f16 := fun h => by rw [nb16] at h; exact absurd h (by decide), g16 := fun h => by rw [nb16] at h; exact absurd h (by decide), g17 := G.g17, f17 := fun h => by have := F.g17 h; rw [nb16] at this; exact absurd this (by decide), z17 := G.z17, d0_4 := G.d0_4, d0_7 := G.d0_7, d3_4 := fun _ h => by rcases hv with rfl | hv; exact F.d0_4 hbl h; exact Df.fresh hv (by obtain ⟨g, e, _, o⟩ := F.f4 h; exact o), d3_7 := fun _ h => by rcases hv with rfl | hv; exact F.d0_7 hbl h; exact Df.fresh hv (F.f7 h).2, d8_12 := G.d8_12, d8_15 := G.d8_15, d11_12 := G.d11_12, d11_15 := G.d11_15, bx := G.bx, bel := G.bel }⟩
    · -- 4
      have hb := bel_alloc u (.cells #[] 4)
      have G := F.below hb
      have ol : OwnB (u.alloc (.cells #[] 4)) w.heap.size (.slice (some ⟨u.heap.size, 0, none⟩) 0 0) [] := ⟨rfl, .inr ⟨u.heap.size, 0, #[], rfl, F.bel.size, Blk.new u #[] 4, by simp, by simp, rfl, rfl⟩⟩
      go_simp
      refine hK _ _ ?_
      exact ⟨b0, b1, b2, b3, true, b5, b6, b7, b8, b9, b10, b11, b12, b13, b14, b15, b16, b17, rfl, _, _, _, _, _, _, _, _, _, _, _, _, _, _, _, _, _, rfl, { f0 := G.f0, f1 := G.f1, f2 := G.f2, f3 := G.f3, f4 := fun _ => ⟨_, rfl, F.bel.size, ol⟩, f5 := G.f5, f6 := G.f6, f7 := G.f7, f8 := G.f8, f9 := G.f9, f10 := G.f10, f11 := G.f11, f12 := G.f12, f13 := G.f13, f14 := G.f14, f15 := G.f15, f16 := G.f16, g16 := G.g16, g17 := G.g17, f17 := G.f17, z17 := G.z17, d0_4 := fun h _ => (Df.fresh rfl (by obtain ⟨g, e, _, o⟩ := F.f0 h; exact o)).symm, d0_7 := G.d0_7, d3_4 := fun h _ => (Df.fresh rfl (F.f3 h).2).symm, d3_7 := G.d3_7, d8_12 := G.d8_12, d8_15 := G.d8_15, d11_12 := G.d11_12, d11_15 := G.d11_15, bx := G.bx, bel := G.bel }⟩
    · -- 5
      go_simp
      refine hK _ _ ?_
      exact ⟨b0, b1, b2, b3, b4, true, b6, b7, b8, b9, b10, b11, b12, b13, b14, b15, b16, b17, rfl, _, _, _, _, _, _, _, _, _, _, _, _, _, _, _, _, _, rfl, { f0 := F.f0, f1 := F.f1, f2 := F.f2, f3 := F.f3, f4 := F.f4, f5 := fun _ => rfl, f6 := F.f6, f7 := F.f7, f8 := F.f8, f9 := F.f9, f10 := F.f10, f11 := F.f11, f12 := F.f12, f13 := F.f13, f14 := F.f14, f15 := F.f15, f16 := F.f16, g16 := F.g16, g17 := F.g17, f17 := F.f17, z17 := F.z17, d0_4 := F.d0_4, d0_7 := F.d0_7, d3_4 := F.d3_4, d3_7 := F.d3_7, d8_12 := F.d8_12, d8_15 := F.d8_15, d11_12 := F.d11_12, d11_15 := F.d11_15, bx := F.bx, bel := F.bel }⟩
    · -- 6
      obtain rfl := F.f5 (hd ⟨5, .data⟩ (by simp) rfl)
      go_simp
      refine hK _ _ ?_
      exact ⟨b0, b1, b2, b3, b4, b5, true, b7, b8, b9, b10, b11, b12, b13, b14, b15, b16, b17, rfl, _, _, _, _, _, _, _, _, _, _, _, _, _, _, _, _, _, rfl, { f0 := F.f0, f1 := F.f1, f2 := F.f2, f3 := F.f3, f4 := F.f4, f5 := F.f5, f6 := fun _ => rfl, f7 := F.f7, f8 := F.f8, f9 := F.f9, f10 := F.f10, f11 := F.f11, f12 := F.f12, f13 := F.f13, f14 := F.f14, f15 := F.f15, f16 := F.f16, g16 := F.g16, g17 := F.g17, f17 := F.f17, z17 := F.z17, d0_4 := F.d0_4, d0_7 := F.d0_7, d3_4 := F.d3_4, d3_7 := F.d3_7, d8_12 := F.d8_12, d8_15 := F.d8_15, d11_12 := F.d11_12, d11_15 := F.d11_15, bx := F.bx, bel := F.bel }⟩
    · -- 7
      have hbl : b4 = true := hd ⟨4, .data⟩ (by simp) rfl
      have hself : b7 = false := hl
      have nb16 : b16 = false := by cases hx : b16; rfl; have := (F.g16 hx).2.1; rw [hself] at this; exact absurd this (by decide)
      obtain ⟨g, rfl, hg, og⟩ := F.f4 hbl
      obtain rfl := F.f6 (hd ⟨6, .data⟩ (by simp) rfl)
      refine step_app0B rfl (.tmp 7) (.tmp 9) rfl rfl g w.heap.size a2 l2 c2 is rfl rfl HN.out.1.2.1 (HN.out.2.1.2.1.below F.bel) HN.out.2.2.2.1 hg og ?_
      intro v u' ov hb hv hsh
      have G := F.below hb
      refine hK _ _ ?_
      exact ⟨b0, b1, b2, b3, b4, b5, b6, true, b8, b9, b10, b11, b12, b13, b14, b15, b16, b17, rfl, _, _, _, _, _, _, _, _, _, _, _, _, _, _, _, _, _, rfl, { f0 := G.f0, f1 := G.f1, f2 := G.f2, f3 := G.f3, f4 := G.f4, f5 := G.f5, f6 := G.f6, f7 := fun _ => ⟨hsh, ov⟩, f8 := G.f8, f9 := G.f9, f10 := G.f10, f11 := G.f11, f12 := G.f12, f13 := G.f13, f14 := G.f14, f15 := G.f15, f16 := fun h => by rw [nb16] at h; exact absurd h (by decide), g16 := fun h => by rw [nb16] at h; exact absurd h (by decide), g17 := G.g17, f17 := fun h => by have := F.g17 h; rw [nb16] at this; exact absurd this (by decide), z17 := G.z17, d0_4 := G.d0_4, d0_7 := fun h _ => by rcases hv with rfl | hv; exact F.d0_4 h hbl; exact (Df.fresh hv (by obtain ⟨g, e, _, o⟩ := F.f0 h; exact o)).symm, d3_4 := G.d3_4, d3_7 := fun h _ => by rcases hv with rfl | hv; exact F.d3_4 h hbl; exact (Df.fresh hv (F.f3 h).2).symm, d8_12 := G.d8_12, d8_15 := G.d8_15, d11_12 := G.d11_12, d11_15 := G.d11_15, bx := G.bx, bel := G.bel }⟩
    · -- 8
      have hb := bel_alloc u (.cells #[] 3)
      have G := F.below hb
      have ol : OwnI (u.alloc (.cells #[] 3)) w.heap.size (.slice (some ⟨u.heap.size, 0, none⟩) 0 0) [] := ⟨rfl, .inr ⟨u.heap.size, 0, #[], rfl, F.bel.size, Blk.new u #[] 3, by simp, by simp, rfl, rfl⟩⟩
      go_simp
      refine hK _ _ ?_
      exact ⟨b0, b1, b2, b3, b4, b5, b6, b7, true, b9, b10, b11, b12, b13, b14, b15, b16, b17, rfl, _, _, _, _, _, _, _, _, _, _, _, _, _, _, _, _, _, rfl, { f0 := G.f0, f1 := G.f1, f2 := G.f2, f3 := G.f3, f4 := G.f4, f5 := G.f5, f6 := G.f6, f7 := G.f7, f8 := fun _ => ⟨_, rfl, F.bel.size, ol⟩, f9 := G.f9, f10 := G.f10, f11 := G.f11, f12 := G.f12, f13 := G.f13, f14 := G.f14, f15 := G.f15, f16 := G.f16, g16 := G.g16, g17 := G.g17, f17 := G.f17, z17 := G.z17, d0_4 := G.d0_4, d0_7 := G.d0_7, d3_4 := G.d3_4, d3_7 := G.d3_7, d8_12 := fun _ h => Df.fresh rfl (by obtain ⟨g, e, _, o⟩ := F.f12 h; exact o), d8_15 := fun _ h => Df.fresh rfl (F.f15 h).2, d11_12 := G.d11_12, d11_15 := G.d11_15, bx := G.bx, bel := G.bel }⟩
    · -- 9
      go_simp
      refine hK _ _ ?_
      exact ⟨b0, b1, b2, b3, b4, b5, b6, b7, b8, true, b10, b11, b12, b13, b14, b15, b16, b17, rfl, _, _, _, _, _, _, _, _, _, _, _, _, _, _, _, _, _, rfl, { f0 := F.f0, f1 := F.f1, f2 := F.f2, f3 := F.f3, f4 := F.f4, f5 := F.f5, f6 := F.f6, f7 := F.f7, f8 := F.f8, f9 := fun _ => rfl, f10 := F.f10, f11 := F.f11, f12 := F.f12, f13 := F.f13, f14 := F.f14, f15 := F.f15, f16 := F.f16, g16 := F.g16, g17 := F.g17, f17 := F.f17, z17 := F.z17, d0_4 := F.d0_4, d0_7 := F.d0_7, d3_4 := F.d3_4, d3_7 := F.d3_7, d8_12 := F.d8_12, d8_15 := F.d8_15, d11_12 := F.d11_12, d11_15 := F.d11_15, bx := F.bx, bel := F.bel }⟩
    · -- 10
      obtain rfl := F.f9 (hd ⟨9, .data⟩ (by simp) rfl)
      go_simp
      refine hK _ _ ?_
      exact ⟨b0, b1, b2, b3, b4, b5, b6, b7, b8, b9, true, b11, b12, b13, b14, b15, b16, b17, rfl, _, _, _, _, _, _, _, _, _, _, _, _, _, _, _, _, _, rfl, { f0 := F.f0, f1 := F.f1, f2 := F.f2, f3 := F.f3, f4 := F.f4, f5 := F.f5, f6 := F.f6, f7 := F.f7, f8 := F.f8, f9 := F.f9, f10 := fun _ => rfl, f11 := F.f11, f12 := F.f12, f13 := F.f13, f14 := F.f14, f15 := F.f15, f16 := F.f16, g16 := F.g16, g17 := F.g17, f17 := F.f17, z17 := F.z17, d0_4 := F.d0_4, d0_7 := F.d0_7, d3_4 := F.d3_4, d3_7 := F.d3_7, d8_12 := F.d8_12, d8_15 := F.d8_15, d11_12 := F.d11_12, d11_15 := F.d11_15, bx := F.bx, bel := F.bel }⟩
    · -- 11
      have hbl : b8 = true := hd ⟨8, .data⟩ (by simp) rfl
      have hself : b11 = false := hl
      have nb16 : b16 = false := by cases hx : b16; rfl; have := (F.g16 hx).2.2.1; rw [hself] at this; exact absurd this (by decide)
      obtain ⟨g, rfl, hg, og⟩ := F.f8 hbl
      obtain rfl := F.f10 (hd ⟨10, .data⟩ (by simp) rfl)
      refine step_app0I rfl (.tmp 11) (.tmp 13) rfl rfl g w.heap.size a3 l3 c3 hs rfl rfl HN.out.1.2.2.1 (HN.out.2.1.2.2.1.below F.bel) HN.out.2.2.2.2.1 hg og ?_
      intro v u' ov hb hv hsh
      have G := F.below hb
      refine hK _ _ ?_
      exact ⟨b0, b1, b2, b3, b4, b5, b6, b7, b8, b9, b10, true, b12, b13, b14, b15, b16, b17, rfl, _, _, _, _, _, _, _, _, _, _, _, _, _, _, _, _, _, rfl, { f0 := G.f0, f1 := G.f1, f2 := G.f2, f3 := G.f3, f4 := G.f4, f5 := G.f5, f6 := G.f6, f7 := G.f7, f8 := G.f8, f9 := G.f9, f10 := G.f10, f11 := fun _ => ⟨hsh, ov⟩, f12 := G.f12, f13 := G.f13, f14 := G.f14, f15 := G.f15, f16 := fun h => by rw [nb16] at h; exact absurd h (by decide), g16 := fun h => by rw [nb16] at h; exact absurd h (by decide), g17 := G.g17, f17 := fun h => by have := F.g17 h; rw [nb16] at this; exact absurd this (by decide), z17 := G.z17, d0_4 := G.d0_4, d0_7 := G.d0_7, d3_4 := G.d3_4, d3_7 := G.d3_7, d8_12 := G.d8_12, d8_15 := G.d8_15, d11_12 := fun _ h => by rcases hv with rfl | hv; exact F.d8_12 hbl h; exact Df.fresh hv (by obtain ⟨g, e, _, o⟩ := F.f12 h; exact o), d11_15 := fun _ h => by rcases hv with rfl | hv; exact F.d8_15 hbl h; exact Df.fresh hv (F.f15 h).2, bx := G.bx, bel := G.bel }⟩
    · -- 12
      have hb := bel_alloc u (.cells #[] 3)
      have G := F.below hb
      have ol : OwnI (u.alloc (.cells #[] 3)) w.heap.size (.slice (some ⟨u.heap.size, 0, none⟩) 0 0) [] := ⟨rfl, .inr ⟨u.heap.size, 0, #[], rfl, F.bel.size, Blk.new u #[] 3, by simp, by simp, rfl, rfl⟩⟩
      go_simp
      refine hK _ _ ?_
      exact ⟨b0, b1, b2, b3, b4, b5, b6, b7, b8, b9, b10, b11, true, b13, b14, b15, b16, b17, rfl, _, _, _, _, _, _, _, _, _, _, _, _, _, _, _, _, _, rfl, { f0 := G.f0, f1 := G.f1, f2 := G.f2, f3 := G.f3, f4 := G.f4, f5 := G.f5, f6 := G.f6, f7 := G.f7, f8 := G.f8, f9 := G.f9, f10 := G.f10, f11 := G.f11, f12 := fun _ => ⟨_, rfl, F.bel.size, ol⟩, f13 := G.f13, f14 := G.f14, f15 := G.f15, f16 := G.f16, g16 := G.g16, g17 := G.g17, f17 := G.f17, z17 := G.z17, d0_4 := G.d0_4, d0_7 := G.d0_7, d3_4 := G.d3_4, d3_7 := G.d3_7, d8_12 := fun h _ => (Df.fresh rfl (by obtain ⟨g, e, _, o⟩ := F.f8 h; exact o)).symm, d8_15 := G.d8_15, d11_12 := fun h _ => (Df.fresh rfl (F.f11 h).2).symm, d11_15 := G.d11_15, bx := G.bx, bel := G.bel }⟩
    · -- 13
      go_simp
      refine hK _ _ ?_
      exact ⟨b0, b1, b2, b3, b4, b5, b6, b7, b8, b9, b10, b11, b12, true, b14, b15, b16, b17, rfl, _, _, _, _, _, _, _, _, _, _, _, _, _, _, _, _, _, rfl, { f0 := F.f0, f1 := F.f1, f2 := F.f2, f3 := F.f3, f4 := F.f4, f5 := F.f5, f6 := F.f6, f7 := F.f7, f8 := F.f8, f9 := F.f9, f10 := F.f10, f11 := F.f11, f12 := F.f12, f13 := fun _ => rfl, f14 := F.f14, f15 := F.f15, f16 := F.f16, g16 := F.g16, g17 := F.g17, f17 := F.f17, z17 := F.z17, d0_4 := F.d0_4, d0_7 := F.d0_7, d3_4 := F.d3_4, d3_7 := F.d3_7, d8_12 := F.d8_12, d8_15 := F.d8_15, d11_12 := F.d11_12, d11_15 := F.d11_15, bx := F.bx, bel := F.bel }⟩
    · -- 14
      obtain rfl := F.f13 (hd ⟨13, .data⟩ (by simp) rfl)
      go_simp
      refine hK _ _ ?_
      exact ⟨b0, b1, b2, b3, b4, b5, b6, b7, b8, b9, b10, b11, b12, b13, true, b15, b16, b17, rfl, _, _, _, _, _, _, _, _, _, _, _, _, _, _, _, _, _, rfl, { f0 := F.f0, f1 := F.f1, f2 := F.f2, f3 := F.f3, f4 := F.f4, f5 := F.f5, f6 := F.f6, f7 := F.f7, f8 := F.f8, f9 := F.f9, f10 := F.f10, f11 := F.f11, f12 := F.f12, f13 := F.f13, f14 := fun _ => rfl, f15 := F.f15, f16 := F.f16, g16 := F.g16, g17 := F.g17, f17 := F.f17, z17 := F.z17, d0_4 := F.d0_4, d0_7 := F.d0_7, d3_4 := F.d3_4, d3_7 := F.d3_7, d8_12 := F.d8_12, d8_15 := F.d8_15, d11_12 := F.d11_12, d11_15 := F.d11_15, bx := F.bx, bel := F.bel }⟩
    · -- 15
      have hbl : b12 = true := hd ⟨12, .data⟩ (by simp) rfl
      have hself : b15 = false := hl
      have nb16 : b16 = false := by cases hx : b16; rfl; have := (F.g16 hx).2.2.2; rw [hself] at this; exact absurd this (by decide)
      obtain ⟨g, rfl, hg, og⟩ := F.f12 hbl
      obtain rfl := F.f14 (hd ⟨14, .data⟩ (by simp) rfl)
      refine step_app0I rfl (.tmp 15) (.tmp 17) rfl rfl g w.heap.size a4 l4 c4 rs rfl rfl HN.out.1.2.2.2 (HN.out.2.1.2.2.2.below F.bel) HN.out.2.2.2.2.2 hg og ?_
      intro v u' ov hb hv hsh
      have G := F.below hb
      refine hK _ _ ?_
      exact ⟨b0, b1, b2, b3, b4, b5, b6, b7, b8, b9, b10, b11, b12, b13, b14, true, b16, b17, rfl, _, _, _, _, _, _, _, _, _, _, _, _, _, _, _, _, _, rfl, { f0 := G.f0, f1 := G.f1, f2 := G.f2, f3 := G.f3, f4 := G.f4, f5 := G.f5, f6 := G.f6, f7 := G.f7, f8 := G.f8, f9 := G.f9, f10 := G.f10, f11 := G.f11, f12 := G.f12, f13 := G.f13, f14 := G.f14, f15 := fun _ => ⟨hsh, ov⟩, f16 := fun h => by rw [nb16] at h; exact absurd h (by decide), g16 := fun h => by rw [nb16] at h; exact absurd h (by decide), g17 := G.g17, f17 := fun h => by have := F.g17 h; rw [nb16] at this; exact absurd this (by decide), z17 := G.z17, d0_4 := G.d0_4, d0_7 := G.d0_7, d3_4 := G.d3_4, d3_7 := G.d3_7, d8_12 := G.d8_12, d8_15 := fun h _ => by rcases hv with rfl | hv; exact F.d8_12 h hbl; exact (Df.fresh hv (by obtain ⟨g, e, _, o⟩ := F.f8 h; exact o)).symm, d11_12 := G.d11_12, d11_15 := fun h _ => by rcases hv with rfl | hv; exact F.d11_12 h hbl; exact (Df.fresh hv (F.f11 h).2).symm, bx := G.bx, bel := G.bel }⟩
    · -- 16
      obtain ⟨⟨y3, e3, rfl⟩, _⟩ := F.f3 (hd ⟨3, .data⟩ (by simp) rfl)
      obtain ⟨⟨y7, e7, rfl⟩, _⟩ := F.f7 (hd ⟨7, .data⟩ (by simp) rfl)
      obtain ⟨⟨y11, e11, rfl⟩, _⟩ := F.f11 (hd ⟨11, .data⟩ (by simp) rfl)
      obtain ⟨⟨y15, e15, rfl⟩, _⟩ := F.f15 (hd ⟨15, .data⟩ (by simp) rfl)
      go_simp
      refine hK _ _ ?_
      exact ⟨b0, b1, b2, b3, b4, b5, b6, b7, b8, b9, b10, b11, b12, b13, b14, b15, true, b17, rfl, _, _, _, _, _, _, _, _, _, _, _, _, _, _, _, _, _, rfl, { f0 := F.f0, f1 := F.f1, f2 := F.f2, f3 := F.f3, f4 := F.f4, f5 := F.f5, f6 := F.f6, f7 := F.f7, f8 := F.f8, f9 := F.f9, f10 := F.f10, f11 := F.f11, f12 := F.f12, f13 := F.f13, f14 := F.f14, f15 := F.f15, f16 := fun _ => rfl, g16 := fun _ => ⟨hd ⟨3, .data⟩ (by simp) rfl, hd ⟨7, .data⟩ (by simp) rfl, hd ⟨11, .data⟩ (by simp) rfl, hd ⟨15, .data⟩ (by simp) rfl⟩, g17 := fun _ => rfl, f17 := F.f17, z17 := F.z17, d0_4 := F.d0_4, d0_7 := F.d0_7, d3_4 := F.d3_4, d3_7 := F.d3_7, d8_12 := F.d8_12, d8_15 := F.d8_15, d11_12 := F.d11_12, d11_15 := F.d11_15, bx := F.bx, bel := F.bel }⟩
    · -- 17
      obtain ⟨⟨y3, e3, rfl⟩, o3⟩ := F.f3 (hd ⟨3, .phase⟩ (by simp) rfl)
      obtain ⟨⟨y7, e7, rfl⟩, o7⟩ := F.f7 (hd ⟨7, .phase⟩ (by simp) rfl)
      obtain ⟨⟨y11, e11, rfl⟩, o11⟩ := F.f11 (hd ⟨11, .phase⟩ (by simp) rfl)
      obtain ⟨⟨y15, e15, rfl⟩, o15⟩ := F.f15 (hd ⟨15, .phase⟩ (by simp) rfl)
      obtain rfl := F.f16 (hd ⟨16, .data⟩ (by simp) rfl)
      have hb17 : b17 = false := hl
      have R := F.z17 hb17
      obtain ⟨s0, s1, s2, s3⟩ := R.four
      have fr0 := R.fro 0
      have fr1 := R.fro 1
      have fr2 := R.fro 2
      have fr3 := R.fro 3
      go_simp
      refine hK _ _ ?_
      exact ⟨b0, b1, b2, b3, b4, b5, b6, b7, b8, b9, b10, b11, b12, b13, b14, b15, b16, true, rfl, _, _, _, _, _, _, _, _, _, _, _, _, _, _, _, _, _, rfl, { f0 := fun h => by obtain ⟨g, e, h1, o⟩ := F.f0 h; exact ⟨g, e, h1, row_set4 o ⟨_, R⟩ (by decide)⟩, f1 := F.f1, f2 := F.f2, f3 := fun h => ⟨(F.f3 h).1, row_set4 (F.f3 h).2 ⟨_, R⟩ (by decide)⟩, f4 := fun h => by obtain ⟨g, e, h1, o⟩ := F.f4 h; exact ⟨g, e, h1, row_set4 o ⟨_, R⟩ (by decide)⟩, f5 := F.f5, f6 := F.f6, f7 := fun h => ⟨(F.f7 h).1, row_set4 (F.f7 h).2 ⟨_, R⟩ (by decide)⟩, f8 := fun h => by obtain ⟨g, e, h1, o⟩ := F.f8 h; exact ⟨g, e, h1, row_set4 o ⟨_, R⟩ (by decide)⟩, f9 := F.f9, f10 := F.f10, f11 := fun h => ⟨(F.f11 h).1, row_set4 (F.f11 h).2 ⟨_, R⟩ (by decide)⟩, f12 := fun h => by obtain ⟨g, e, h1, o⟩ := F.f12 h; exact ⟨g, e, h1, row_set4 o ⟨_, R⟩ (by decide)⟩, f13 := F.f13, f14 := F.f14, f15 := fun h => ⟨(F.f15 h).1, row_set4 (F.f15 h).2 ⟨_, R⟩ (by decide)⟩, f16 := F.f16, g16 := F.g16, g17 := fun _ => hd ⟨16, .data⟩ (by simp) rfl, f17 := fun _ => by have := (((R.set 0 (.slice y3 l1 e3)).set 1 (.slice y7 l2 e7)).set 2 (.slice y11 l3 e11)).set 3 (.slice y15 l4 e15); simpa using this, z17 := fun h => absurd h (by decide), d0_4 := F.d0_4, d0_7 := F.d0_7, d3_4 := F.d3_4, d3_7 := F.d3_7, d8_12 := F.d8_12, d8_15 := F.d8_15, d11_12 := F.d11_12, d11_15 := F.d11_15, bx := (((F.bx.setNe (by omega)).setNe (by omega)).setNe (by omega)).setNe (by omega), bel := bel_set4 F.bel (by omega) }⟩
  · refine ⟨false, false, false, false, false, false, false, false, false, false, false, false, false, false, false, false, false, false, rfl, _, _, _, _, _, _, _, _, _, _, _, _, _, _, _, _, _, rfl, ?_⟩
    exact { f0 := fun h => absurd h (by decide), f1 := fun h => absurd h (by decide), f2 := fun h => absurd h (by decide), f3 := fun h => absurd h (by decide), f4 := fun h => absurd h (by decide), f5 := fun h => absurd h (by decide), f6 := fun h => absurd h (by decide), f7 := fun h => absurd h (by decide), f8 := fun h => absurd h (by decide), f9 := fun h => absurd h (by decide), f10 := fun h => absurd h (by decide), f11 := fun h => absurd h (by decide), f12 := fun h => absurd h (by decide), f13 := fun h => absurd h (by decide), f14 := fun h => absurd h (by decide), f15 := fun h => absurd h (by decide), f16 := fun h => absurd h (by decide), g16 := fun h => absurd h (by decide), g17 := fun h => absurd h (by decide), f17 := fun h => absurd h (by decide), z17 := fun _ => R0, d0_4 := fun h => absurd h (by decide), d0_7 := fun h => absurd h (by decide), d3_4 := fun h => absurd h (by decide), d3_7 := fun h => absurd h (by decide), d8_12 := fun h => absurd h (by decide), d8_15 := fun h => absurd h (by decide), d11_12 := fun h => absurd h (by decide), d11_15 := fun h => absurd h (by decide), bx := X0, bel := b0.drew }
end Go.Proofs.Ytfdddkjonjpgpaa
namespace Go.Proofs.Ytfdddkjonjpgpaa
open Go.RowKit
set_option linter.unusedVariables false
set_option linter.unusedSimpArgs false
theorem slI_lit4 (w : World) (x0 x1 x2 x3 : Int) : SlI (w.alloc (.cells #[.int .i64 x0, .int .i64 x1, .int .i64 x2, .int .i64 x3] 3)) (some ⟨w.heap.size, 0, none⟩) [x0, x1, x2, x3] :=
  .inr ⟨w.heap.size, 0, rfl, by simp, fun i hi => by
    have : i = 0 ∨ i = 1 ∨ i = 2 ∨ i = 3 := by simp at hi; omega
    rcases this with rfl | rfl | rfl | rfl <;> simp⟩
set_option maxRecDepth 20000 in
set_option maxHeartbeats 2000000 in
theorem l5There_any (a1 a2 a3 a4 : Option Addr) (l1 l2 l3 l4 c1 c2 c3 c4 : Nat) (kd pl nn wa : Int) (q1 q2 : Option Addr) (m1 m2 k1 k2 : Nat) (ws : List Int) (bs : List Bool) (w : World) (h1 : m1 = ws.length) (h2 : m2 = bs.length) (s1 : SlI w q1 ws) (s2 : SlB w q2 bs) (hl1 : ws.length ≤ 2000000) (hl2 : bs.length ≤ 2000000) (hok : okR kd pl nn wa ws m1 m2 = true) (n1 : l1 ≤ 2000000) (n2 : l2 ≤ 2000000) (n3 : l3 ≤ 2000000) (n4 : l4 ≤ 2000000) (b : Bool) (hb : svAll l1 l2 l3 l4 kd pl nn wa m1 m2 = b) :
    Calls Try.prog 70 #[dv a1 a2 a3 a4 l1 l2 l3 l4 c1 c2 c3 c4, rq kd pl nn wa q1 q2 m1 m2 k1 k2] w fun e w' => e = .returned (.bool b) ∧ Below w.heap.size w w' := by
  obtain ⟨z, hz⟩ : ∃ z, z = (w.alloc (.cells #[.slice a1 l1 c1, .slice a2 l2 c2, .slice a3 l3 c3, .slice a4 l4 c4] 27)).alloc (.cells #[.int .i64 kd, .int .i64 pl, .int .i64 nn, .slice q1 m1 k1, .slice q2 m2 k2, .int .i64 wa] 57) := ⟨_, rfl⟩
  have HZ : Hid (z = _) := hz
  have b0 : Below w.heap.size w z := by rw [hz]; exact bel_next (bel_alloc w _) (bel_alloc _ _)
  have X0 : Blk z w.heap.size 27 #[.slice a1 l1 c1, .slice a2 l2 c2, .slice a3 l3 c3, .slice a4 l4 c4] := by rw [hz]; exact (Blk.new w _ _).below (bel_alloc _ _)
  have Y0 : Blk z (w.heap.size + 1) 57 #[.int .i64 kd, .int .i64 pl, .int .i64 nn, .slice q1 m1 k1, .slice q2 m2 k2, .int .i64 wa] := by rw [hz]; have := Blk.new (w.alloc (.cells #[.slice a1 l1 c1, .slice a2 l2 c2, .slice a3 l3 c3, .slice a4 l4 c4] 27)) #[.int .i64 kd, .int .i64 pl, .int .i64 nn, .slice q1 m1 k1, .slice q2 m2 k2, .int .i64 wa] 57; simpa using this
  have HQ : Hid (m1 = ws.length ∧ m2 = bs.length ∧ SlI z q1 ws ∧ SlB z q2 bs ∧ ws.length ≤ 2000000 ∧ bs.length ≤ 2000000) := ⟨h1, h2, s1.below b0, s2.below b0, hl1, hl2⟩
  have f := okR_f hok
  have hs0 : 0 ≤ spc0 kd ∧ spc0 kd < 4 := by unfold spc0; split <;> (try split) <;> (try split) <;> omega
  have hsN : 0 ≤ spcN kd nn m1 m2 ∧ spcN kd nn m1 m2 ≤ 2000000 := by unfold spcN; split <;> (try split) <;> (try split) <;> omega
  have h23 : kd = 23 → spc0 kd = 2 ∧ 0 ≤ wa ∧ wa ≤ 65535 ∧ m1 ≤ 121 := by intro h; refine ⟨by rw [h]; rfl, ?_⟩; omega
  have hV : spcV (okR kd pl nn wa ws m1 m2) kd pl nn m1 m2 = .tuple #[.int .i64 (spc0 kd), .int .i64 pl, .int .i64 (spcN kd nn m1 m2)] := by rw [hok]; rfl
  have HV : Hid (spcV (okR kd pl nn wa ws m1 m2) kd pl nn m1 m2 = .tuple #[.int .i64 (spc0 kd), .int .i64 pl, .int .i64 (spcN kd nn m1 m2)]) := hV
  obtain ⟨hp0, hp1⟩ := f.1
  unfold svAll at hb
  clear hz h1 h2 s1 s2 hl1 hl2 f hV hok
  generalize spcN kd nn m1 m2 = n at *
  generalize spc0 kd = sp at *
  obtain ⟨i, rfl⟩ := Int.eq_ofNat_of_zero_le hs0.1
  have hi4 : i < 4 := by omega
  rw [show ((i : Int)).toNat = i by omega] at hb
  generalize hsz : [(l1 : Int), (l2 : Int), (l3 : Int), (l4 : Int)].getD i 0 = sz at *
  have hszb : 0 ≤ sz ∧ sz ≤ 2000000 := by
    rw [← hsz]
    match i, hi4 with
    | 0, _ => simp; omega
    | 1, _ => simp; omega
    | 2, _ => simp; omega
    | 3, _ => simp; omega
  have h2sz : i = 2 → sz = (l3 : Int) := by intro h; rw [← hsz, h]; rfl
  obtain ⟨x0, x1, x2, x3⟩ := X0.four
  obtain ⟨y0, y1, y2, y3, y4, y5⟩ := Y0.six
  have i4 : (i : Int) < 4 := by omega
  have HS : Hid ([(l1 : Int), (l2 : Int), (l3 : Int), (l4 : Int)].getD i 0 = sz) := hsz
  clear hsz
  go_enter Try.func70, Try.ntmps70
  go_upto_region 1 with fail
  rw [← HZ.out]
  obtain ⟨z1, hz1⟩ : ∃ z1, z1 = z.alloc (.cells #[.int .i64 (l1 : Int), .int .i64 (l2 : Int), .int .i64 (l3 : Int), .int .i64 (l4 : Int)] 3) := ⟨_, rfl⟩
  have HZ1 : Hid (z1 = _) := hz1
  have b1' : Below z.heap.size z z1 := by rw [hz1]; exact bel_alloc _ _
  have SL : SlI z1 (some ⟨z.heap.size, 0, none⟩) [(l1 : Int), (l2 : Int), (l3 : Int), (l4 : Int)] := by rw [hz1]; exact slI_lit4 z _ _ _ _
  have b1 := bel_next b0 b1'
  have X1 := X0.below b1'
  have Y1 := Y0.below b1'
  clear hz1
  go_upto_region 2 with fail
  rw [← HZ1.out]
  clear x0 x1 x2 x3 y0 y1 y2 y3 y4 y5 X0 Y0
  obtain ⟨y0, y1, y2, y3, y4, y5⟩ := Y1.six
  go_wp2_with fail
  refine (specSpaces_t kd pl nn wa q1 q2 m1 m2 k1 k2 ws bs _ HQ.out.1 HQ.out.2.1 (HQ.out.2.2.1.below b1') (HQ.out.2.2.2.1.below b1') HQ.out.2.2.2.2.1 HQ.out.2.2.2.2.2 (i : Int) pl n HV.out).mono ?_
  rintro e w3 ⟨rfl, b3'⟩
  have b3 := bel_next b1 b3'
  have Y3 := Y1.below b3'
  have S3 := SL.below b3'
  obtain ⟨bq, off, eq, hbq, hci⟩ := cell_atI S3 (k := i) (by simp; omega)
  obtain ⟨bq', off', eq', _, hc2⟩ := cell_atI S3 (k := 2) (by simp)
  simp only [Option.some.injEq, Addr.mk.injEq, and_true] at eq eq'
  obtain ⟨rfl, rfl⟩ := eq
  obtain ⟨rfl, rfl⟩ := eq'
  rw [HS.out] at hci
  simp only [Nat.zero_add] at hci hc2
  have hc2' : w3.cell? ⟨z.heap.size, 2, none⟩ = some (.int .i64 (l3 : Int)) := by simpa using hc2
  clear y0 y1 y2 y3 y4 y5 Y1 SL S3 hc2 b1 b1' b3' b0
  obtain ⟨y0, y1, y2, y3, y4, y5⟩ := Y3.six
  generalize z.heap.size = G at *
  by_cases t1 : pl + n ≤ sz
  case neg =>
    obtain rfl : b = false := by
      rw [← hb]; unfold hsB
      split
      · rfl
      · exact decide_eq_false t1
    have t1' : decide (pl + n ≤ sz) = false := decide_eq_false t1
    clear hb
    go_upto_region 3 with fail
    go_quiet (fail)
    go_wp2_with fail
    go_ret
    exact ⟨rfl, bel_drewN b3 _⟩
  by_cases t2 : kd = 23
  case neg =>
    obtain rfl : b = true := by
      rw [← hb, hsB_2 (fun h => t2 h.1)]
      exact decide_eq_true t1
    have t2' : (kd != 23) = true := by simpa using t2
    have t1' : decide (pl + n ≤ sz) = true := decide_eq_true t1
    clear hb
    go_upto_region 3 with fail
    go_quiet (fail)
    go_wp2_with fail
    go_ret
    exact ⟨rfl, bel_drewN b3 _⟩
  subst t2
  obtain ⟨hw2, hw0, hw1, hwm⟩ := h23 rfl
  have iw : IntKind.i64.wrap (wa + (m1 : Int)) = wa + (m1 : Int) := by rw [IntKind.wrap_i64]; omega
  have iw2 : ((23 : Int) != 23) = false := by decide
  have e3 := h2sz (by omega)
  by_cases t3 : wa + (m1 : Int) ≤ (l3 : Int)
  · obtain rfl : b = true := by
      rw [← hb, hsB_2 (fun h => by omega)]
      exact decide_eq_true t1
    have t3' : decide (wa + (m1 : Int) ≤ (l3 : Int)) = true := decide_eq_true t3
    have t1' : decide (pl + n ≤ sz) = true := decide_eq_true t1
    clear hb e3 h2sz h23 hw2
    go_upto_region 3 with fail
    go_quiet (fail)
    go_wp2_with fail
    go_ret
    exact ⟨rfl, bel_drewN b3 _⟩
  · obtain rfl : b = false := by
      rw [← hb]; exact hsB_1 rfl (by omega)
    have t3' : decide (wa + (m1 : Int) ≤ (l3 : Int)) = false := decide_eq_false t3
    have t1' : decide (pl + n ≤ sz) = true := decide_eq_true t1
    clear hb e3 h2sz h23 hw2
    go_upto_region 3 with fail
    go_quiet (fail)
    go_wp2_with fail
    go_ret
    exact ⟨rfl, bel_drewN b3 _⟩
end Go.Proofs.Ytfdddkjonjpgpaa
namespace Go.Proofs.Ytfdddkjonjpgpaa
open Go.RowKit
set_option linter.unusedVariables false
set_option linter.unusedSimpArgs false
theorem wr_snoc {α : Type} (hs : List α) (k : Nat) (ws : List α) (x : α) (h : k + ws.length < hs.length) : (wr hs k ws).set (k + ws.length) x = wr hs k (ws ++ [x]) := by
  unfold wr
  have e1 : (hs.take k).length = k := by simp; omega
  rw [List.set_append_right _ _ (by omega), e1, Nat.add_sub_cancel_left, List.set_append_right _ _ (by omega), Nat.sub_self]
  have e2 : hs.drop (k + ws.length) = hs[k + ws.length] :: hs.drop (k + ws.length + 1) := List.drop_eq_getElem_cons h
  rw [e2]
  simp [Nat.add_assoc]
theorem wr_nil {α : Type} (hs : List α) (k : Nat) : wr hs k [] = hs := by simp [wr]
theorem take_snocG {α : Type} {ws : List α} {k : Nat} (h : k < ws.length) (d : α) : ws.take (k + 1) = ws.take k ++ [ws.getD k d] := by
  rw [List.take_add_one]; simp [h]
set_option maxRecDepth 20000 in
set_option maxHeartbeats 2000000 in
theorem l5Write_any (a1 a2 a3 a4 : Option Addr) (l1 l2 l3 l4 c1 c2 c3 c4 : Nat) (cs is : List Bool) (hs rs : List Int) (k : Nat) (q1 : Option Addr) (m1 k1 : Nat) (ws : List Int) (W0 w : World) (hB : Below W0.heap.size W0 w) (hD : OwnD w W0.heap.size a1 a2 a3 a4 l1 l2 l3 l4 c1 c2 c3 c4 cs is hs rs) (hn : m1 = ws.length) (hq : SlI W0 q1 ws) (hk : k + ws.length ≤ l3) (h3 : l3 ≤ 2000000) :
    Calls Try.prog 72 #[.slice a3 l3 c3, .int .i64 (k : Int), .slice q1 m1 k1] w fun e w' => e = .returned (.tuple #[]) ∧ OwnD w' W0.heap.size a1 a2 a3 a4 l1 l2 l3 l4 c1 c2 c3 c4 cs is (wr hs k ws) rs ∧ Below W0.heap.size W0 w' ∧ Chg w w' (Of4 (.slice a1 l1 c1) (.slice a2 l2 c2) (.slice a3 l3 c3) (.slice a4 l4 c4)) := by
  subst hn
  have hln := hD.sl.1.2.2.1
  go_enter Try.func72, Try.ntmps72
  go_wp2
  go_loopw [6] (fun i wr' => ∃ j : Nat, j ≤ ws.length ∧ i = .int .i64 j ∧ OwnD wr' W0.heap.size a1 a2 a3 a4 l1 l2 l3 l4 c1 c2 c3 c4 cs is (wr hs k (ws.take j)) rs ∧ Below W0.heap.size W0 wr' ∧ Chg w wr' (Of4 (.slice a1 l1 c1) (.slice a2 l2 c2) (.slice a3 l3 c3) (.slice a4 l4 c4))) (fun i _ => ws.length - (intOf i).toNat)
  case atStart => exact ⟨0, Nat.zero_le _, rfl, by rw [List.take_zero, wr_nil]; exact hD, hB, Chg.ofBelow (Below.refl _ _)⟩
  case round =>
    obtain ⟨j, hj, rfl, hD', hB', hC'⟩ := hrel
    by_cases hlt : j < ws.length
    · obtain ⟨bq, off, rfl, hbq, hcq⟩ := cell_atI (hq.below hB') hlt
      obtain ⟨b, rfl, hb, hbl, hc, hf, hset⟩ := hD'.setWord (k := k + j) (by omega)
      obtain ⟨D1, C1⟩ := hset (ws.getD j 0)
      have eL : (Ytfdddkjonjpgpaa.wr hs k (ws.take j)).set (k + j) (ws.getD j 0) = Ytfdddkjonjpgpaa.wr hs k (ws.take (j + 1)) := by
        have h1 : (ws.take j).length = j := by simp; omega
        rw [take_snocG hlt 0]
        have := wr_snoc hs k (ws.take j) (ws.getD j 0) (by omega)
        rw [h1] at this
        exact this
      rw [eL] at D1
      have hH : Hid (OwnD (wr.setCell ⟨b, k + j, none⟩ (.int .i64 (ws.getD j 0))) W0.heap.size a1 a2 (some ⟨b, 0, none⟩) a4 l1 l2 l3 l4 c1 c2 c3 c4 cs is (Ytfdddkjonjpgpaa.wr hs k (ws.take (j + 1))) rs ∧ Below W0.heap.size W0 (wr.setCell ⟨b, k + j, none⟩ (.int .i64 (ws.getD j 0))) ∧ Chg w (wr.setCell ⟨b, k + j, none⟩ (.int .i64 (ws.getD j 0))) (Of4 (.slice a1 l1 c1) (.slice a2 l2 c2) (.slice (some ⟨b, 0, none⟩) l3 c3) (.slice a4 l4 c4))) := ⟨D1, bel_setG hB' hb, hC'.trans C1⟩
      generalize ws.getD j 0 = x at *
      have i0 : (j : Int) < (ws.length : Int) := by omega
      have i1 : (k : Int) + (j : Int) < (l3 : Int) := by omega
      have i2 : IntKind.i64.wrap ((k : Int) + (j : Int)) = (k : Int) + (j : Int) := by rw [IntKind.wrap_i64]; omega
      have i3 : ((k : Int) + (j : Int)).toNat = k + j := by omega
      have i4 : (0 : Int) ≤ (k : Int) + (j : Int) := by omega
      clear hq hB' hD' hC' D1 C1 hset eL hD hB
      go_wp2
      go_roundw
      case rel => exact ⟨j + 1, by omega, by go_num, hH.out.1, hH.out.2.1, hH.out.2.2⟩
      case measure => simp [intOf]; omega
    · have e : ws.take j = ws := List.take_of_length_le (by omega)
      rw [e] at hD'
      have hi' : decide ((j : Int) < (ws.length : Int)) = false := by simp; omega
      clear hq hD hB
      go_wp2
      refine bodyPost_end (v := .tuple #[]) (by simp [results, Try.results72, go_sem]) rfl ?_
      exact ⟨rfl, hD', hB', hC'⟩
end Go.Proofs.Ytfdddkjonjpgpaa
