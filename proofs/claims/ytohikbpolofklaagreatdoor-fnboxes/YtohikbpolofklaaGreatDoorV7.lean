/- Texts that the proof needs, joined: R5 R6. -/
import Derived.Test.YtohikbpolofklaaGreatDoorV6
import Derived.Test.YtohikbpolofklaaGreatDoorV3
namespace Go.Proofs.YtohikbpolofklaaGreatDoor
open Go.RowKit
set_option linter.unusedVariables false
set_option linter.unusedSimpArgs false
theorem byte_wrap (l1 : Nat) (h : l1 ≤ 1000000) : IntKind.u8.wrap (IntKind.i64.wrap (2 * (l1 : Int))) = ((2 * l1 : Nat) : Int) % 256 := by
  rw [IntKind.wrap_i64, IntKind.wrap_u8]
  omega
def putL (kd pl nn wa : Int) (ws : List Int) (bs : List Bool) : List Int :=
  if kd = 5 then 5 :: wbs [pl, bif bs.getD 0 false then 65280 else 0]
  else if kd = 6 ∨ kd = 22 then kd :: wbs (pl :: ws)
  else if kd = 15 then (15 :: wbs [pl, (bs.length : Int)]) ++ [(((bs.length + 7) / 8 : Nat) : Int) % 256] ++ packL bs
  else if kd = 16 then (16 :: wbs [pl, (ws.length : Int)]) ++ [((2 * ws.length : Nat) : Int) % 256] ++ wbs ws
  else if kd = 23 then (23 :: wbs [pl, nn, wa, (ws.length : Int)]) ++ [((2 * ws.length : Nat) : Int) % 256] ++ wbs ws
  else kd :: wbs [pl, nn]
set_option maxRecDepth 20000 in
set_option maxHeartbeats 8000000 in
theorem specPut_1 (pl nn wa : Int) (a1 a2 : Option Addr) (l1 l2 c1 c2 : Nat) (ws : List Int) (bs : List Bool) (w : World) (h1 : l1 = ws.length) (h2 : l2 = bs.length) (s1 : SlI w a1 ws) (s2 : SlB w a2 bs) (hl1 : ws.length ≤ 2000000) (hl2 : bs.length ≤ 2000000) (hb : okR 1 pl nn wa ws l1 l2 = true) :
    Calls Tryz.prog 24 #[rq 1 pl nn wa a1 a2 l1 l2 c1 c2] w fun e w' => Nw w w' e (putL 1 pl nn wa ws bs) := by
  have B0 := bel_alloc w (.cells #[.int .i64 1, .int .i64 pl, .int .i64 nn, .slice a1 l1 c1, .slice a2 l2 c2, .int .i64 wa] 30)
  have X0 := Blk.new w #[.int .i64 1, .int .i64 pl, .int .i64 nn, .slice a1 l1 c1, .slice a2 l2 c2, .int .i64 wa] 30
  have H1 : Hid (l1 = ws.length ∧ l2 = bs.length) := ⟨h1, h2⟩
  have S1 : Hid (SlI w a1 ws ∧ SlB w a2 bs) := ⟨s1, s2⟩
  obtain ⟨x0, x1, x2, x3, x4, x5⟩ := X0.six
  clear h1 h2 s1 s2
  go_enter Tryz.func24, Tryz.ntmps24
  go_wp2_with fail
  refine (specReqOk_q 1 pl nn wa a1 a2 l1 l2 c1 c2 ws bs _ H1.out.1 H1.out.2 (S1.out.1.below B0) (S1.out.2.below B0) hl1 hl2).mono ?_
  rintro e w1 ⟨rfl, b'⟩
  rw [hb]
  have B1 := bel_next B0 b'
  have X1 := X0.below b'
  obtain ⟨y0, y1, y2, y3, y4, y5⟩ := X1.six
  clear X0 x0 x1 x2 x3 x4 x5
  obtain ⟨v0, v1, v2, v3, v4, v5⟩ := (X1.below (bel_alloc w1 (.cells #[.int .u8 1] 5))).six
  go_wp2_with fail
  refine (specPutWord_nw _ _ _ [1] pl _ rfl (sl_lit1 _ _ rfl) (by simp)).mono ?_
  rintro e w2 ⟨g2, c2', n2, rfl, hn2, o2', b2'⟩
  have Bz := bel_next B1 (bel_alloc w1 (.cells #[.int .u8 1] 5))
  have B2 := bel_next Bz b2'
  have X2 := (X1.below (bel_alloc w1 (.cells #[.int .u8 1] 5))).below b2'
  have o2 := own_mono o2' Bz.size
  have Hn2 : Hid (n2 = ([1] ++ wb pl).length) := hn2
  obtain ⟨z0, z1, z2, z3, z4, z5⟩ := X2.six
  clear hn2 o2' b2' b' X1 y0 y1 y2 y3 y4 y5 v0 v1 v2 v3 v4 v5 B0 B1 Bz
  go_wp2_with fail
  refine (specPutWord_nw g2 n2 c2' ([1] ++ wb pl) nn _ Hn2.out o2.sl.2 (by simp [wb])).mono ?_
  rintro e w3 h3
  replace h3 := nw_next B2 h3
  obtain ⟨g, c, n, rfl, h4⟩ := h3
  have H3 : Hid _ := h4
  clear h4
  go_wp2
  go_ret
  exact ⟨g, c, n, rfl, H3.out⟩
set_option maxRecDepth 20000 in
set_option maxHeartbeats 8000000 in
theorem specPut_2 (pl nn wa : Int) (a1 a2 : Option Addr) (l1 l2 c1 c2 : Nat) (ws : List Int) (bs : List Bool) (w : World) (h1 : l1 = ws.length) (h2 : l2 = bs.length) (s1 : SlI w a1 ws) (s2 : SlB w a2 bs) (hl1 : ws.length ≤ 2000000) (hl2 : bs.length ≤ 2000000) (hb : okR 2 pl nn wa ws l1 l2 = true) :
    Calls Tryz.prog 24 #[rq 2 pl nn wa a1 a2 l1 l2 c1 c2] w fun e w' => Nw w w' e (putL 2 pl nn wa ws bs) := by
  have B0 := bel_alloc w (.cells #[.int .i64 2, .int .i64 pl, .int .i64 nn, .slice a1 l1 c1, .slice a2 l2 c2, .int .i64 wa] 30)
  have X0 := Blk.new w #[.int .i64 2, .int .i64 pl, .int .i64 nn, .slice a1 l1 c1, .slice a2 l2 c2, .int .i64 wa] 30
  have H1 : Hid (l1 = ws.length ∧ l2 = bs.length) := ⟨h1, h2⟩
  have S1 : Hid (SlI w a1 ws ∧ SlB w a2 bs) := ⟨s1, s2⟩
  obtain ⟨x0, x1, x2, x3, x4, x5⟩ := X0.six
  clear h1 h2 s1 s2
  go_enter Tryz.func24, Tryz.ntmps24
  go_wp2_with fail
  refine (specReqOk_q 2 pl nn wa a1 a2 l1 l2 c1 c2 ws bs _ H1.out.1 H1.out.2 (S1.out.1.below B0) (S1.out.2.below B0) hl1 hl2).mono ?_
  rintro e w1 ⟨rfl, b'⟩
  rw [hb]
  have B1 := bel_next B0 b'
  have X1 := X0.below b'
  obtain ⟨y0, y1, y2, y3, y4, y5⟩ := X1.six
  clear X0 x0 x1 x2 x3 x4 x5
  obtain ⟨v0, v1, v2, v3, v4, v5⟩ := (X1.below (bel_alloc w1 (.cells #[.int .u8 2] 5))).six
  go_wp2_with fail
  refine (specPutWord_nw _ _ _ [2] pl _ rfl (sl_lit1 _ _ rfl) (by simp)).mono ?_
  rintro e w2 ⟨g2, c2', n2, rfl, hn2, o2', b2'⟩
  have Bz := bel_next B1 (bel_alloc w1 (.cells #[.int .u8 2] 5))
  have B2 := bel_next Bz b2'
  have X2 := (X1.below (bel_alloc w1 (.cells #[.int .u8 2] 5))).below b2'
  have o2 := own_mono o2' Bz.size
  have Hn2 : Hid (n2 = ([2] ++ wb pl).length) := hn2
  obtain ⟨z0, z1, z2, z3, z4, z5⟩ := X2.six
  clear hn2 o2' b2' b' X1 y0 y1 y2 y3 y4 y5 v0 v1 v2 v3 v4 v5 B0 B1 Bz
  go_wp2_with fail
  refine (specPutWord_nw g2 n2 c2' ([2] ++ wb pl) nn _ Hn2.out o2.sl.2 (by simp [wb])).mono ?_
  rintro e w3 h3
  replace h3 := nw_next B2 h3
  obtain ⟨g, c, n, rfl, h4⟩ := h3
  have H3 : Hid _ := h4
  clear h4
  go_wp2
  go_ret
  exact ⟨g, c, n, rfl, H3.out⟩
set_option maxRecDepth 20000 in
set_option maxHeartbeats 8000000 in
theorem specPut_3 (pl nn wa : Int) (a1 a2 : Option Addr) (l1 l2 c1 c2 : Nat) (ws : List Int) (bs : List Bool) (w : World) (h1 : l1 = ws.length) (h2 : l2 = bs.length) (s1 : SlI w a1 ws) (s2 : SlB w a2 bs) (hl1 : ws.length ≤ 2000000) (hl2 : bs.length ≤ 2000000) (hb : okR 3 pl nn wa ws l1 l2 = true) :
    Calls Tryz.prog 24 #[rq 3 pl nn wa a1 a2 l1 l2 c1 c2] w fun e w' => Nw w w' e (putL 3 pl nn wa ws bs) := by
  have B0 := bel_alloc w (.cells #[.int .i64 3, .int .i64 pl, .int .i64 nn, .slice a1 l1 c1, .slice a2 l2 c2, .int .i64 wa] 30)
  have X0 := Blk.new w #[.int .i64 3, .int .i64 pl, .int .i64 nn, .slice a1 l1 c1, .slice a2 l2 c2, .int .i64 wa] 30
  have H1 : Hid (l1 = ws.length ∧ l2 = bs.length) := ⟨h1, h2⟩
  have S1 : Hid (SlI w a1 ws ∧ SlB w a2 bs) := ⟨s1, s2⟩
  obtain ⟨x0, x1, x2, x3, x4, x5⟩ := X0.six
  clear h1 h2 s1 s2
  go_enter Tryz.func24, Tryz.ntmps24
  go_wp2_with fail
  refine (specReqOk_q 3 pl nn wa a1 a2 l1 l2 c1 c2 ws bs _ H1.out.1 H1.out.2 (S1.out.1.below B0) (S1.out.2.below B0) hl1 hl2).mono ?_
  rintro e w1 ⟨rfl, b'⟩
  rw [hb]
  have B1 := bel_next B0 b'
  have X1 := X0.below b'
  obtain ⟨y0, y1, y2, y3, y4, y5⟩ := X1.six
  clear X0 x0 x1 x2 x3 x4 x5
  obtain ⟨v0, v1, v2, v3, v4, v5⟩ := (X1.below (bel_alloc w1 (.cells #[.int .u8 3] 5))).six
  go_wp2_with fail
  refine (specPutWord_nw _ _ _ [3] pl _ rfl (sl_lit1 _ _ rfl) (by simp)).mono ?_
  rintro e w2 ⟨g2, c2', n2, rfl, hn2, o2', b2'⟩
  have Bz := bel_next B1 (bel_alloc w1 (.cells #[.int .u8 3] 5))
  have B2 := bel_next Bz b2'
  have X2 := (X1.below (bel_alloc w1 (.cells #[.int .u8 3] 5))).below b2'
  have o2 := own_mono o2' Bz.size
  have Hn2 : Hid (n2 = ([3] ++ wb pl).length) := hn2
  obtain ⟨z0, z1, z2, z3, z4, z5⟩ := X2.six
  clear hn2 o2' b2' b' X1 y0 y1 y2 y3 y4 y5 v0 v1 v2 v3 v4 v5 B0 B1 Bz
  go_wp2_with fail
  refine (specPutWord_nw g2 n2 c2' ([3] ++ wb pl) nn _ Hn2.out o2.sl.2 (by simp [wb])).mono ?_
  rintro e w3 h3
  replace h3 := nw_next B2 h3
  obtain ⟨g, c, n, rfl, h4⟩ := h3
  have H3 : Hid _ := h4
  clear h4
  go_wp2
  go_ret
  exact ⟨g, c, n, rfl, H3.out⟩
set_option maxRecDepth 20000 in
set_option maxHeartbeats 8000000 in
theorem specPut_4 (pl nn wa : Int) (a1 a2 : Option Addr) (l1 l2 c1 c2 : Nat) (ws : List Int) (bs : List Bool) (w : World) (h1 : l1 = ws.length) (h2 : l2 = bs.length) (s1 : SlI w a1 ws) (s2 : SlB w a2 bs) (hl1 : ws.length ≤ 2000000) (hl2 : bs.length ≤ 2000000) (hb : okR 4 pl nn wa ws l1 l2 = true) :
    Calls Tryz.prog 24 #[rq 4 pl nn wa a1 a2 l1 l2 c1 c2] w fun e w' => Nw w w' e (putL 4 pl nn wa ws bs) := by
  have B0 := bel_alloc w (.cells #[.int .i64 4, .int .i64 pl, .int .i64 nn, .slice a1 l1 c1, .slice a2 l2 c2, .int .i64 wa] 30)
  have X0 := Blk.new w #[.int .i64 4, .int .i64 pl, .int .i64 nn, .slice a1 l1 c1, .slice a2 l2 c2, .int .i64 wa] 30
  have H1 : Hid (l1 = ws.length ∧ l2 = bs.length) := ⟨h1, h2⟩
  have S1 : Hid (SlI w a1 ws ∧ SlB w a2 bs) := ⟨s1, s2⟩
  obtain ⟨x0, x1, x2, x3, x4, x5⟩ := X0.six
  clear h1 h2 s1 s2
  go_enter Tryz.func24, Tryz.ntmps24
  go_wp2_with fail
  refine (specReqOk_q 4 pl nn wa a1 a2 l1 l2 c1 c2 ws bs _ H1.out.1 H1.out.2 (S1.out.1.below B0) (S1.out.2.below B0) hl1 hl2).mono ?_
  rintro e w1 ⟨rfl, b'⟩
  rw [hb]
  have B1 := bel_next B0 b'
  have X1 := X0.below b'
  obtain ⟨y0, y1, y2, y3, y4, y5⟩ := X1.six
  clear X0 x0 x1 x2 x3 x4 x5
  obtain ⟨v0, v1, v2, v3, v4, v5⟩ := (X1.below (bel_alloc w1 (.cells #[.int .u8 4] 5))).six
  go_wp2_with fail
  refine (specPutWord_nw _ _ _ [4] pl _ rfl (sl_lit1 _ _ rfl) (by simp)).mono ?_
  rintro e w2 ⟨g2, c2', n2, rfl, hn2, o2', b2'⟩
  have Bz := bel_next B1 (bel_alloc w1 (.cells #[.int .u8 4] 5))
  have B2 := bel_next Bz b2'
  have X2 := (X1.below (bel_alloc w1 (.cells #[.int .u8 4] 5))).below b2'
  have o2 := own_mono o2' Bz.size
  have Hn2 : Hid (n2 = ([4] ++ wb pl).length) := hn2
  obtain ⟨z0, z1, z2, z3, z4, z5⟩ := X2.six
  clear hn2 o2' b2' b' X1 y0 y1 y2 y3 y4 y5 v0 v1 v2 v3 v4 v5 B0 B1 Bz
  go_wp2_with fail
  refine (specPutWord_nw g2 n2 c2' ([4] ++ wb pl) nn _ Hn2.out o2.sl.2 (by simp [wb])).mono ?_
  rintro e w3 h3
  replace h3 := nw_next B2 h3
  obtain ⟨g, c, n, rfl, h4⟩ := h3
  have H3 : Hid _ := h4
  clear h4
  go_wp2
  go_ret
  exact ⟨g, c, n, rfl, H3.out⟩
set_option maxRecDepth 20000 in
set_option maxHeartbeats 8000000 in
theorem specPut_5 (pl nn wa : Int) (a1 a2 : Option Addr) (l1 l2 c1 c2 : Nat) (ws : List Int) (bs : List Bool) (w : World) (h1 : l1 = ws.length) (h2 : l2 = bs.length) (s1 : SlI w a1 ws) (s2 : SlB w a2 bs) (hl1 : ws.length ≤ 2000000) (hl2 : bs.length ≤ 2000000) (hb : okR 5 pl nn wa ws l1 l2 = true) :
    Calls Tryz.prog 24 #[rq 5 pl nn wa a1 a2 l1 l2 c1 c2] w fun e w' => Nw w w' e (putL 5 pl nn wa ws bs) := by
  have hL : l2 = 1 := by rw [okI_5 _ _ _ _ _ _ h1] at hb; simp [rnB, inB] at hb; omega
  have HLn : Hid (l2 = 1) := hL
  clear hL
  have B0 := bel_alloc w (.cells #[.int .i64 5, .int .i64 pl, .int .i64 nn, .slice a1 l1 c1, .slice a2 l2 c2, .int .i64 wa] 30)
  have X0 := Blk.new w #[.int .i64 5, .int .i64 pl, .int .i64 nn, .slice a1 l1 c1, .slice a2 l2 c2, .int .i64 wa] 30
  have H1 : Hid (l1 = ws.length ∧ l2 = bs.length) := ⟨h1, h2⟩
  have S1 : Hid (SlI w a1 ws ∧ SlB w a2 bs) := ⟨s1, s2⟩
  obtain ⟨x0, x1, x2, x3, x4, x5⟩ := X0.six
  clear h1 h2 s1 s2
  go_enter Tryz.func24, Tryz.ntmps24
  go_wp2_with fail
  refine (specReqOk_q 5 pl nn wa a1 a2 l1 l2 c1 c2 ws bs _ H1.out.1 H1.out.2 (S1.out.1.below B0) (S1.out.2.below B0) hl1 hl2).mono ?_
  rintro e w1 ⟨rfl, b'⟩
  rw [hb]
  have B1 := bel_next B0 b'
  have X1 := X0.below b'
  obtain ⟨y0, y1, y2, y3, y4, y5⟩ := X1.six
  clear X0 x0 x1 x2 x3 x4 x5
  obtain ⟨v0, v1, v2, v3, v4, v5⟩ := (X1.below (bel_alloc w1 (.cells #[.int .u8 5] 5))).six
  go_wp2_with fail
  refine (specPutWord_nw _ _ _ [5] pl _ rfl (sl_lit1 _ _ rfl) (by simp)).mono ?_
  rintro e w2 ⟨g2, c2', n2, rfl, hn2, o2', b2'⟩
  have Bz := bel_next B1 (bel_alloc w1 (.cells #[.int .u8 5] 5))
  have B2 := bel_next Bz b2'
  have X2 := (X1.below (bel_alloc w1 (.cells #[.int .u8 5] 5))).below b2'
  have o2 := own_mono o2' Bz.size
  have Hn2 : Hid (n2 = ([5] ++ wb pl).length) := hn2
  obtain ⟨z0, z1, z2, z3, z4, z5⟩ := X2.six
  clear hn2 o2' b2' b' X1 y0 y1 y2 y3 y4 y5 v0 v1 v2 v3 v4 v5 B0 B1 Bz
  obtain ⟨bk, off, ea, hbk, hc⟩ := cell_atB (S1.out.2.below B2) (show 0 < bs.length by have := H1.out; have := HLn.out; omega)
  have hc0 : w2.cell? ⟨bk, off, none⟩ = some (.bool (bs.getD 0 false)) := by simpa using hc
  have hL0 : (0 : Int) < (l2 : Int) := by have := HLn.out; omega
  subst ea
  clear hc
  generalize hx : bs.getD 0 false = x at *
  go_wp2_with fail
  refine (l3Coil_any g2 n2 c2' ([5] ++ wb pl) x _ w.heap.size B2.size o2 (by simp [wb])).mono ?_
  rintro e w3 ⟨g, c, n, rfl, hn3, o3, _, hbb⟩
  have e3 : ([5] ++ wb pl) ++ [bif x then 255 else 0, 0] = putL 5 pl nn wa ws bs := by unfold putL; rw [hx]; cases x <;> rfl
  have R : Nw w w3 (.returned (.slice (some ⟨g, 0, none⟩) n c)) (putL 5 pl nn wa ws bs) := by rw [← e3]; exact ⟨g, c, n, rfl, hn3, o3, hbb _ B2⟩
  clear hn3 o3 hbb e3
  go_wp2
  go_ret
  exact R
set_option maxRecDepth 20000 in
set_option maxHeartbeats 8000000 in
theorem specPut_6 (pl nn wa : Int) (a1 a2 : Option Addr) (l1 l2 c1 c2 : Nat) (ws : List Int) (bs : List Bool) (w : World) (h1 : l1 = ws.length) (h2 : l2 = bs.length) (s1 : SlI w a1 ws) (s2 : SlB w a2 bs) (hl1 : ws.length ≤ 2000000) (hl2 : bs.length ≤ 2000000) (hb : okR 6 pl nn wa ws l1 l2 = true) :
    Calls Tryz.prog 24 #[rq 6 pl nn wa a1 a2 l1 l2 c1 c2] w fun e w' => Nw w w' e (putL 6 pl nn wa ws bs) := by
  have hL : l1 = 1 := by rw [okI_6 _ _ _ _ _ _ h1] at hb; simp [rnB, inB] at hb; omega
  have HLn : Hid (l1 = 1) := hL
  clear hL
  have B0 := bel_alloc w (.cells #[.int .i64 6, .int .i64 pl, .int .i64 nn, .slice a1 l1 c1, .slice a2 l2 c2, .int .i64 wa] 30)
  have X0 := Blk.new w #[.int .i64 6, .int .i64 pl, .int .i64 nn, .slice a1 l1 c1, .slice a2 l2 c2, .int .i64 wa] 30
  have H1 : Hid (l1 = ws.length ∧ l2 = bs.length) := ⟨h1, h2⟩
  have S1 : Hid (SlI w a1 ws ∧ SlB w a2 bs) := ⟨s1, s2⟩
  obtain ⟨x0, x1, x2, x3, x4, x5⟩ := X0.six
  clear h1 h2 s1 s2
  go_enter Tryz.func24, Tryz.ntmps24
  go_wp2_with fail
  refine (specReqOk_q 6 pl nn wa a1 a2 l1 l2 c1 c2 ws bs _ H1.out.1 H1.out.2 (S1.out.1.below B0) (S1.out.2.below B0) hl1 hl2).mono ?_
  rintro e w1 ⟨rfl, b'⟩
  rw [hb]
  have B1 := bel_next B0 b'
  have X1 := X0.below b'
  obtain ⟨y0, y1, y2, y3, y4, y5⟩ := X1.six
  clear X0 x0 x1 x2 x3 x4 x5
  obtain ⟨v0, v1, v2, v3, v4, v5⟩ := (X1.below (bel_alloc w1 (.cells #[.int .u8 6] 5))).six
  go_wp2_with fail
  refine (specPutWord_nw _ _ _ [6] pl _ rfl (sl_lit1 _ _ rfl) (by simp)).mono ?_
  rintro e w2 ⟨g2, c2', n2, rfl, hn2, o2', b2'⟩
  have Bz := bel_next B1 (bel_alloc w1 (.cells #[.int .u8 6] 5))
  have B2 := bel_next Bz b2'
  have X2 := (X1.below (bel_alloc w1 (.cells #[.int .u8 6] 5))).below b2'
  have o2 := own_mono o2' Bz.size
  have Hn2 : Hid (n2 = ([6] ++ wb pl).length) := hn2
  obtain ⟨z0, z1, z2, z3, z4, z5⟩ := X2.six
  clear hn2 o2' b2' b' X1 y0 y1 y2 y3 y4 y5 v0 v1 v2 v3 v4 v5 B0 B1 Bz
  go_wp2_with fail
  refine (l3PutWords_any g2 n2 c2' ([6] ++ wb pl) _ _ _ ws _ Hn2.out o2.sl.2 (by simp [wb]) H1.out.1 (S1.out.1.below B2) (by have := H1.out; have := HLn.out; omega) (by have := H1.out; have := HLn.out; omega)).mono ?_
  rintro e w3 h3
  replace h3 := nw_next B2 h3
  obtain ⟨g, c, n, rfl, h4⟩ := h3
  have H3 : Hid _ := h4
  clear h4
  go_wp2
  go_ret
  exact ⟨g, c, n, rfl, H3.out⟩
set_option maxRecDepth 20000 in
set_option maxHeartbeats 8000000 in
theorem specPut_22 (pl nn wa : Int) (a1 a2 : Option Addr) (l1 l2 c1 c2 : Nat) (ws : List Int) (bs : List Bool) (w : World) (h1 : l1 = ws.length) (h2 : l2 = bs.length) (s1 : SlI w a1 ws) (s2 : SlB w a2 bs) (hl1 : ws.length ≤ 2000000) (hl2 : bs.length ≤ 2000000) (hb : okR 22 pl nn wa ws l1 l2 = true) :
    Calls Tryz.prog 24 #[rq 22 pl nn wa a1 a2 l1 l2 c1 c2] w fun e w' => Nw w w' e (putL 22 pl nn wa ws bs) := by
  have hL : l1 = 2 := by rw [okI_22 _ _ _ _ _ _ h1] at hb; simp [rnB, inB] at hb; omega
  have HLn : Hid (l1 = 2) := hL
  clear hL
  have B0 := bel_alloc w (.cells #[.int .i64 22, .int .i64 pl, .int .i64 nn, .slice a1 l1 c1, .slice a2 l2 c2, .int .i64 wa] 30)
  have X0 := Blk.new w #[.int .i64 22, .int .i64 pl, .int .i64 nn, .slice a1 l1 c1, .slice a2 l2 c2, .int .i64 wa] 30
  have H1 : Hid (l1 = ws.length ∧ l2 = bs.length) := ⟨h1, h2⟩
  have S1 : Hid (SlI w a1 ws ∧ SlB w a2 bs) := ⟨s1, s2⟩
  obtain ⟨x0, x1, x2, x3, x4, x5⟩ := X0.six
  clear h1 h2 s1 s2
  go_enter Tryz.func24, Tryz.ntmps24
  go_wp2_with fail
  refine (specReqOk_q 22 pl nn wa a1 a2 l1 l2 c1 c2 ws bs _ H1.out.1 H1.out.2 (S1.out.1.below B0) (S1.out.2.below B0) hl1 hl2).mono ?_
  rintro e w1 ⟨rfl, b'⟩
  rw [hb]
  have B1 := bel_next B0 b'
  have X1 := X0.below b'
  obtain ⟨y0, y1, y2, y3, y4, y5⟩ := X1.six
  clear X0 x0 x1 x2 x3 x4 x5
  obtain ⟨v0, v1, v2, v3, v4, v5⟩ := (X1.below (bel_alloc w1 (.cells #[.int .u8 22] 5))).six
  go_wp2_with fail
  refine (specPutWord_nw _ _ _ [22] pl _ rfl (sl_lit1 _ _ rfl) (by simp)).mono ?_
  rintro e w2 ⟨g2, c2', n2, rfl, hn2, o2', b2'⟩
  have Bz := bel_next B1 (bel_alloc w1 (.cells #[.int .u8 22] 5))
  have B2 := bel_next Bz b2'
  have X2 := (X1.below (bel_alloc w1 (.cells #[.int .u8 22] 5))).below b2'
  have o2 := own_mono o2' Bz.size
  have Hn2 : Hid (n2 = ([22] ++ wb pl).length) := hn2
  obtain ⟨z0, z1, z2, z3, z4, z5⟩ := X2.six
  clear hn2 o2' b2' b' X1 y0 y1 y2 y3 y4 y5 v0 v1 v2 v3 v4 v5 B0 B1 Bz
  go_wp2_with fail
  refine (l3PutWords_any g2 n2 c2' ([22] ++ wb pl) _ _ _ ws _ Hn2.out o2.sl.2 (by simp [wb]) H1.out.1 (S1.out.1.below B2) (by have := H1.out; have := HLn.out; omega) (by have := H1.out; have := HLn.out; omega)).mono ?_
  rintro e w3 h3
  replace h3 := nw_next B2 h3
  obtain ⟨g, c, n, rfl, h4⟩ := h3
  have H3 : Hid _ := h4
  clear h4
  go_wp2
  go_ret
  exact ⟨g, c, n, rfl, H3.out⟩
set_option maxRecDepth 20000 in
set_option maxHeartbeats 8000000 in
theorem specPut_15 (pl nn wa : Int) (a1 a2 : Option Addr) (l1 l2 c1 c2 : Nat) (ws : List Int) (bs : List Bool) (w : World) (h1 : l1 = ws.length) (h2 : l2 = bs.length) (s1 : SlI w a1 ws) (s2 : SlB w a2 bs) (hl1 : ws.length ≤ 2000000) (hl2 : bs.length ≤ 2000000) (hb : okR 15 pl nn wa ws l1 l2 = true) :
    Calls Tryz.prog 24 #[rq 15 pl nn wa a1 a2 l1 l2 c1 c2] w fun e w' => Nw w w' e (putL 15 pl nn wa ws bs) := by
  have hL : 1 ≤ l2 ∧ l2 ≤ 1968 := by rw [okI_15 _ _ _ _ _ _ h1] at hb; simp [rnB, inB] at hb; omega
  have HLn : Hid (1 ≤ l2 ∧ l2 ≤ 1968) := hL
  clear hL
  have B0 := bel_alloc w (.cells #[.int .i64 15, .int .i64 pl, .int .i64 nn, .slice a1 l1 c1, .slice a2 l2 c2, .int .i64 wa] 30)
  have X0 := Blk.new w #[.int .i64 15, .int .i64 pl, .int .i64 nn, .slice a1 l1 c1, .slice a2 l2 c2, .int .i64 wa] 30
  have H1 : Hid (l1 = ws.length ∧ l2 = bs.length) := ⟨h1, h2⟩
  have S1 : Hid (SlI w a1 ws ∧ SlB w a2 bs) := ⟨s1, s2⟩
  obtain ⟨x0, x1, x2, x3, x4, x5⟩ := X0.six
  clear h1 h2 s1 s2
  go_enter Tryz.func24, Tryz.ntmps24
  go_wp2_with fail
  refine (specReqOk_q 15 pl nn wa a1 a2 l1 l2 c1 c2 ws bs _ H1.out.1 H1.out.2 (S1.out.1.below B0) (S1.out.2.below B0) hl1 hl2).mono ?_
  rintro e w1 ⟨rfl, b'⟩
  rw [hb]
  have B1 := bel_next B0 b'
  have X1 := X0.below b'
  obtain ⟨y0, y1, y2, y3, y4, y5⟩ := X1.six
  clear X0 x0 x1 x2 x3 x4 x5
  obtain ⟨v0, v1, v2, v3, v4, v5⟩ := (X1.below (bel_alloc w1 (.cells #[.int .u8 15] 5))).six
  go_wp2_with fail
  refine (specPutWord_nw _ _ _ [15] pl _ rfl (sl_lit1 _ _ rfl) (by simp)).mono ?_
  rintro e w2 ⟨g2, c2', n2, rfl, hn2, o2', b2'⟩
  have Bz := bel_next B1 (bel_alloc w1 (.cells #[.int .u8 15] 5))
  have B2 := bel_next Bz b2'
  have X2 := (X1.below (bel_alloc w1 (.cells #[.int .u8 15] 5))).below b2'
  have o2 := own_mono o2' Bz.size
  have Hn2 : Hid (n2 = ([15] ++ wb pl).length) := hn2
  obtain ⟨z0, z1, z2, z3, z4, z5⟩ := X2.six
  clear hn2 o2' b2' b' X1 y0 y1 y2 y3 y4 y5 v0 v1 v2 v3 v4 v5 B0 B1 Bz
  go_wp2_with fail
  refine (specPack_nw _ _ _ bs _ H1.out.2 (S1.out.2.below B2) (by have := HLn.out; omega)).mono ?_
  rintro e w3 ⟨gP, cP, nP, rfl, hnP, oP, b3'⟩
  have B3 := bel_next B2 b3'
  have X3 := X2.below b3'
  have o3 := o2.below b3'
  have HnP : Hid (nP = (packL bs).length) := hnP
  obtain ⟨y0, y1, y2, y3, y4, y5⟩ := X3.six
  clear hnP b3' X2 o2 z0 z1 z2 z3 z4 z5
  go_wp2_with fail
  refine (specPutWord_nw g2 n2 c2' ([15] ++ wb pl) (l2 : Int) _ Hn2.out o3.sl.2 (by simp [wb])).mono ?_
  rintro e w4 ⟨g4, c4, n4, rfl, hn4, o4', b4'⟩
  have B4 := bel_next B3 b4'
  have o4 := own_mono o4' B3.size
  have oP4 := oP.below b4'
  have ne45 : Hid (¬ gP = g4) := by have a := (oP.lt gP rfl).2; have b := (o4'.lt g4 rfl).1; show ¬ gP = g4; omega
  clear hn4 o4' b4' oP o3 X3 y0 y1 y2 y3 y4 y5
  have lP : (packL bs).length ≤ 1000 := by rw [packL_length]; have := HLn.out; have := H1.out; omega
  have lZ : (([15] ++ wb pl) ++ wb (l2 : Int)).length = 5 := by simp [wb]
  go_wp2_with (first | (at_builtin; refine wpList_app rfl (.tmp 42) (.tmp 46) rfl w.heap.size (.slice (some ⟨g4, 0, none⟩) n4 c4) (([15] ++ wb pl) ++ wb (l2 : Int)) rfl (o4.below (bel_alloc _ _)) ⟨w4.heap.size, 0, none⟩ 1 1 [(nP : Int) % 256] rfl rfl (sl_lit1 _ _ rfl) (by rw [lZ]; simp) (by have := B4.size; simp; omega) ?_; intro v5 w5 o5 g5) | (at_builtin; refine wpList_app rfl (.tmp 47) (.tmp 48) rfl w.heap.size v5 (([15] ++ wb pl) ++ wb (l2 : Int) ++ [(nP : Int) % 256]) rfl o5 ⟨gP, 0, none⟩ nP cP (packL bs) rfl HnP.out (((oP4.below (bel_alloc _ _)).kept g5 (.inr (by simp [Value.ownBlock]; exact ne45.out))).sl.2) (by rw [List.length_append, lZ]; simp; omega) (by have := B4.size; have := g5.size; simp at this; omega) ?_; intro v6 w6 o6 g6))
  have B5 := bel_grown (bel_next B4 (bel_alloc w4 (.cells #[.int .u8 ((nP : Int) % 256)] 5))) (o4.below (bel_alloc _ _)) g5 (Nat.le_refl _) (by have := B4.size; simp; omega)
  have B6 := bel_grown B5 o5 g6 (Nat.le_refl _) B5.size
  have e3 : ([15] ++ wb pl) ++ wb (l2 : Int) ++ [(nP : Int) % 256] ++ packL bs = putL 15 pl nn wa ws bs := by rw [HnP.out, packL_length, H1.out.2]; rfl
  rw [e3] at o6
  obtain ⟨g, c, n, hv, hn⟩ := own_some' o6 (by rw [← e3]; simp)
  subst hv
  have R : Nw w w6 (.returned (.slice (some ⟨g, 0, none⟩) n c)) (putL 15 pl nn wa ws bs) := ⟨g, c, n, rfl, hn, o6, B6⟩
  clear o6 hn e3
  go_ret
  exact R
set_option maxRecDepth 20000 in
set_option maxHeartbeats 8000000 in
theorem specPut_16 (pl nn wa : Int) (a1 a2 : Option Addr) (l1 l2 c1 c2 : Nat) (ws : List Int) (bs : List Bool) (w : World) (h1 : l1 = ws.length) (h2 : l2 = bs.length) (s1 : SlI w a1 ws) (s2 : SlB w a2 bs) (hl1 : ws.length ≤ 2000000) (hl2 : bs.length ≤ 2000000) (hb : okR 16 pl nn wa ws l1 l2 = true) :
    Calls Tryz.prog 24 #[rq 16 pl nn wa a1 a2 l1 l2 c1 c2] w fun e w' => Nw w w' e (putL 16 pl nn wa ws bs) := by
  have hL : 1 ≤ l1 ∧ l1 ≤ 123 := by rw [okI_16 _ _ _ _ _ _ h1] at hb; simp [rnB, inB] at hb; omega
  have HLn : Hid (1 ≤ l1 ∧ l1 ≤ 123) := hL
  clear hL
  have B0 := bel_alloc w (.cells #[.int .i64 16, .int .i64 pl, .int .i64 nn, .slice a1 l1 c1, .slice a2 l2 c2, .int .i64 wa] 30)
  have X0 := Blk.new w #[.int .i64 16, .int .i64 pl, .int .i64 nn, .slice a1 l1 c1, .slice a2 l2 c2, .int .i64 wa] 30
  have H1 : Hid (l1 = ws.length ∧ l2 = bs.length) := ⟨h1, h2⟩
  have S1 : Hid (SlI w a1 ws ∧ SlB w a2 bs) := ⟨s1, s2⟩
  obtain ⟨x0, x1, x2, x3, x4, x5⟩ := X0.six
  clear h1 h2 s1 s2
  go_enter Tryz.func24, Tryz.ntmps24
  go_wp2_with fail
  refine (specReqOk_q 16 pl nn wa a1 a2 l1 l2 c1 c2 ws bs _ H1.out.1 H1.out.2 (S1.out.1.below B0) (S1.out.2.below B0) hl1 hl2).mono ?_
  rintro e w1 ⟨rfl, b'⟩
  rw [hb]
  have B1 := bel_next B0 b'
  have X1 := X0.below b'
  obtain ⟨y0, y1, y2, y3, y4, y5⟩ := X1.six
  clear X0 x0 x1 x2 x3 x4 x5
  obtain ⟨v0, v1, v2, v3, v4, v5⟩ := (X1.below (bel_alloc w1 (.cells #[.int .u8 16] 5))).six
  go_wp2_with fail
  refine (specPutWord_nw _ _ _ [16] pl _ rfl (sl_lit1 _ _ rfl) (by simp)).mono ?_
  rintro e w2 ⟨g2, c2', n2, rfl, hn2, o2', b2'⟩
  have Bz := bel_next B1 (bel_alloc w1 (.cells #[.int .u8 16] 5))
  have B2 := bel_next Bz b2'
  have X2 := (X1.below (bel_alloc w1 (.cells #[.int .u8 16] 5))).below b2'
  have o2 := own_mono o2' Bz.size
  have Hn2 : Hid (n2 = ([16] ++ wb pl).length) := hn2
  obtain ⟨z0, z1, z2, z3, z4, z5⟩ := X2.six
  clear hn2 o2' b2' b' X1 y0 y1 y2 y3 y4 y5 v0 v1 v2 v3 v4 v5 B0 B1 Bz
  have q1 := (bel_next B2 (bel_alloc w2 (.cells #[.int .u8 (IntKind.u8.wrap (IntKind.i64.wrap (2 * (l1 : Int))))] 5))).drew
  have X21 := (X2.below (bel_alloc w2 (.cells #[.int .u8 (IntKind.u8.wrap (IntKind.i64.wrap (2 * (l1 : Int))))] 5))).below (Below.refl _ _).drew
  have k1 := (X2.below (bel_alloc w2 (.cells #[.int .u8 (IntKind.u8.wrap (IntKind.i64.wrap (2 * (l1 : Int))))] 5))).cell 3 rfl
  have b20 : Below w2.heap.size w2 w2.drew := (Below.refl _ _).drew
  have b21 : Below w2.heap.size w2 (w2.alloc (.cells #[.int .u8 (IntKind.u8.wrap (IntKind.i64.wrap (2 * (l1 : Int))))] 5)).drew := (bel_alloc w2 _).drew
  have L1 := (sl_lit1 w2 (IntKind.u8.wrap (IntKind.i64.wrap (2 * (l1 : Int)))) rfl).below (Below.refl _ _).drew
  have hl0 : (0 : Int) ≤ (l1 : Int) ∧ (l1 : Int) ≤ 123 := by have := HLn.out; omega
  have lZ : ([16] ++ wb pl ++ wb (l1 : Int)).length = 5 := by simp [wb]
  have E3 : Hid ([16] ++ wb pl ++ wb (l1 : Int) ++ [IntKind.u8.wrap (IntKind.i64.wrap (2 * (l1 : Int)))] ++ wbs ws = putL 16 pl nn wa ws bs) := by show _ = _; rw [byte_wrap l1 (by omega), H1.out.1]; rfl
  go_upto_region 14 with fail
  go_region_held3 (fun w' => w'.cell? ⟨w.heap.size, 3, none⟩ = some (.slice a1 l1 c1)) (go_keep)
    (first
      | (go_at_call 31; refine (specPutWord_nw g2 n2 c2' ([16] ++ wb pl) (l1 : Int) _ Hn2.out (by first | exact o2.sl.2.below b20 | exact o2.sl.2.below b21) (by simp [wb])).mono ?_; rintro e wA ⟨gA, cA, nA, rfl, hnA, oA', bA⟩; have BA := bel_next (w0 := w) (by first | exact B2.drew | exact q1) bA; have XA := Blk.below (by first | exact X2.below b20 | exact X21) bA; have oA := own_mono oA' (by first | exact B2.drew.size | exact q1.size); have kA := XA.cell 3 rfl; have kA1 := (XA.below (bel_alloc wA (.cells #[.int .u8 (IntKind.u8.wrap (IntKind.i64.wrap (2 * (l1 : Int))))] 5))).cell 3 rfl; clear hnA oA')
      | (refine step_app rfl (.tmp 56) (.tmp 62) rfl w.heap.size (.slice (some ⟨gA, 0, none⟩) nA cA) ([16] ++ wb pl ++ wb (l1 : Int)) rfl (oA.below (bel_alloc _ _)) ⟨wA.heap.size, 0, none⟩ 1 1 [IntKind.u8.wrap (IntKind.i64.wrap (2 * (l1 : Int)))] rfl rfl (sl_lit1 _ _ rfl) (by rw [lZ]; simp) (by have := BA.size; simp; omega) ?_; intro vB wB oB gB; have BB := bel_grown (bel_next BA (bel_alloc _ _)) (oA.below (bel_alloc _ _)) gB (Nat.le_refl _) (by have := BA.size; simp; omega); have kB : wB.cell? ⟨w.heap.size, 3, none⟩ = _ := (Blk.grown (XA.below (bel_alloc _ _)) gB (row_noBlk (oA.below (bel_alloc wA (.cells #[.int .u8 (IntKind.u8.wrap (IntKind.i64.wrap (2 * (l1 : Int))))] 5))) (XA.below (bel_alloc wA (.cells #[.int .u8 (IntKind.u8.wrap (IntKind.i64.wrap (2 * (l1 : Int))))] 5))) (by decide))).cell 3 rfl; obtain ⟨gB', cB', nB', hvB, hnB⟩ := own_some' oB (by simp); subst hvB; have HnB : Hid _ := hnB; clear hnB gB)
      | (refine step_app rfl (.tmp 56) (.tmp 62) rfl w.heap.size (.slice (some ⟨gA, 0, none⟩) nA cA) ([16] ++ wb pl ++ wb (l1 : Int)) rfl oA ⟨w2.heap.size, 0, none⟩ 1 1 [IntKind.u8.wrap (IntKind.i64.wrap (2 * (l1 : Int)))] rfl rfl (L1.below bA) (by rw [lZ]; simp) BA.size ?_; intro vB wB oB gB; have BB := bel_grown BA oA gB (Nat.le_refl _) BA.size; have kB : wB.cell? ⟨w.heap.size, 3, none⟩ = _ := (Blk.grown XA gB (row_noBlk oA XA (by decide))).cell 3 rfl; obtain ⟨gB', cB', nB', hvB, hnB⟩ := own_some' oB (by simp); subst hvB; have HnB : Hid _ := hnB; clear hnB gB)
      | (go_at_call 29; refine (l3PutWords_any gB' nB' cB' ([16] ++ wb pl ++ wb (l1 : Int) ++ [IntKind.u8.wrap (IntKind.i64.wrap (2 * (l1 : Int)))]) _ _ _ ws _ HnB.out oB.sl.2 (by rw [List.length_append, lZ]; simp) H1.out.1 (S1.out.1.below BB) (by have := H1.out; have := HLn.out; omega) (by have := H1.out; have := HLn.out; omega)).mono ?_; rintro e w3 h3; have XC := h3.bel; have k3 : w3.cell? ⟨w.heap.size, 3, none⟩ = _ := (XC.cell (p := ⟨w.heap.size, 3, none⟩) (World.block_lt_of_cell? _ _ kB)).trans kB; replace h3 := nw_next BB h3; obtain ⟨g, c, n, rfl, h4⟩ := h3; have H3 : Hid _ := h4; clear h4))
  all_goals (go_wp2; go_ret; rw [← E3.out]; exact ⟨g, c, n, rfl, H3.out⟩)
set_option maxRecDepth 20000 in
set_option maxHeartbeats 8000000 in
theorem specPut_23 (pl nn wa : Int) (a1 a2 : Option Addr) (l1 l2 c1 c2 : Nat) (ws : List Int) (bs : List Bool) (w : World) (h1 : l1 = ws.length) (h2 : l2 = bs.length) (s1 : SlI w a1 ws) (s2 : SlB w a2 bs) (hl1 : ws.length ≤ 2000000) (hl2 : bs.length ≤ 2000000) (hb : okR 23 pl nn wa ws l1 l2 = true) :
    Calls Tryz.prog 24 #[rq 23 pl nn wa a1 a2 l1 l2 c1 c2] w fun e w' => Nw w w' e (putL 23 pl nn wa ws bs) := by
  have hL : 1 ≤ l1 ∧ l1 ≤ 121 := by rw [okI_23 _ _ _ _ _ _ h1] at hb; simp [rnB, inB] at hb; omega
  have HLn : Hid (1 ≤ l1 ∧ l1 ≤ 121) := hL
  clear hL
  have B0 := bel_alloc w (.cells #[.int .i64 23, .int .i64 pl, .int .i64 nn, .slice a1 l1 c1, .slice a2 l2 c2, .int .i64 wa] 30)
  have X0 := Blk.new w #[.int .i64 23, .int .i64 pl, .int .i64 nn, .slice a1 l1 c1, .slice a2 l2 c2, .int .i64 wa] 30
  have H1 : Hid (l1 = ws.length ∧ l2 = bs.length) := ⟨h1, h2⟩
  have S1 : Hid (SlI w a1 ws ∧ SlB w a2 bs) := ⟨s1, s2⟩
  obtain ⟨x0, x1, x2, x3, x4, x5⟩ := X0.six
  clear h1 h2 s1 s2
  go_enter Tryz.func24, Tryz.ntmps24
  go_wp2_with fail
  refine (specReqOk_q 23 pl nn wa a1 a2 l1 l2 c1 c2 ws bs _ H1.out.1 H1.out.2 (S1.out.1.below B0) (S1.out.2.below B0) hl1 hl2).mono ?_
  rintro e w1 ⟨rfl, b'⟩
  rw [hb]
  have B1 := bel_next B0 b'
  have X1 := X0.below b'
  obtain ⟨y0, y1, y2, y3, y4, y5⟩ := X1.six
  clear X0 x0 x1 x2 x3 x4 x5
  obtain ⟨v0, v1, v2, v3, v4, v5⟩ := (X1.below (bel_alloc w1 (.cells #[.int .u8 23] 5))).six
  go_wp2_with fail
  refine (specPutWord_nw _ _ _ [23] pl _ rfl (sl_lit1 _ _ rfl) (by simp)).mono ?_
  rintro e w2 ⟨g2, c2', n2, rfl, hn2, o2', b2'⟩
  have Bz := bel_next B1 (bel_alloc w1 (.cells #[.int .u8 23] 5))
  have B2 := bel_next Bz b2'
  have X2 := (X1.below (bel_alloc w1 (.cells #[.int .u8 23] 5))).below b2'
  have o2 := own_mono o2' Bz.size
  have Hn2 : Hid (n2 = ([23] ++ wb pl).length) := hn2
  obtain ⟨z0, z1, z2, z3, z4, z5⟩ := X2.six
  clear hn2 o2' b2' b' X1 y0 y1 y2 y3 y4 y5 v0 v1 v2 v3 v4 v5 B0 B1 Bz
  have b20 : Below w2.heap.size w2 w2.drew := (Below.refl _ _).drew
  have hl0 : (0 : Int) ≤ (l1 : Int) ∧ (l1 : Int) ≤ 121 := by have := HLn.out; omega
  have E3 : Hid ([23] ++ wb pl ++ wb nn ++ wb wa ++ wb (l1 : Int) ++ [IntKind.u8.wrap (IntKind.i64.wrap (2 * (l1 : Int)))] ++ wbs ws = putL 23 pl nn wa ws bs) := by show _ = _; rw [byte_wrap l1 (by omega), H1.out.1]; rfl
  go_upto_region 16 with fail
  go_region_held3 (fun w' => w'.cell? ⟨w.heap.size, 2, none⟩ = some (.int .i64 nn) ∧ w'.cell? ⟨w.heap.size, 3, none⟩ = some (.slice a1 l1 c1) ∧ w'.cell? ⟨w.heap.size, 5, none⟩ = some (.int .i64 wa)) (go_keep)
    (first
      | (go_at_call_of 31 n2; refine (specPutWord_nw g2 n2 c2' ([23] ++ wb pl) nn _ Hn2.out (o2.sl.2.below b20) (by simp [wb])).mono ?_; rintro e wA ⟨gA, cA, nA, rfl, hnA, oA, bA⟩; have BA := bel_next (w0 := w) B2.drew bA; have XA := Blk.below (X2.below b20) bA; have kA := XA.cell 2 rfl; have kA1 := XA.cell 3 rfl; have kA2 := XA.cell 5 rfl; have HnA : Hid _ := hnA; clear hnA)
      | (go_at_call_of 31 nA; refine (specPutWord_nw gA nA cA ([23] ++ wb pl ++ wb nn) wa _ HnA.out oA.sl.2 (by simp [wb])).mono ?_; rintro e wB ⟨gB, cB, nB, rfl, hnB, oB, bB⟩; have BB := bel_next BA bB; have XB := XA.below bB; have kB := XB.cell 2 rfl; have kB1 := XB.cell 3 rfl; have kB2 := XB.cell 5 rfl; have HnB : Hid _ := hnB; clear hnB)
      | (go_at_call_of 31 nB; refine (specPutWord_nw gB nB cB ([23] ++ wb pl ++ wb nn ++ wb wa) (l1 : Int) _ HnB.out oB.sl.2 (by simp [wb])).mono ?_; rintro e wC ⟨gC, cC, nC, rfl, hnC, oC', bC⟩; have BC := bel_next BB bC; have XC := XB.below bC; have kC := XC.cell 2 rfl; have kC1 := XC.cell 3 rfl; have kC2 := XC.cell 5 rfl; have oC := own_mono oC' BB.size; clear hnC oC'))
  clear kA kA1 kA2 kB kB1 kB2 XA XB BA BB oA oB bA bB bC HnA HnB X2 z0 z1 z2 z3 z4 z5 b20 o2
  have lZ : ([23] ++ wb pl ++ wb nn ++ wb wa ++ wb (l1 : Int)).length = 9 := by simp [wb]
  have bC1 : Below wC.heap.size wC (wC.alloc (.cells #[.int .u8 (IntKind.u8.wrap (IntKind.i64.wrap (2 * (l1 : Int))))] 5)).drew := (bel_alloc wC _).drew
  have L1 := (sl_lit1 wC (IntKind.u8.wrap (IntKind.i64.wrap (2 * (l1 : Int)))) rfl).below (Below.refl _ _).drew
  have qC := bel_next BC bC1
  have kC3 := (XC.below (bel_alloc wC (.cells #[.int .u8 (IntKind.u8.wrap (IntKind.i64.wrap (2 * (l1 : Int))))] 5))).cell 3 rfl
  go_upto_region 17 with fail
  go_region_held3 (fun w' => w'.cell? ⟨w.heap.size, 3, none⟩ = some (.slice a1 l1 c1)) (go_keep)
    (first
      | (refine step_app rfl (.tmp 80) (.tmp 86) rfl w.heap.size (.slice (some ⟨gC, 0, none⟩) nC cC) ([23] ++ wb pl ++ wb nn ++ wb wa ++ wb (l1 : Int)) rfl (oC.below bC1) ⟨wC.heap.size, 0, none⟩ 1 1 [IntKind.u8.wrap (IntKind.i64.wrap (2 * (l1 : Int)))] rfl rfl L1 (by rw [lZ]; simp) qC.size ?_; intro vD wD oD gD; have BD := bel_grown qC (oC.below bC1) gD (Nat.le_refl _) qC.size; have kD : wD.cell? ⟨w.heap.size, 3, none⟩ = _ := (Blk.grown (XC.below bC1) gD (row_noBlk (oC.below bC1) (XC.below bC1) (by decide))).cell 3 rfl; obtain ⟨gD', cD', nD', hvD, hnD⟩ := own_some' oD (by simp); subst hvD; have HnD : Hid _ := hnD; clear hnD gD)
      | (go_at_call 29; refine (l3PutWords_any gD' nD' cD' ([23] ++ wb pl ++ wb nn ++ wb wa ++ wb (l1 : Int) ++ [IntKind.u8.wrap (IntKind.i64.wrap (2 * (l1 : Int)))]) _ _ _ ws _ HnD.out oD.sl.2 (by rw [List.length_append, lZ]; simp) H1.out.1 (S1.out.1.below BD) (by have := H1.out; have := HLn.out; omega) (by have := H1.out; have := HLn.out; omega)).mono ?_; rintro e w3 h3; have XE := h3.bel; have k3 : w3.cell? ⟨w.heap.size, 3, none⟩ = _ := (XE.cell (p := ⟨w.heap.size, 3, none⟩) (World.block_lt_of_cell? _ _ kD)).trans kD; replace h3 := nw_next BD h3; obtain ⟨g, c, n, rfl, h4⟩ := h3; have H3 : Hid _ := h4; clear h4))
  all_goals (go_wp2; go_ret; rw [← E3.out]; exact ⟨g, c, n, rfl, H3.out⟩)
def putV (b : Bool) (kd pl nn wa : Int) (ws : List Int) (bs : List Bool) : List Int := bif b then putL kd pl nn wa ws bs else []
def NwO (w w' : World) (e : Ending) (zs : List Int) : Prop := ∃ a c n, e = .returned (.slice a n c) ∧ n = zs.length ∧ Own w' w.heap.size (.slice a n c) zs ∧ Below w.heap.size w w'
theorem Nw.o {w w' : World} {e : Ending} {zs : List Int} (h : Nw w w' e zs) : NwO w w' e zs := by
  obtain ⟨g, c, n, h⟩ := h
  exact ⟨_, c, n, h⟩
set_option maxHeartbeats 2000000 in
theorem specPut_q (kd pl nn wa : Int) (a1 a2 : Option Addr) (l1 l2 c1 c2 : Nat) (ws : List Int) (bs : List Bool) (w : World) (h1 : l1 = ws.length) (h2 : l2 = bs.length) (s1 : SlI w a1 ws) (s2 : SlB w a2 bs) (hl1 : ws.length ≤ 2000000) (hl2 : bs.length ≤ 2000000) :
    Calls Tryz.prog 24 #[rq kd pl nn wa a1 a2 l1 l2 c1 c2] w fun e w' => NwO w w' e (putV (okR kd pl nn wa ws l1 l2) kd pl nn wa ws bs) := by
  cases hb : okR kd pl nn wa ws l1 l2
  · have B0 := bel_alloc w (.cells #[.int .i64 kd, .int .i64 pl, .int .i64 nn, .slice a1 l1 c1, .slice a2 l2 c2, .int .i64 wa] 30)
    have H1 : Hid (l1 = ws.length ∧ l2 = bs.length) := ⟨h1, h2⟩
    have S1 : Hid (SlI w a1 ws ∧ SlB w a2 bs) := ⟨s1, s2⟩
    clear h1 h2 s1 s2
    go_enter Tryz.func24, Tryz.ntmps24
    go_wp2_with fail
    refine (specReqOk_q kd pl nn wa a1 a2 l1 l2 c1 c2 ws bs _ H1.out.1 H1.out.2 (S1.out.1.below B0) (S1.out.2.below B0) hl1 hl2).mono ?_
    rintro e w1 ⟨rfl, b'⟩
    rw [hb]
    have B1 := bel_next B0 b'
    have o1 : Own (w1.alloc (.cells #[] 5)) w.heap.size (.slice (some ⟨w1.heap.size, 0, none⟩) 0 0) [] := own_zero B1.size (Blk.new w1 #[] 5) rfl (by unfold maxLen; omega)
    have B2 := bel_next B1 (bel_alloc w1 (.cells #[] 5))
    go_wp2
    go_ret
    exact ⟨_, _, _, rfl, rfl, o1, B2⟩
  · obtain rfl | rfl | rfl | rfl | rfl | rfl | rfl | rfl | rfl | rfl := okR_kind hb
    · exact (specPut_1 pl nn wa a1 a2 l1 l2 c1 c2 ws bs w h1 h2 s1 s2 hl1 hl2 hb).mono fun _ _ h => h.o
    · exact (specPut_2 pl nn wa a1 a2 l1 l2 c1 c2 ws bs w h1 h2 s1 s2 hl1 hl2 hb).mono fun _ _ h => h.o
    · exact (specPut_3 pl nn wa a1 a2 l1 l2 c1 c2 ws bs w h1 h2 s1 s2 hl1 hl2 hb).mono fun _ _ h => h.o
    · exact (specPut_4 pl nn wa a1 a2 l1 l2 c1 c2 ws bs w h1 h2 s1 s2 hl1 hl2 hb).mono fun _ _ h => h.o
    · exact (specPut_5 pl nn wa a1 a2 l1 l2 c1 c2 ws bs w h1 h2 s1 s2 hl1 hl2 hb).mono fun _ _ h => h.o
    · exact (specPut_6 pl nn wa a1 a2 l1 l2 c1 c2 ws bs w h1 h2 s1 s2 hl1 hl2 hb).mono fun _ _ h => h.o
    · exact (specPut_15 pl nn wa a1 a2 l1 l2 c1 c2 ws bs w h1 h2 s1 s2 hl1 hl2 hb).mono fun _ _ h => h.o
    · exact (specPut_16 pl nn wa a1 a2 l1 l2 c1 c2 ws bs w h1 h2 s1 s2 hl1 hl2 hb).mono fun _ _ h => h.o
    · exact (specPut_22 pl nn wa a1 a2 l1 l2 c1 c2 ws bs w h1 h2 s1 s2 hl1 hl2 hb).mono fun _ _ h => h.o
    · exact (specPut_23 pl nn wa a1 a2 l1 l2 c1 c2 ws bs w h1 h2 s1 s2 hl1 hl2 hb).mono fun _ _ h => h.o
end Go.Proofs.YtohikbpolofklaaGreatDoor
namespace Go.Proofs.YtohikbpolofklaaGreatDoor
open Go.RowKit
set_option linter.unusedVariables false
set_option linter.unusedSimpArgs false
theorem nwo_next {w u w' : World} {e : Ending} {zs : List Int} (hb : Below w.heap.size w u) (h : NwO u w' e zs) : NwO w w' e zs := by
  obtain ⟨a, c, n, he, hn, ho, hb'⟩ := h
  exact ⟨a, c, n, he, hn, own_mono ho hb.size, bel_next hb hb'⟩
set_option maxHeartbeats 2000000 in
theorem implPut_if (kd pl nn wa : Int) (a1 a2 : Option Addr) (l1 l2 c1 c2 : Nat) (w : World) (q : Value) (zs : List Int)
    (hq : ∀ u, Below w.heap.size w u → Calls Tryz.prog 33 #[rq kd pl nn wa a1 a2 l1 l2 c1 c2] u fun e u' => e = .returned q ∧ Below u.heap.size u u')
    (hp : ∀ u, Below w.heap.size w u → Calls Tryz.prog 32 #[q] u fun e u' => NwO u u' e zs) :
    Calls Tryz.prog 12 #[rq kd pl nn wa a1 a2 l1 l2 c1 c2] w fun e w' => NwO w w' e zs := by
  have B0 := bel_alloc w (.cells #[.int .i64 kd, .int .i64 pl, .int .i64 nn, .slice a1 l1 c1, .slice a2 l2 c2, .int .i64 wa] 30)
  go_enter Tryz.func12, Tryz.ntmps12
  go_wp2_with fail
  refine (hq _ B0).mono ?_
  rintro e w1 ⟨rfl, b'⟩
  have B1 := bel_next B0 b'
  clear hq
  go_wp2_with fail
  refine (hp _ B1).mono ?_
  rintro e w2 h2
  replace h2 := nwo_next B1 h2
  obtain ⟨a, c, n, rfl, h3⟩ := h2
  have H3 : Hid _ := h3
  clear h3 hp
  go_wp2
  go_ret
  exact ⟨a, c, n, rfl, H3.out⟩
theorem putQ_no (u : World) : Calls Tryz.prog 32 #[.nilIface] u fun e u' => NwO u u' e [] := by
  refine (putQ_n u).mono ?_
  rintro e w' ⟨rfl, rfl⟩
  exact ⟨none, 0, 0, rfl, rfl, ⟨rfl, .inl ⟨rfl, rfl⟩⟩, Below.refl _ _⟩
theorem putL6 (pl nn wa : Int) (ws : List Int) (bs : List Bool) (h : ws.length = 1) : putL 6 pl nn wa ws bs = 6 % 256 :: wbs [pl, ws.getD 0 0] := by
  match ws, h with
  | [x], _ => rfl
theorem putL22 (pl nn wa : Int) (ws : List Int) (bs : List Bool) (h : ws.length = 2) : putL 22 pl nn wa ws bs = 22 % 256 :: wbs [pl, ws.getD 0 0, ws.getD 1 0] := by
  match ws, h with
  | [x, y], _ => rfl
theorem implPut_q (kd pl nn wa : Int) (a1 a2 : Option Addr) (l1 l2 c1 c2 : Nat) (ws : List Int) (bs : List Bool) (w : World) (h1 : l1 = ws.length) (h2 : l2 = bs.length) (s1 : SlI w a1 ws) (s2 : SlB w a2 bs) (hl1 : ws.length ≤ 2000000) (hl2 : bs.length ≤ 2000000) :
    Calls Tryz.prog 12 #[rq kd pl nn wa a1 a2 l1 l2 c1 c2] w fun e w' => NwO w w' e (putV (okR kd pl nn wa ws l1 l2) kd pl nn wa ws bs) := by
  by_cases hk : kd = 1 ∨ kd = 2 ∨ kd = 3 ∨ kd = 4 ∨ kd = 5 ∨ kd = 6 ∨ kd = 15 ∨ kd = 16 ∨ kd = 22 ∨ kd = 23
  · cases hb : okR kd pl nn wa ws l1 l2
    · obtain rfl | rfl | rfl | rfl | rfl | rfl | rfl | rfl | rfl | rfl := hk
      · exact implPut_if 1 pl nn wa a1 a2 l1 l2 c1 c2 w .nilIface [] (fun u hu => rightQuestion_1 pl nn wa a1 a2 l1 l2 c1 c2 ws bs u h1 h2 (s1.below hu) (s2.below hu) hl1 hl2 _ hb) (fun u _ => putQ_no u)
      · exact implPut_if 2 pl nn wa a1 a2 l1 l2 c1 c2 w .nilIface [] (fun u hu => rightQuestion_2 pl nn wa a1 a2 l1 l2 c1 c2 ws bs u h1 h2 (s1.below hu) (s2.below hu) hl1 hl2 _ hb) (fun u _ => putQ_no u)
      · exact implPut_if 3 pl nn wa a1 a2 l1 l2 c1 c2 w .nilIface [] (fun u hu => rightQuestion_3 pl nn wa a1 a2 l1 l2 c1 c2 ws bs u h1 h2 (s1.below hu) (s2.below hu) hl1 hl2 _ hb) (fun u _ => putQ_no u)
      · exact implPut_if 4 pl nn wa a1 a2 l1 l2 c1 c2 w .nilIface [] (fun u hu => rightQuestion_4 pl nn wa a1 a2 l1 l2 c1 c2 ws bs u h1 h2 (s1.below hu) (s2.below hu) hl1 hl2 _ hb) (fun u _ => putQ_no u)
      · exact implPut_if 5 pl nn wa a1 a2 l1 l2 c1 c2 w .nilIface [] (fun u hu => rightQuestion_5 pl nn wa a1 a2 l1 l2 c1 c2 ws bs u h1 h2 (s1.below hu) (s2.below hu) hl1 hl2 _ hb) (fun u _ => putQ_no u)
      · exact implPut_if 6 pl nn wa a1 a2 l1 l2 c1 c2 w .nilIface [] (fun u hu => rightQuestion_6 pl nn wa a1 a2 l1 l2 c1 c2 ws bs u h1 h2 (s1.below hu) (s2.below hu) hl1 hl2 _ hb) (fun u _ => putQ_no u)
      · exact implPut_if 15 pl nn wa a1 a2 l1 l2 c1 c2 w .nilIface [] (fun u hu => rightQuestion_15 pl nn wa a1 a2 l1 l2 c1 c2 ws bs u h1 h2 (s1.below hu) (s2.below hu) hl1 hl2 _ hb) (fun u _ => putQ_no u)
      · exact implPut_if 16 pl nn wa a1 a2 l1 l2 c1 c2 w .nilIface [] (fun u hu => rightQuestion_16 pl nn wa a1 a2 l1 l2 c1 c2 ws bs u h1 h2 (s1.below hu) (s2.below hu) hl1 hl2 _ hb) (fun u _ => putQ_no u)
      · exact implPut_if 22 pl nn wa a1 a2 l1 l2 c1 c2 w .nilIface [] (fun u hu => rightQuestion_22 pl nn wa a1 a2 l1 l2 c1 c2 ws bs u h1 h2 (s1.below hu) (s2.below hu) hl1 hl2 _ hb) (fun u _ => putQ_no u)
      · exact implPut_if 23 pl nn wa a1 a2 l1 l2 c1 c2 w .nilIface [] (fun u hu => rightQuestion_23 pl nn wa a1 a2 l1 l2 c1 c2 ws bs u h1 h2 (s1.below hu) (s2.below hu) hl1 hl2 _ hb) (fun u _ => putQ_no u)
    · obtain rfl | rfl | rfl | rfl | rfl | rfl | rfl | rfl | rfl | rfl := hk
      · exact implPut_if 1 pl nn wa a1 a2 l1 l2 c1 c2 w _ _ (fun u hu => rightQuestion_1 pl nn wa a1 a2 l1 l2 c1 c2 ws bs u h1 h2 (s1.below hu) (s2.below hu) hl1 hl2 _ hb) (fun u hu => (putQ_1 pl nn u).mono fun _ _ h => h.o)
      · exact implPut_if 2 pl nn wa a1 a2 l1 l2 c1 c2 w _ _ (fun u hu => rightQuestion_2 pl nn wa a1 a2 l1 l2 c1 c2 ws bs u h1 h2 (s1.below hu) (s2.below hu) hl1 hl2 _ hb) (fun u hu => (putQ_2 pl nn u).mono fun _ _ h => h.o)
      · exact implPut_if 3 pl nn wa a1 a2 l1 l2 c1 c2 w _ _ (fun u hu => rightQuestion_3 pl nn wa a1 a2 l1 l2 c1 c2 ws bs u h1 h2 (s1.below hu) (s2.below hu) hl1 hl2 _ hb) (fun u hu => (putQ_3 pl nn u).mono fun _ _ h => h.o)
      · exact implPut_if 4 pl nn wa a1 a2 l1 l2 c1 c2 w _ _ (fun u hu => rightQuestion_4 pl nn wa a1 a2 l1 l2 c1 c2 ws bs u h1 h2 (s1.below hu) (s2.below hu) hl1 hl2 _ hb) (fun u hu => (putQ_4 pl nn u).mono fun _ _ h => h.o)
      · have hL : l2 = 1 := by rw [okI_5 _ _ _ _ _ _ h1] at hb; simp [rnB, inB] at hb; omega
        exact implPut_if 5 pl nn wa a1 a2 l1 l2 c1 c2 w _ _ (fun u hu => rightQuestion_5 pl nn wa a1 a2 l1 l2 c1 c2 ws bs u h1 h2 (s1.below hu) (s2.below hu) hl1 hl2 _ hb) (fun u hu => (putQ_5 pl (bs.getD 0 false) u).mono fun _ _ h => h.o)
      · have hL : l1 = 1 := by rw [okI_6 _ _ _ _ _ _ h1] at hb; simp [rnB, inB] at hb; omega
        have e : putV true 6 pl nn wa ws bs = _ := putL6 pl nn wa ws bs (by omega)
        rw [e]
        exact implPut_if 6 pl nn wa a1 a2 l1 l2 c1 c2 w _ _ (fun u hu => rightQuestion_6 pl nn wa a1 a2 l1 l2 c1 c2 ws bs u h1 h2 (s1.below hu) (s2.below hu) hl1 hl2 _ hb) (fun u hu => (putQ_6 pl (ws.getD 0 0) u).mono fun _ _ h => h.o)
      · have hL : 1 ≤ l2 ∧ l2 ≤ 1968 := by rw [okI_15 _ _ _ _ _ _ h1] at hb; simp [rnB, inB] at hb; omega
        have e : putV true 15 pl nn wa ws bs = (15 % 256 :: wbs [pl, (l2 : Int)]) ++ [(((bs.length + 7) / 8 : Nat) : Int) % 256] ++ packL bs := by rw [h2]; rfl
        rw [e]
        exact implPut_if 15 pl nn wa a1 a2 l1 l2 c1 c2 w _ _ (fun u hu => rightQuestion_15 pl nn wa a1 a2 l1 l2 c1 c2 ws bs u h1 h2 (s1.below hu) (s2.below hu) hl1 hl2 _ hb) (fun u hu => (putQ_15 pl a2 l2 c2 bs u h2 (s2.below hu) (by omega)).mono fun _ _ h => h.o)
      · have hL : 1 ≤ l1 ∧ l1 ≤ 123 := by rw [okI_16 _ _ _ _ _ _ h1] at hb; simp [rnB, inB] at hb; omega
        have e : putV true 16 pl nn wa ws bs = (16 % 256 :: wbs [pl, (l1 : Int)]) ++ [((2 * ws.length : Nat) : Int) % 256] ++ wbs ws := by rw [h1]; rfl
        rw [e]
        exact implPut_if 16 pl nn wa a1 a2 l1 l2 c1 c2 w _ _ (fun u hu => rightQuestion_16 pl nn wa a1 a2 l1 l2 c1 c2 ws bs u h1 h2 (s1.below hu) (s2.below hu) hl1 hl2 _ hb) (fun u hu => (putQ_16 pl a1 l1 c1 ws u h1 (s1.below hu) (by omega) (by omega)).mono fun _ _ h => h.o)
      · have hL : l1 = 2 := by rw [okI_22 _ _ _ _ _ _ h1] at hb; simp [rnB, inB] at hb; omega
        have e : putV true 22 pl nn wa ws bs = _ := putL22 pl nn wa ws bs (by omega)
        rw [e]
        exact implPut_if 22 pl nn wa a1 a2 l1 l2 c1 c2 w _ _ (fun u hu => rightQuestion_22 pl nn wa a1 a2 l1 l2 c1 c2 ws bs u h1 h2 (s1.below hu) (s2.below hu) hl1 hl2 _ hb) (fun u hu => (putQ_22 pl (ws.getD 0 0) (ws.getD 1 0) u).mono fun _ _ h => h.o)
      · have hL : 1 ≤ l1 ∧ l1 ≤ 121 := by rw [okI_23 _ _ _ _ _ _ h1] at hb; simp [rnB, inB] at hb; omega
        have e : putV true 23 pl nn wa ws bs = (23 % 256 :: wbs [pl, nn, wa, (l1 : Int)]) ++ [((2 * ws.length : Nat) : Int) % 256] ++ wbs ws := by rw [h1]; rfl
        rw [e]
        exact implPut_if 23 pl nn wa a1 a2 l1 l2 c1 c2 w _ _ (fun u hu => rightQuestion_23 pl nn wa a1 a2 l1 l2 c1 c2 ws bs u h1 h2 (s1.below hu) (s2.below hu) hl1 hl2 _ hb) (fun u hu => (putQ_23 pl nn wa a1 l1 c1 ws u h1 (s1.below hu) (by omega) (by omega)).mono fun _ _ h => h.o)
  · have e : okR kd pl nn wa ws l1 l2 = false := by
      cases e : okR kd pl nn wa ws l1 l2
      · rfl
      · exact absurd (okR_kind e) hk
    rw [e]
    exact implPut_if kd pl nn wa a1 a2 l1 l2 c1 c2 w .nilIface [] (fun u hu => rightQuestion_none kd pl nn wa a1 a2 l1 l2 c1 c2 ws bs u h1 h2 (s1.below hu) (s2.below hu) hl1 hl2 (by omega) (by omega) (by omega) (by omega) (by omega) (by omega) (by omega) (by omega) (by omega) (by omega)) (fun u _ => putQ_no u)
theorem putV_len (kd pl nn wa : Int) (ws : List Int) (bs : List Bool) (l1 l2 : Nat) (h1 : l1 = ws.length) (h2 : l2 = bs.length) : (putV (okR kd pl nn wa ws l1 l2) kd pl nn wa ws bs).length ≤ 300 := by
  cases hb : okR kd pl nn wa ws l1 l2
  · simp [putV]
  · obtain rfl | rfl | rfl | rfl | rfl | rfl | rfl | rfl | rfl | rfl := okR_kind hb
    · simp [putV, putL, wbs]
    · simp [putV, putL, wbs]
    · simp [putV, putL, wbs]
    · simp [putV, putL, wbs]
    · have hL : l2 = 1 := by rw [okI_5 _ _ _ _ _ _ h1] at hb; simp [rnB, inB] at hb; omega
      simp [putV, putL, wbs, wbs_length, packL_length]
    · have hL : l1 = 1 := by rw [okI_6 _ _ _ _ _ _ h1] at hb; simp [rnB, inB] at hb; omega
      simp [putV, putL, wbs, wbs_length, packL_length]; omega
    · have hL : 1 ≤ l2 ∧ l2 ≤ 1968 := by rw [okI_15 _ _ _ _ _ _ h1] at hb; simp [rnB, inB] at hb; omega
      simp [putV, putL, wbs, wbs_length, packL_length]; omega
    · have hL : 1 ≤ l1 ∧ l1 ≤ 123 := by rw [okI_16 _ _ _ _ _ _ h1] at hb; simp [rnB, inB] at hb; omega
      simp [putV, putL, wbs, wbs_length, packL_length]; omega
    · have hL : l1 = 2 := by rw [okI_22 _ _ _ _ _ _ h1] at hb; simp [rnB, inB] at hb; omega
      simp [putV, putL, wbs, wbs_length, packL_length]; omega
    · have hL : 1 ≤ l1 ∧ l1 ≤ 121 := by rw [okI_23 _ _ _ _ _ _ h1] at hb; simp [rnB, inB] at hb; omega
      simp [putV, putL, wbs, wbs_length, packL_length]; omega
theorem ne_types {w : World} {b1 b2 s1 s2 n1 n2 : Nat} {e1 e2 : TypeId} {v1 v2 : Value} {x1 x2 : List Value} (h1 : w.ownsRow b1 e1 s1 v1 n1 x1) (h2 : w.ownsRow b2 e2 s2 v2 n2 x2) (he : e1 ≠ e2) : v1.ownBlock = none ∨ v1.ownBlock ≠ v2.ownBlock := by
  obtain ⟨_, h1⟩ := h1
  rcases h1 with ⟨hv, _⟩ | ⟨g, cap, cur, hv, _, hh, _⟩
  · subst hv; exact .inl rfl
  · refine .inr ?_
    intro e
    exact row_noBlk (v := v2) (g := g) (t := e1) (cs := cur) h2 hh he (by rw [← e, hv]; rfl)
theorem Blk.row {w w' : World} {g : Nat} {t : TypeId} {cs : Array Value} {b s n : Nat} {e : TypeId} {v : Value} {x : List Value} (h : Blk w g t cs) (hr : w.ownsRow b e s v n x) (hg : w.grownBy w' v.ownBlock) (he : t ≠ e) : Blk w' g t cs :=
  h.grown hg (row_noBlk hr h he)
end Go.Proofs.YtohikbpolofklaaGreatDoor
