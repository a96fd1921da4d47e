/- Texts that the proof needs, joined: JoinedL. -/
import Derived.Test.YtegckbfbmbiogaaV37
import Derived.Test.YtegckbfbmbiogaaV40
import Derived.Deep.RegionWith
namespace Go.Proofs.Ytegckbfbmbiogaa
open Go.RowKit Go.Joins
set_option linter.unusedVariables false
set_option linter.unusedSimpArgs false
structure JL (Bq Ba base : Nat) (kd pl nn wa : Int) (q1 q2 : Option Addr) (m1 m2 k1 k2 : Nat) (ws : List Int) (bs : List Bool) (la : Option Addr) (ln lc : Nat) (Ps : List Pa) (ta : Option Addr) (tm : Nat) (A : Nat → An) (X : An) (r1 : Option Addr) (n1 c1 : Nat) (r2 : Option Addr) (n2 c2 : Nat) (w u : World) : Prop where
  bel : Below w.heap.size w u
  q : Blk u Bq 28 (rqc kd pl nn wa q1 q2 m1 m2 k1 k2)
  a : Blk u Ba 49 #[.int .i64 X.kd, .int .i64 X.fl, .int .i64 X.pl, .int .i64 X.nn, .slice r1 n1 c1, .slice r2 n2 c2]
  s1 : SlI u q1 ws
  s2 : SlB u q2 bs
  ps : OwnPs u base (.slice la ln lc) Ps
  tl : SlA u ta tm A
  x1 : SlI u r1 X.ws
  x2 : SlB u r2 X.bs
theorem JL.below {Bq Ba base : Nat} {kd pl nn wa : Int} {q1 q2 : Option Addr} {m1 m2 k1 k2 : Nat} {ws : List Int} {bs : List Bool} {la : Option Addr} {ln lc : Nat} {Ps : List Pa} {ta : Option Addr} {tm : Nat} {A : Nat → An} {X : An} {r1 : Option Addr} {n1 c1 : Nat} {r2 : Option Addr} {n2 c2 : Nat} {w u u' : World} (h : JL Bq Ba base kd pl nn wa q1 q2 m1 m2 k1 k2 ws bs la ln lc Ps ta tm A X r1 n1 c1 r2 n2 c2 w u) (b : Below u.heap.size u u') : JL Bq Ba base kd pl nn wa q1 q2 m1 m2 k1 k2 ws bs la ln lc Ps ta tm A X r1 n1 c1 r2 n2 c2 w u' :=
  ⟨bel_next h.bel b, h.q.below b, h.a.below b, h.s1.below b, h.s2.below b, h.ps.below b, h.tl.below b, h.x1.below b, h.x2.below b⟩
set_option maxRecDepth 20000 in
set_option maxHeartbeats 4000000 in
theorem joined_law (ca : Option Addr) (cc : Nat) (zs : List Int) (w : World) (hs : Sl w ca zs) (hr : ∀ z ∈ zs, 0 ≤ z ∧ z ≤ 255) (hl : zs.length ≤ 1048576) :
    Calls Try.prog 4 #[.slice ca zs.length cc] w fun e w' => e = .returned (.bool true) ∧ Below w.heap.size w w' := by
  have hl' : ¬ (1048576 : Int) < (zs.length : Int) := by omega
  go_enter Try.func4, Try.ntmps4
  go_wp2_with (first | (go_at_call 6; go_in) | fail)
  refine (drawJoined_any w ca _ cc zs rfl hs hr hl).mono ?_
  rintro e w1 ⟨kd, pl, nn, wa, q1, q2, m1, m2, k1, k2, ws, bs, la, ln, lc, Ps, ta, tm, tc, A, kq, base, rfl, e1, e2, s1, s2, e3, e4, e5, hps, hta, e6, e7, hsm, hA, B1⟩
  obtain ⟨td, htd⟩ : ∃ b : Bool, b = true ↔ (0 < ln ∧ tm = ln ∧ AllS Ps A ln) := by
    by_cases h : 0 < ln ∧ tm = ln ∧ AllS Ps A ln
    · exact ⟨true, fun _ => h, fun _ => rfl⟩
    · exact ⟨false, ⟨fun e => Bool.noConfusion e, fun e => absurd e h⟩⟩
  obtain ⟨ok, hok⟩ : ∃ ok, ok = okR kd pl nn wa ws ws.length bs.length := ⟨_, rfl⟩
  obtain ⟨X, hX⟩ : ∃ X, X = joA td kd pl nn wa ws bs Ps A tm := ⟨_, rfl⟩
  have HX : Hid (X = joA td kd pl nn wa ws bs Ps A tm ∧ ok = okR kd pl nn wa ws ws.length bs.length ∧ (td = true ↔ (0 < ln ∧ tm = ln ∧ AllS Ps A ln)) ∧ X.ws.length ≤ 2000000 ∧ X.bs.length ≤ 2000000) := by
    have h9 := joA_len (td := td) (kd := kd) (pl := pl) (nn := nn) (wa := wa) (ws := ws) (bs := bs) (Ps := Ps) (A := A) (m := tm) (by omega) (by omega) (by omega) hA
    rw [← hX] at h9
    exact ⟨hX, hok, htd, h9.1, h9.2⟩
  have HD : Hid (m1 = ws.length ∧ m2 = bs.length ∧ ws.length ≤ 2000000 ∧ bs.length ≤ 2000000 ∧ ln = Ps.length ∧ ln ≤ 100 ∧ tm ≤ 100 ∧ (∀ k, k < ln → 0 ≤ (Ps.getD k default).n ∧ (Ps.getD k default).n ≤ 2000) ∧ (∀ k, k < ln → (Ps.getD k default).ws.length ≤ 2000 ∧ (Ps.getD k default).bs.length ≤ 2000) ∧ (∀ k, k < tm → (A k).ws.length ≤ 2000 ∧ (A k).bs.length ≤ 2000) ∧ (∀ k, k < ln → (Ps.getD k default).kd = kq)) := ⟨e1, e2, by omega, by omega, e5, by omega, by omega, fun k hk => by have := (hsm k hk).2.1; omega, fun k hk => by have h8 := (hsm k hk).2.2; exact ⟨by have := h8.1; omega, by have := h8.2.1; omega⟩, hA, fun k hk => (hsm k hk).1⟩
  obtain ⟨W2, hW2⟩ : ∃ W2, W2 = w1.alloc (.cells (rqc kd pl nn wa q1 q2 m1 m2 k1 k2) 28) := ⟨_, rfl⟩
  obtain ⟨Bq, hBq⟩ : ∃ Bq, Bq = w1.heap.size := ⟨_, rfl⟩
  have H2 : Hid (Below w.heap.size w W2 ∧ Blk W2 Bq 28 (rqc kd pl nn wa q1 q2 m1 m2 k1 k2) ∧ SlI W2 q1 ws ∧ SlB W2 q2 bs ∧ OwnPs W2 base (.slice la ln lc) Ps ∧ SlA W2 ta tm A) := by
    have b2 : Below w1.heap.size w1 W2 := by rw [hW2]; exact bel_alloc _ _
    exact ⟨bel_next B1 b2, by rw [hW2, hBq]; exact Blk.new w1 _ _, s1.below b2, s2.below b2, hps.below b2, hta.below b2⟩
  have htm : tm ≤ 9 := e7
  clear hr hl e1 e2 e3 e4 e5 e6 e7 hsm hA s1 s2 hps hta B1 hX htd hok
  go_upto_region 4 with fail
  rw [← hW2, ← hBq]
  clear hW2 hBq
  obtain ⟨⟨y0, y1, y2, y3, y4, y5⟩, _⟩ := H2.out.2.1.six2
  go_wp2_with fail
  refine (implJoined_any kd pl nn wa q1 q2 m1 m2 k1 k2 ws bs la ln lc base Ps ta tm tc A _ HD.out.1 HD.out.2.1 H2.out.2.2.1 H2.out.2.2.2.1 HD.out.2.2.1 HD.out.2.2.2.1 HD.out.2.2.2.2.1 H2.out.2.2.2.2.1 H2.out.2.2.2.2.2 HD.out.2.2.2.2.2.1 HD.out.2.2.2.2.2.2.1 HD.out.2.2.2.2.2.2.2.1 HD.out.2.2.2.2.2.2.2.2.1 HD.out.2.2.2.2.2.2.2.2.2.1 td HX.out.2.2.1).mono ?_
  rintro e w3 ⟨r1, r2, n1, n2, c1, c2, rfl, f1, f2, o1, o2, b3⟩
  rw [← HX.out.1] at f1 f2 o1 o2 ⊢
  obtain ⟨W4, hW4⟩ : ∃ W4, W4 = w3.alloc (.cells #[.int .i64 X.kd, .int .i64 X.fl, .int .i64 X.pl, .int .i64 X.nn, .slice r1 n1 c1, .slice r2 n2 c2] 49) := ⟨_, rfl⟩
  obtain ⟨Ba, hBa⟩ : ∃ Ba, Ba = w3.heap.size := ⟨_, rfl⟩
  have HN : Hid (n1 = X.ws.length ∧ n2 = X.bs.length ∧ n2 ≤ c2) := ⟨f1, f2, own_capE o2⟩
  have H4 : Hid (JL Bq Ba base kd pl nn wa q1 q2 m1 m2 k1 k2 ws bs la ln lc Ps ta tm A X r1 n1 c1 r2 n2 c2 w W4) := by
    have b4 : Below w3.heap.size w3 W4 := by rw [hW4]; exact bel_alloc _ _
    have b5 := bel_next b3 b4
    exact ⟨bel_next H2.out.1 b5, H2.out.2.1.below b5, by rw [hW4, hBa]; exact Blk.new w3 _ _, H2.out.2.2.1.below b5, H2.out.2.2.2.1.below b5, H2.out.2.2.2.2.1.below b5, H2.out.2.2.2.2.2.below b5, (o1.below b4).sl.2, (o2.below b4).sl.2⟩
  clear f1 f2 o1 o2 b3 H2 y0 y1 y2 y3 y4 y5
  have HSJ : Hid (∀ u, JL Bq Ba base kd pl nn wa q1 q2 m1 m2 k1 k2 ws bs la ln lc Ps ta tm A X r1 n1 c1 r2 n2 c2 w u → Calls Try.prog 19 #[.agg (rqc kd pl nn wa q1 q2 m1 m2 k1 k2), .slice la ln lc, .slice ta tm tc] u fun e w' => ∃ (p1 p2 : Option Addr) (d1 d2 : Nat), e = .returned (.agg #[.int .i64 X.kd, .int .i64 X.fl, .int .i64 X.pl, .int .i64 X.nn, .slice p1 n1 d1, .slice p2 n2 d2]) ∧ SlI w' p1 X.ws ∧ SlB w' p2 X.bs ∧ JL Bq Ba base kd pl nn wa q1 q2 m1 m2 k1 k2 ws bs la ln lc Ps ta tm A X r1 n1 c1 r2 n2 c2 w w') := by
    intro u h
    refine (specJoined_all kd pl nn wa q1 q2 m1 m2 k1 k2 ws bs la ln lc base Ps ta tm tc A u kq HD.out.1 HD.out.2.1 h.s1 h.s2 HD.out.2.2.1 HD.out.2.2.2.1 HD.out.2.2.2.2.1 h.ps h.tl HD.out.2.2.2.2.2.1 HD.out.2.2.2.2.2.2.1 HD.out.2.2.2.2.2.2.2.1 HD.out.2.2.2.2.2.2.2.2.1 HD.out.2.2.2.2.2.2.2.2.2.1 HD.out.2.2.2.2.2.2.2.2.2.2 td HX.out.2.2.1).mono ?_
    rintro e w' ⟨p1, p2, x1, x2, d1, d2, rfl, g1, g2, t1, t2, b9⟩
    rw [← HX.out.1] at g1 g2 t1 t2 ⊢
    rw [← HN.out.1] at g1
    rw [← HN.out.2.1] at g2
    subst g1
    subst g2
    exact ⟨p1, p2, d1, d2, rfl, t1.sl.2, t2.sl.2, h.below b9⟩
  go_upto_region 5 with fail
  rw [← hW4, ← hBa]
  clear hW4 hBa
  obtain ⟨⟨y0, y1, y2, y3, y4, y5⟩, _⟩ := H4.out.q.six2
  obtain ⟨⟨x0, x1, x2, x3, x4, x5⟩, _⟩ := H4.out.a.six2
  go_cut [26] (fun sX wx => sX = .bool false ∧ JL Bq Ba base kd pl nn wa q1 q2 m1 m2 k1 k2 ws bs la ln lc Ps ta tm A X r1 n1 c1 r2 n2 c2 w wx)
  case first =>
    go_region_with (first
      | (go_at_call 19; refine (HSJ.out _ ?_).mono ?_; (first | exact H4.out | exact H4.out.below (Below.refl _ _).drew | exact H4.out.below (Below.refl _ _).drew.drew | exact H4.out.below (Below.refl _ _).drew.drew.drew); rintro e w5 ⟨p1, p2, d1, d2, rfl, t1, t2, K5⟩; obtain ⟨⟨x0', x1', x2', x3', x4', x5'⟩, _⟩ := K5.a.six2; obtain ⟨⟨y0', y1', y2', y3', y4', y5'⟩, _⟩ := K5.q.six2)
      | (go_at_call 18; refine (lawSameResp_t X.kd X.fl X.pl X.nn r1 r2 p1 p2 n1 n2 c1 c2 n1 n2 d1 d2 _ X.ws HN.out.1 HN.out.1 ?_ ?_ HX.out.2.2.2.1 X.bs HN.out.2.1 HN.out.2.1 ?_ ?_ HX.out.2.2.2.2).mono ?_; (first | exact K5.x1 | exact K5.x1.below (Below.refl _ _).drew | exact K5.x1.below (Below.refl _ _).drew.drew); (first | exact t1 | exact t1.below (Below.refl _ _).drew | exact t1.below (Below.refl _ _).drew.drew); (first | exact K5.x2 | exact K5.x2.below (Below.refl _ _).drew | exact K5.x2.below (Below.refl _ _).drew.drew); (first | exact t2 | exact t2.below (Below.refl _ _).drew | exact t2.below (Below.refl _ _).drew.drew); rintro e w6 ⟨rfl, b6⟩; have K6 := (show JL Bq Ba base kd pl nn wa q1 q2 m1 m2 k1 k2 ws bs la ln lc Ps ta tm A X r1 n1 c1 r2 n2 c2 w w6 from (by first | exact K5.below b6 | exact K5.below (bel_next (Below.refl _ _).drew b6) | exact K5.below (bel_next (Below.refl _ _).drew.drew b6)))))
    all_goals (go_wp2_with fail; go_meet; exact ⟨rfl, K6⟩)
  case rest =>
  obtain ⟨rfl, K6⟩ := hcut
  rename World => w6
  have H6 := hide K6
  clear K6 H4 HSJ x0 x1 x2 x3 x4 x5 y0 y1 y2 y3 y4 y5
  obtain ⟨⟨y0, y1, y2, y3, y4, y5⟩, _⟩ := H6.out.q.six2
  have HRO : Hid (Calls Try.prog 20 #[.agg (rqc kd pl nn wa q1 q2 m1 m2 k1 k2)] w6 fun e w' => e = .returned (.bool ok) ∧ Below w6.heap.size w6 w') := by
    have h9 := specReqOk_q kd pl nn wa q1 q2 m1 m2 k1 k2 ws bs w6 HD.out.1 HD.out.2.1 H6.out.s1 H6.out.s2 HD.out.2.2.1 HD.out.2.2.2.1
    rw [HX.out.2.1, ← HD.out.1, ← HD.out.2.1]
    exact h9
  go_wp2_with fail
  refine HRO.out.mono ?_
  rintro e w7 ⟨rfl, b7⟩
  have H7 := hide (H6.out.below b7)
  clear b7 H6 HRO y0 y1 y2 y3 y4 y5
  obtain ⟨⟨y0, y1, y2, y3, y4, y5⟩, _⟩ := H7.out.q.six2
  obtain ⟨⟨x0, x1, x2, x3, x4, x5⟩, _⟩ := H7.out.a.six2
  cases ok with
  | false =>
    have ek : X.kd = 0 := by rw [HX.out.1]; exact joA_kind HX.out.2.1.symm
    have dk : (X.kd == 0) = true := by simpa using ek
    clear ek
    go_wp2
    go_ret
    exact ⟨rfl, H7.out.bel⟩
  | true =>
    have HSU : Hid (Calls Try.prog 21 #[.agg (rqc kd pl nn wa q1 q2 m1 m2 k1 k2), .agg #[.int .i64 X.kd, .int .i64 X.fl, .int .i64 X.pl, .int .i64 X.nn, .slice r1 n1 c1, .slice r2 n2 c2]] w7 fun e w' => e = .returned (.bool true) ∧ Below w7.heap.size w7 w') := by
      have h9 := implSuits_q kd X.kd X.fl pl nn wa q1 q2 m1 m2 k1 k2 ws bs X.pl X.nn r1 r2 n1 n2 c1 c2 X.ws X.bs w7 HD.out.1 HD.out.2.1 H7.out.s1 H7.out.s2 HD.out.2.2.1 HD.out.2.2.2.1 HN.out.1 HN.out.2.1 H7.out.x1 H7.out.x2 HX.out.2.2.2.1 HX.out.2.2.2.2 HN.out.2.2
      have e9 : suB kd pl nn wa m1 m2 ws bs X.kd X.fl X.pl X.nn n1 n2 X.ws X.bs = true := by
        have h8 := joA_suits (td := td) (pl := pl) (Ps := Ps) (A := A) (n := ln) (m := tm) HX.out.2.1.symm (fun e => (HX.out.2.2.1.1 e).2)
        rw [← HX.out.1] at h8
        unfold suQ at h8
        rw [HD.out.1, HD.out.2.1, HN.out.1, HN.out.2.1]
        exact h8
      rw [e9] at h9
      exact h9
    go_wp2_with fail
    refine HSU.out.mono ?_
    rintro e w8 ⟨rfl, b8⟩
    have H8 := hide (H7.out.below b8)
    have HFL : Hid (∀ k, k < tm → 0 < (A k).fl → 0 < X.fl) := fun k hk hf => by
      rw [HX.out.1]
      exact joA_fault (n := ln) HX.out.2.1.symm (fun e => (HX.out.2.2.1.1 e).2) hk hf
    clear b8 H7 HSU x0 x1 x2 x3 x4 x5 y0 y1 y2 y3 y4 y5
    go_wp2
    go_loopw [7] (fun i wr => ∃ z : Nat, z ≤ tm ∧ i = .int .i64 z ∧ JL Bq Ba base kd pl nn wa q1 q2 m1 m2 k1 k2 ws bs la ln lc Ps ta tm A X r1 n1 c1 r2 n2 c2 w wr) (fun i _ => tm - (intOf i).toNat)
    case atStart => exact ⟨0, Nat.zero_le _, rfl, H8.out⟩
    case round =>
      obtain ⟨z, hz, rfl, K⟩ := hrel
      have HK := hide K
      clear K H8
      by_cases hlt : z < tm
      · have hi : (z : Int) < (tm : Int) := by omega
        obtain ⟨gb, off, a1, a2, d1, d2, rfl, j0, j1, j2, j3, j4, j5, _⟩ := HK.out.tl.at hlt
        obtain ⟨xf, hxf⟩ : ∃ xf, xf = (A z).fl := ⟨_, rfl⟩
        rw [← hxf] at j1
        have HXF := hide hxf
        clear hxf
        by_cases hf : 0 < xf
        · have hfl := HFL.out z hlt (by rw [← HXF.out]; exact hf)
          obtain ⟨⟨x0, x1, x2, x3, x4, x5⟩, _⟩ := HK.out.a.six2
          go_wp2
          go_ret
          exact ⟨rfl, HK.out.bel⟩
        · go_wp2
          go_roundw
          case rel => exact ⟨z + 1, by omega, by go_num, HK.out⟩
          case measure => simp [intOf]; omega
      · have hi : ¬ (z : Int) < (tm : Int) := by omega
        go_wp2
        go_ret
        exact ⟨rfl, HK.out.bel⟩
theorem joined_big (a : Option Addr) (cap : Nat) (zs : List Int) (w : World) (hbig : (1048576 : Int) < (zs.length : Int)) :
    Calls Try.prog 4 #[.slice a zs.length cap] w fun e w' => e = .returned (.bool true) ∧ Below w.heap.size w w' := by
  go_enter Try.func4, Try.ntmps4
  go_wp2
  go_ret
  exact ⟨rfl, Below.refl _ _⟩
end Go.Proofs.Ytegckbfbmbiogaa
