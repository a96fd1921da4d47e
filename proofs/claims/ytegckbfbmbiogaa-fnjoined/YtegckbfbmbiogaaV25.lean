/- Texts that the proof needs, joined: Sr10 Pt10 Pt13 Pt14 JnE PdP PdQ. -/
import Derived.Test.YtegckbfbmbiogaaV5
import Derived.Test.YtegckbfbmbiogaaV3
import Derived.Test.YtegckbfbmbiogaaV24
import Derived.Test.YtegckbfbmbiogaaV22
import Derived.Test.YtegckbfbmbiogaaV1
import Derived.Test.YtegckbfbmbiogaaV7
import Derived.Test.YtegckbfbmbiogaaV21
namespace Go.Proofs.Ytegckbfbmbiogaa
open Go.RowKit
set_option linter.unusedVariables false
set_option linter.unusedSimpArgs false
end Go.Proofs.Ytegckbfbmbiogaa
namespace Go.Proofs.Ytegckbfbmbiogaa
open Go.RowKit Go.Joins
set_option linter.unusedVariables false
set_option linter.unusedSimpArgs false
theorem okR_m {kd pl nn wa : Int} {ws : List Int} {bs : List Bool} {m1 m2 : Nat} (h : okR kd pl nn wa ws m1 m2 = true) (e1 : m1 = ws.length) (e2 : m2 = bs.length) :
    (0 ≤ pl ∧ pl ≤ 65535) ∧ 1 ≤ spcN kd nn m1 m2 ∧ spcN kd nn m1 m2 ≤ 2000 ∧ pl + spcN kd nn m1 m2 ≤ 65536 ∧ (¬ kd = 23 → KdM kd pl ws bs (pl + spcN kd nn m1 m2) ∧ wa = 0 ∧ (4 < kd → nn = 0) ∧ (kd ≤ 5 → m1 = 0) ∧ (kd = 15 → m1 = 0) ∧ (kd ≤ 4 → m2 = 0) ∧ (kd = 6 ∨ kd = 16 ∨ kd = 22 → m2 = 0)) ∧ (kd = 23 → 1 ≤ nn ∧ nn ≤ 125 ∧ m2 = 0 ∧ 1 ≤ m1 ∧ m1 ≤ 121 ∧ 0 ≤ wa ∧ wa ≤ 65535) := by
  have hk := okR_kind h
  unfold okR at h
  simp only [Bool.and_eq_true] at h
  obtain ⟨_, h2, h3⟩ := h
  have hp := inB_yes h2
  obtain rfl | rfl | rfl | rfl | rfl | rfl | rfl | rfl | rfl | rfl := hk <;> (simp [okK, zrB, inB, fitB] at h3; simp only [spcN]; refine ⟨hp, ?_⟩; simp [KdM]; omega)
def ptsM (f : Nat → Ru) (n : Nat) (un kd pl nn wa : Int) (ws : List Int) (bs : List Bool) : Option (List Pa) :=
  if kd = 23 then (bothM f n un pl nn wa ws).map (fun P => [P]) else (runs f n un (spc0 kd) (pl + spcN kd nn ws.length bs.length) pl).map (List.map (pcOf kd pl ws bs))
def pm (rk ok uk : Bool) (R : Option (List Pa)) : List Pa × Int :=
  bif rk && ok then (bif uk then (match R with | none => ([], 2) | some l => if l.length ≤ 8 then (l, 0) else ([], 3)) else ([], 10)) else ([], 3)
def PmPost (w w' : World) (e : Ending) (r : List Pa × Int) : Prop := ∃ v, e = .returned (.tuple #[v, .int .i64 r.2]) ∧ OwnPs w' w.heap.size v r.1 ∧ Below w.heap.size w w'
end Go.Proofs.Ytegckbfbmbiogaa
namespace Go.Proofs.Ytegckbfbmbiogaa
open Go.RowKit Go.Joins
set_option linter.unusedVariables false
set_option linter.unusedSimpArgs false
theorem piece_any (kd pl nn wa : Int) (r : Ru) (fr N : Nat) (q1 q2 : Option Addr) (m1 m2 k1 k2 : Nat) (ws : List Int) (bs : List Bool) (w : World) (h1 : m1 = ws.length) (h2 : m2 = bs.length) (s1 : SlI w q1 ws) (s2 : SlB w q2 bs) (hl1 : ws.length ≤ 2000000) (hl2 : bs.length ≤ 2000000) (hk1 : m1 ≤ k1) (hk2 : m2 ≤ k2)
    (hR : okR kd pl nn wa ws m1 m2 = true) (h23 : ¬ kd = 23) (hin : (fr : Int) + N ≤ spcN kd nn m1 m2) (hpos : 0 < N) (hsh : -65535 ≤ r.sh ∧ r.sh ≤ 65535) (ac : Int) (hac : ac = pl + fr) :
    Calls Try.prog 42 #[.agg (rqc kd pl nn wa q1 q2 m1 m2 k1 k2), .int .i64 (fr : Int), .int .i64 (N : Int), .int .i64 r.sh] w fun e w' => ReqPost w w' e kd (pcOf kd pl ws bs ⟨r, ac, N⟩).pl (pcOf kd pl ws bs ⟨r, ac, N⟩).n (pcOf kd pl ws bs ⟨r, ac, N⟩).wa (pcOf kd pl ws bs ⟨r, ac, N⟩).ws (pcOf kd pl ws bs ⟨r, ac, N⟩).bs := by
  subst hac
  obtain ⟨hp, c1, c2, c3, c4, _⟩ := okR_m hR h1 h2
  obtain ⟨hK, c5, c6, c7, c8, c9, c10⟩ := c4 h23
  have efr : (pl + (fr : Int) - pl).toNat = fr := by omega
  have eN : ((N : Int)).toNat = N := by omega
  unfold pcOf pcN pcW pcB
  simp only [efr, eN]
  subst c5
  have hfr : fr ≤ 65536 := by omega
  have hN : N ≤ 65536 := by omega
  have nil1 : m1 = 0 → ws = [] := fun e => List.eq_nil_of_length_eq_zero (by omega)
  have nil2 : m2 = 0 → bs = [] := fun e => List.eq_nil_of_length_eq_zero (by omega)
  have hk := okR_kind hR
  obtain rfl | rfl | rfl | rfl | rfl | rfl | rfl | rfl | rfl | rfl := hk
  · have e1 := nil1 (c7 (by decide)); have e2 := nil2 (c9 (by decide))
    subst e1; subst e2
    simpa using piece_1 pl nn 0 r.sh fr N q1 q2 m1 m2 k1 k2 [] [] w h1 h2 s1 s2 hl1 hl2 hp hfr hN hsh
  · have e1 := nil1 (c7 (by decide)); have e2 := nil2 (c9 (by decide))
    subst e1; subst e2
    simpa using piece_2 pl nn 0 r.sh fr N q1 q2 m1 m2 k1 k2 [] [] w h1 h2 s1 s2 hl1 hl2 hp hfr hN hsh
  · have e1 := nil1 (c7 (by decide)); have e2 := nil2 (c9 (by decide))
    subst e1; subst e2
    simpa using piece_3 pl nn 0 r.sh fr N q1 q2 m1 m2 k1 k2 [] [] w h1 h2 s1 s2 hl1 hl2 hp hfr hN hsh
  · have e1 := nil1 (c7 (by decide)); have e2 := nil2 (c9 (by decide))
    subst e1; subst e2
    simpa using piece_4 pl nn 0 r.sh fr N q1 q2 m1 m2 k1 k2 [] [] w h1 h2 s1 s2 hl1 hl2 hp hfr hN hsh
  · have e1 := nil1 (c7 (by decide)); have e3 := c6 (by decide)
    subst e1; subst e3
    simpa using piece_5 pl 0 0 r.sh fr N q1 q2 m1 m2 k1 k2 [] bs w h1 h2 s1 s2 hl1 hl2 hp hfr hN hsh (by simp [spcN] at hin; omega) hpos hk2
  · have e2 := nil2 (c10 (by decide)); have e3 := c6 (by decide)
    subst e2; subst e3
    have hm1 : m1 = 1 := by unfold okR at hR; simp only [Bool.and_eq_true] at hR; have h9 := hR.2.2; simp [okK, zrB] at h9; omega
    simpa using piece_6 pl 0 0 r.sh fr N q1 q2 m1 m2 k1 k2 ws [] w h1 h2 s1 s2 hl1 hl2 hp hfr hN hsh (by simp [spcN] at hin; omega) hpos hk1
  · have e1 := nil1 (c8 rfl); have e3 := c6 (by decide)
    subst e1; subst e3
    simpa using piece_15 pl 0 0 r.sh fr N q1 q2 m1 m2 k1 k2 [] bs w h1 h2 s1 s2 hl1 hl2 hp hfr hN hsh (by simp [spcN] at hin; omega) hpos hk2
  · have e2 := nil2 (c10 (by decide)); have e3 := c6 (by decide)
    subst e2; subst e3
    simpa using piece_16 pl 0 0 r.sh fr N q1 q2 m1 m2 k1 k2 ws [] w h1 h2 s1 s2 hl1 hl2 hp hfr hN hsh (by simp [spcN] at hin; omega) hpos hk1
  · have e2 := nil2 (c10 (by decide)); have e3 := c6 (by decide)
    subst e2; subst e3
    simpa using piece_22 pl 0 0 r.sh fr N q1 q2 m1 m2 k1 k2 ws [] w h1 h2 s1 s2 hl1 hl2 hp hfr hN hsh
  · exact absurd rfl h23
def bmR (b : Option Pa) : List Pa × Int := match b with | none => ([], 2) | some P => ([P], 0)
set_option maxRecDepth 20000 in
set_option maxHeartbeats 2000000 in
theorem l10Both_any (a : Option Addr) (n cap : Nat) (f : Nat → Ru) (un pl nn wa : Int) (q1 q2 : Option Addr) (m1 m2 k1 k2 : Nat) (ws : List Int) (w : World) (hs : SlU w a n f) (hn : n ≤ 24) (hok : ∀ k, k < n → OkRu (f k))
    (h1 : m1 = ws.length) (h2 : m2 = 0) (s1 : SlI w q1 ws) (hl1 : ws.length ≤ 121) (hp : 0 ≤ pl ∧ pl ≤ 65535) (hnn : 0 ≤ nn ∧ nn ≤ 125) (hwa : 0 ≤ wa ∧ wa ≤ 65535) :
    Calls Try.prog 39 #[.slice a n cap, .int .i64 un, .agg (rqc 23 pl nn wa q1 q2 m1 m2 k1 k2)] w fun e w' => PmPost w w' e (bmR (bothM f n un pl nn wa ws)) := by
  obtain ⟨W0, hW0⟩ : ∃ W0, W0 = w.alloc (.cells (rqc 23 pl nn wa q1 q2 m1 m2 k1 k2) 28) := ⟨_, rfl⟩
  obtain ⟨gQ, hgQ⟩ : ∃ gQ, gQ = w.heap.size := ⟨_, rfl⟩
  have bW0 : Below w.heap.size w W0 := by rw [hW0]; exact bel_alloc _ _
  have HW0 : Hid (SlU W0 a n f ∧ Below w.heap.size w W0 ∧ SlI W0 q1 ws ∧ Blk W0 gQ 28 (rqc 23 pl nn wa q1 q2 m1 m2 k1 k2)) := ⟨SlS.below hs bW0, bW0, s1.below bW0, by rw [hW0, hgQ]; exact Blk.new w _ _⟩
  have HM : Hid (m1 = ws.length ∧ m2 = 0 ∧ ws.length ≤ 121) := ⟨h1, h2, by omega⟩
  have HB : Hid ((0 ≤ pl ∧ pl ≤ 65535) ∧ (0 ≤ nn ∧ nn ≤ 125) ∧ (0 ≤ wa ∧ wa ≤ 65535)) := ⟨hp, hnn, hwa⟩
  have HOK : Hid (∀ k, k < n → OkRu (f k)) := hok
  have HQW : Hid (w.heap.size ≤ gQ) := Nat.le_of_eq hgQ.symm
  have v1 : IntKind.i64.wrap (pl + nn) = pl + nn := by rw [IntKind.wrap_i64]; omega
  have v2 : IntKind.i64.wrap (pl + nn - 1) = pl + nn - 1 := by rw [IntKind.wrap_i64]; omega
  have v3 : IntKind.i64.wrap (wa + (m1 : Int)) = wa + m1 := by rw [IntKind.wrap_i64]; omega
  have v4 : IntKind.i64.wrap (wa + (m1 : Int) - 1) = wa + m1 - 1 := by rw [IntKind.wrap_i64]; omega
  clear hs bW0 s1 h1 h2 hp hnn hwa hok
  go_enter Try.func39, Try.ntmps39
  go_upto_region 1 with fail
  rw [← hW0, ← hgQ]
  clear hW0 hgQ
  have y1 := HW0.out.2.2.2.cell 1 rfl
  go_wp2_with fail
  refine (specRuleAt_any a n cap f un 2 pl _ HW0.out.1 (by omega)).mono ?_
  rintro e w1 ⟨rfl, b1⟩
  have HW : Hid (SlU w1 a n f ∧ Below w.heap.size w w1 ∧ SlI w1 q1 ws) := ⟨SlS.below HW0.out.1 b1, bel_next HW0.out.2.1 b1, HW0.out.2.2.1.below b1⟩
  have HQ : Hid (Blk w1 gQ 28 (rqc 23 pl nn wa q1 q2 m1 m2 k1 k2)) := HW0.out.2.2.2.below b1
  clear HW0 b1 y1
  by_cases hi : atR f n un 2 pl < 0
  · have HNO : Hid (bothM f n un pl nn wa ws = none) := by show _ = _; unfold bothM; rw [if_pos hi]
    have HX : Hid (Below w.heap.size w w1) := HW.out.2.1
    have dt : decide (atR f n un 2 pl < 0) = true := decide_eq_true hi
    clear HW HQ
    go_upto_region 2 with fail
    go_quiet (fail)
    go_wp2
    refine bodyPost_ret (v := .tuple #[.slice (some ⟨w1.heap.size, 0, none⟩) 0 0, .int .i64 2]) (by simp [results, Try.results39, go_sem]) rfl ?_
    rw [HNO.out]
    exact ⟨_, rfl, ownPs_nil _ _ _ _, by first | exact (bel_drewN HX.out _).alloc (by have := HX.out.size; simpa using this) _ | exact HX.out.alloc HX.out.size _⟩
  · obtain ⟨x, hx, hxn, hxh⟩ : ∃ x : Nat, atR f n un 2 pl = (x : Int) ∧ x < n ∧ (f x).lo ≤ pl := by
      rcases atFrom_cases f un 2 pl n 0 with ⟨x, _, g2, g3, g4, _⟩ | ⟨g1, _⟩
      · exact ⟨x, g3, g2, (hasR_true.1 g4).2.2.1⟩
      · exact absurd (by rw [atR, g1]; decide) hi
    have HI : Hid (atR f n un 2 pl = (x : Int) ∧ (f x).lo ≤ pl) := ⟨hx, hxh⟩
    have xi : (x : Int) < (n : Int) := by omega
    have x0 : ¬ (x : Int) < 0 := by omega
    have x1 : decide ((x : Int) < 0) = false := decide_eq_false x0
    obtain ⟨bb, off, rfl, hbb, c0, c1, c2, c3, c4, c5, c6⟩ := SlU.seven HW.out.1 hxn
    have HC : Hid (∀ u, Below w1.heap.size w1 u → u.cell? ⟨bb, off + x * 7, none⟩ = some (.int .i64 (f x).u) ∧ u.cell? ⟨bb, off + x * 7 + 1, none⟩ = some (.int .i64 (f x).s) ∧ u.cell? ⟨bb, off + x * 7 + 2, none⟩ = some (.int .i64 (f x).lo) ∧ u.cell? ⟨bb, off + x * 7 + 3, none⟩ = some (.int .i64 (f x).hi) ∧ u.cell? ⟨bb, off + x * 7 + 4, none⟩ = some (.int .i64 (f x).p) ∧ u.cell? ⟨bb, off + x * 7 + 5, none⟩ = some (.int .i64 (f x).t) ∧ u.cell? ⟨bb, off + x * 7 + 6, none⟩ = some (.int .i64 (f x).sh)) := by
      intro u hu
      obtain ⟨b2, o2, e2, _, h9⟩ := SlU.seven (SlS.below HW.out.1 hu) hxn
      simp only [Option.some.injEq, Addr.mk.injEq] at e2
      obtain ⟨rfl, rfl, _⟩ := e2
      exact h9
    have HBB : Hid (bb < w1.heap.size) := hbb
    have hox := HOK.out x hxn
    have ws1 : IntKind.i64.wrap (pl + (f x).sh) = pl + (f x).sh := by unfold OkRu at hox; have := HB.out; rw [IntKind.wrap_i64]; omega
    have ws2 : IntKind.i64.wrap (wa + (f x).sh) = wa + (f x).sh := by unfold OkRu at hox; have := HB.out; rw [IntKind.wrap_i64]; omega
    rw [hx]
    clear hx hi hox HOK hbb hxh
    obtain ⟨y0, y1, y2, y3, y4, y5⟩ := HQ.out.six
    go_upto_region 2 with fail
    by_cases t1 : (f x).hi < pl + nn - 1
    · have dt1 : decide ((f x).hi < pl + nn - 1) = true := decide_eq_true t1
      have HNO : Hid (bothM f n un pl nn wa ws = none) := by show _ = _; unfold bothM; rw [HI.out.1, if_neg (by omega), Int.toNat_natCast, if_neg (by omega)]
      have HX : Hid (Below w.heap.size w w1) := HW.out.2.1
      clear HW HQ HC
      go_quiet (fail)
      go_wp2
      refine bodyPost_ret (v := .tuple #[.slice (some ⟨w1.heap.size, 0, none⟩) 0 0, .int .i64 2]) (by simp [results, Try.results39, go_sem]) rfl ?_
      rw [HNO.out]
      exact ⟨_, rfl, ownPs_nil _ _ _ _, by first | exact (bel_drewN HX.out _).alloc (by have := HX.out.size; simpa using this) _ | exact HX.out.alloc HX.out.size _⟩
    · have dt1 : decide ((f x).hi < pl + nn - 1) = false := decide_eq_false t1
      by_cases t2 : wa < (f x).lo
      · have dt2 : decide (wa < (f x).lo) = true := decide_eq_true t2
        have HNO : Hid (bothM f n un pl nn wa ws = none) := by show _ = _; unfold bothM; rw [HI.out.1, if_neg (by omega), Int.toNat_natCast, if_neg (by omega)]
        have HX : Hid (Below w.heap.size w w1) := HW.out.2.1
        clear HW HQ HC
        go_quiet (fail)
        go_wp2
        refine bodyPost_ret (v := .tuple #[.slice (some ⟨w1.heap.size, 0, none⟩) 0 0, .int .i64 2]) (by simp [results, Try.results39, go_sem]) rfl ?_
        rw [HNO.out]
        exact ⟨_, rfl, ownPs_nil _ _ _ _, by first | exact (bel_drewN HX.out _).alloc (by have := HX.out.size; simpa using this) _ | exact HX.out.alloc HX.out.size _⟩
      · have dt2 : decide (wa < (f x).lo) = false := decide_eq_false t2
        by_cases t3 : (f x).hi < wa + (m1 : Int) - 1
        · have dt3 : decide ((f x).hi < wa + (m1 : Int) - 1) = true := decide_eq_true t3
          have HNO : Hid (bothM f n un pl nn wa ws = none) := by show _ = _; unfold bothM; have := HM.out.1; rw [HI.out.1, if_neg (by omega), Int.toNat_natCast, if_neg (by omega)]
          have HX : Hid (Below w.heap.size w w1) := HW.out.2.1
          clear HW HQ HC
          go_quiet (fail)
          go_wp2
          refine bodyPost_ret (v := .tuple #[.slice (some ⟨w1.heap.size, 0, none⟩) 0 0, .int .i64 2]) (by simp [results, Try.results39, go_sem]) rfl ?_
          rw [HNO.out]
          exact ⟨_, rfl, ownPs_nil _ _ _ _, by first | exact (bel_drewN HX.out _).alloc (by have := HX.out.size; simpa using this) _ | exact HX.out.alloc HX.out.size _⟩
        · have dt3 : decide ((f x).hi < wa + (m1 : Int) - 1) = false := decide_eq_false t3
          have HYES : Hid (bothM f n un pl nn wa ws = some ⟨(f x).p, (f x).t, 23, pl + (f x).sh, nn, wa + (f x).sh, ws, []⟩) := by show _ = _; unfold bothM; have := HM.out.1; have := HI.out.2; rw [HI.out.1, if_neg (by omega), Int.toNat_natCast, if_pos (by omega)]
          go_quiet (fail)
          clear y0 y1 y2 y3 y4 y5 c0 c1 c2 c3 c4 c5 c6
          obtain ⟨u, hu⟩ : ∃ u, u = w1.drewN nq := ⟨_, rfl⟩
          have bu : Below w1.heap.size w1 u := by rw [hu]; exact bel_drewN (Below.refl _ _) _
          have HX : Hid (Below w.heap.size w u ∧ Blk u gQ 28 (rqc 23 pl nn wa q1 q2 m1 m2 k1 k2) ∧ SlI u q1 ws ∧ Below w1.heap.size w1 u) := ⟨bel_next HW.out.2.1 bu, HQ.out.below bu, HW.out.2.2.below bu, bu⟩
          rw [← hu]
          clear hu bu HW HQ
          obtain ⟨y0, y1, y2, y3, y4, y5⟩ := HX.out.2.1.six
          go_wp2_with fail
          refine (copyReq_any 23 pl nn wa q1 q2 m1 m2 k1 k2 ws [] _ HM.out.1 HM.out.2.1 HX.out.2.2.1 (.inl rfl) (by have := HM.out.2.2; omega) (by simp)).mono ?_
          rintro e w3 ⟨r1, r2, l1, l2, c1', c2', rfl, g1, g2, o1, o2, b3⟩
          obtain ⟨gO, hgO⟩ : ∃ gO, gO = w3.heap.size := ⟨_, rfl⟩
          obtain ⟨W5, hW5⟩ : ∃ W5, W5 = w3.alloc (.cells (rqc 23 pl nn wa r1 r2 l1 l2 c1' c2') 28) := ⟨_, rfl⟩
          have b5 : Below w3.heap.size w3 W5 := by rw [hW5]; exact bel_alloc _ _
          have HW5 : Hid (Below w.heap.size w W5 ∧ Blk W5 gQ 28 (rqc 23 pl nn wa q1 q2 m1 m2 k1 k2) ∧ OwnI W5 w.heap.size (.slice r1 l1 c1') ws ∧ OwnB W5 w.heap.size (.slice r2 l2 c2') [] ∧ Blk W5 gO 28 (rqc 23 pl nn wa r1 r2 l1 l2 c1' c2') ∧ l1 = ws.length ∧ l2 = 0 ∧ Below w1.heap.size w1 W5 ∧ w.heap.size ≤ gO) := ⟨bel_next (bel_next HX.out.1 b3) b5, (HX.out.2.1.below b3).below b5, (OwnI.mono o1 HX.out.1.size).below b5, (OwnB.mono o2 HX.out.1.size).below b5, by rw [hW5, hgO]; exact Blk.new w3 _ _, g1, g2, bel_next (bel_next HX.out.2.2.2 b3) b5, by rw [hgO]; exact (bel_next HX.out.1 b3).size⟩
          have n1 : ¬ gQ = gO := by rw [hgO]; exact Nat.ne_of_lt (HX.out.2.1.below b3).lt
          have n2 : ¬ bb = gO := by rw [hgO]; have := HBB.out; have := (bel_next HX.out.2.2.2 b3).size; omega
          have n3 : ¬ gO = gQ := fun e => n1 e.symm
          have n4 : ¬ gO = bb := fun e => n2 e.symm
          clear g1 g2 o1 o2 b3 b5 y0 y1 y2 y3 y4 y5 HX
          go_upto_region 5 with fail
          rw [← hW5, ← hgO]
          clear hW5 hgO
          obtain ⟨y0, y1, y2, y3, y4, y5⟩ := HW5.out.2.1.six
          obtain ⟨c0, c1, c2, c3, c4, c5, c6⟩ := HC.out W5 HW5.out.2.2.2.2.2.2.2.1
          obtain ⟨⟨z0, z1, z2, z3, z4, z5⟩, ⟨f0, f1, f2, f3, f4, f5⟩⟩ := HW5.out.2.2.2.2.1.six2
          clear c0 c1 c2 c3
          go_region
          obtain ⟨W6, hW6⟩ : ∃ W6, W6 = (W5.setCell ⟨gO, 1, none⟩ (.int .i64 (pl + (f x).sh))).drew := ⟨_, rfl⟩
          have dW6 : Below (W5.setCell ⟨gO, 1, none⟩ (.int .i64 (pl + (f x).sh))).heap.size (W5.setCell ⟨gO, 1, none⟩ (.int .i64 (pl + (f x).sh))) W6 := by rw [hW6]; exact (Below.refl _ _).drew
          have HW6 : Hid (Below w.heap.size w W6 ∧ Blk W6 gQ 28 (rqc 23 pl nn wa q1 q2 m1 m2 k1 k2) ∧ OwnI W6 w.heap.size (.slice r1 l1 c1') ws ∧ OwnB W6 w.heap.size (.slice r2 l2 c2') [] ∧ Blk W6 gO 28 (rqc 23 (pl + (f x).sh) nn wa r1 r2 l1 l2 c1' c2') ∧ l1 = ws.length ∧ l2 = 0 ∧ (∀ o v, W5.cell? ⟨bb, o, none⟩ = some v → W6.cell? ⟨bb, o, none⟩ = some v) ∧ w.heap.size ≤ gO) := by
            have h9 := HW5.out.2.2.2.2.1.set 1 (.int .i64 (pl + (f x).sh))
            refine ⟨by rw [hW6]; exact (HW5.out.1.setCell (p := ⟨gO, 1, none⟩) HW5.out.2.2.2.2.2.2.2.2 _).drew, (HW5.out.2.1.setNe n1).below dW6, OwnI.below (row_setE HW5.out.2.2.1 ⟨_, HW5.out.2.2.2.2.1⟩ (by decide)) dW6, OwnB.below (row_setE HW5.out.2.2.2.1 ⟨_, HW5.out.2.2.2.2.1⟩ (by decide)) dW6, Blk.below (by simpa using h9) dW6, HW5.out.2.2.2.2.2.1, HW5.out.2.2.2.2.2.2.1, fun o v hv => ?_, HW5.out.2.2.2.2.2.2.2.2⟩
            rw [hW6]
            simp [go_sem, n2, n4, hv]
          obtain ⟨k4, k5, k6⟩ : W6.cell? ⟨bb, off + x * 7 + 4, none⟩ = some (.int .i64 (f x).p) ∧ W6.cell? ⟨bb, off + x * 7 + 5, none⟩ = some (.int .i64 (f x).t) ∧ W6.cell? ⟨bb, off + x * 7 + 6, none⟩ = some (.int .i64 (f x).sh) := ⟨HW6.out.2.2.2.2.2.2.2.1 _ _ c4, HW6.out.2.2.2.2.2.2.2.1 _ _ c5, HW6.out.2.2.2.2.2.2.2.1 _ _ c6⟩
          rw [← hW6]
          clear hW6 dW6 HW5 y0 y1 y2 y3 y4 y5 z0 z1 z2 z3 z4 z5 f0 f1 f2 f3 f4 f5 c4 c5 c6
          obtain ⟨y0, y1, y2, y3, y4, y5⟩ := HW6.out.2.1.six
          obtain ⟨⟨z0, z1, z2, z3, z4, z5⟩, ⟨f0, f1, f2, f3, f4, f5⟩⟩ := HW6.out.2.2.2.2.1.six2
          have c4 := k4
          have c5 := k5
          have c6 := k6
          clear k4 k5 k6
          go_upto_region 6 with fail
          go_region
          obtain ⟨W7, hW7⟩ : ∃ W7, W7 = (W6.setCell ⟨gO, 5, none⟩ (.int .i64 (wa + (f x).sh))).drew := ⟨_, rfl⟩
          have dW7 : Below (W6.setCell ⟨gO, 5, none⟩ (.int .i64 (wa + (f x).sh))).heap.size (W6.setCell ⟨gO, 5, none⟩ (.int .i64 (wa + (f x).sh))) W7 := by rw [hW7]; exact (Below.refl _ _).drew
          have HW7 : Hid (Below w.heap.size w W7 ∧ Blk W7 gQ 28 (rqc 23 pl nn wa q1 q2 m1 m2 k1 k2) ∧ OwnI W7 w.heap.size (.slice r1 l1 c1') ws ∧ OwnB W7 w.heap.size (.slice r2 l2 c2') [] ∧ Blk W7 gO 28 (rqc 23 (pl + (f x).sh) nn (wa + (f x).sh) r1 r2 l1 l2 c1' c2') ∧ l1 = ws.length ∧ l2 = 0 ∧ (∀ o v, W6.cell? ⟨bb, o, none⟩ = some v → W7.cell? ⟨bb, o, none⟩ = some v) ∧ w.heap.size ≤ gO) := by
            have h9 := HW6.out.2.2.2.2.1.set 5 (.int .i64 (wa + (f x).sh))
            refine ⟨by rw [hW7]; exact (HW6.out.1.setCell (p := ⟨gO, 5, none⟩) HW6.out.2.2.2.2.2.2.2.2 _).drew, (HW6.out.2.1.setNe n1).below dW7, OwnI.below (row_setE HW6.out.2.2.1 ⟨_, HW6.out.2.2.2.2.1⟩ (by decide)) dW7, OwnB.below (row_setE HW6.out.2.2.2.1 ⟨_, HW6.out.2.2.2.2.1⟩ (by decide)) dW7, Blk.below (by simpa using h9) dW7, HW6.out.2.2.2.2.2.1, HW6.out.2.2.2.2.2.2.1, fun o v hv => ?_, HW6.out.2.2.2.2.2.2.2.2⟩
            rw [hW7]
            simp [go_sem, n2, n4, hv]
          obtain ⟨k4, k5, k6⟩ : W7.cell? ⟨bb, off + x * 7 + 4, none⟩ = some (.int .i64 (f x).p) ∧ W7.cell? ⟨bb, off + x * 7 + 5, none⟩ = some (.int .i64 (f x).t) ∧ W7.cell? ⟨bb, off + x * 7 + 6, none⟩ = some (.int .i64 (f x).sh) := ⟨HW7.out.2.2.2.2.2.2.2.1 _ _ c4, HW7.out.2.2.2.2.2.2.2.1 _ _ c5, HW7.out.2.2.2.2.2.2.2.1 _ _ c6⟩
          rw [← hW7]
          clear hW7 dW7 HW6 y0 y1 y2 y3 y4 y5 z0 z1 z2 z3 z4 z5 f0 f1 f2 f3 f4 f5 c4 c5 c6
          obtain ⟨y0, y1, y2, y3, y4, y5⟩ := HW7.out.2.1.six
          obtain ⟨⟨z0, z1, z2, z3, z4, z5⟩, ⟨f0, f1, f2, f3, f4, f5⟩⟩ := HW7.out.2.2.2.2.1.six2
          have c4 := k4
          have c5 := k5
          have c6 := k6
          clear k4 k5 k6
          go_upto_region 7 with fail
          go_region
          clear y0 y1 y2 y3 y4 y5 z0 z1 z2 z3 z4 z5 f0 f1 f2 f3 f4 f5 c4 c5 c6
          go_wp2
          refine bodyPost_ret (v := .tuple #[.slice (some ⟨W7.heap.size, 0, none⟩) 1 1, .int .i64 0]) (by simp [results, Try.results39, go_sem]) rfl ?_
          rw [HYES.out]
          obtain ⟨j1, j2, j3, j4, j5, j6, j7, j8, j9⟩ := HW7.out
          subst j6
          subst j7
          exact ⟨_, rfl, (ownPs_one W7 w.heap.size ⟨(f x).p, (f x).t, 23, pl + (f x).sh, nn, wa + (f x).sh, ws, []⟩ r1 r2 c1' c2' j3 j4 j1.size).below (Below.refl _ _).drew, (bel_next j1 (bel_alloc _ _)).drew⟩
end Go.Proofs.Ytegckbfbmbiogaa
namespace Go.Proofs.Ytegckbfbmbiogaa
open Go.RowKit Go.Joins
set_option linter.unusedVariables false
set_option linter.unusedSimpArgs false
theorem range_flat_len (F : Nat → List Value) (s : Nat) : ∀ n, (∀ k, k < n → (F k).length = s) → ((List.range n).flatMap F).length = n * s
  | 0, _ => by simp
  | n + 1, h => by
    rw [List.range_succ, List.flatMap_append, List.length_append, range_flat_len F s n (fun k hk => h k (by omega))]
    simp [h n (by omega), Nat.add_mul]
theorem range_flat_at (F : Nat → List Value) (s : Nat) : ∀ n, (∀ k, k < n → (F k).length = s) → ∀ k j, k < n → j < s → ((List.range n).flatMap F)[k * s + j]? = (F k)[j]?
  | 0, _, k, j, hk, _ => by omega
  | n + 1, h, k, j, hk, hj => by
    have hl := range_flat_len F s n (fun k hk => h k (by omega))
    rw [List.range_succ, List.flatMap_append]
    by_cases e : k = n
    · subst e
      rw [List.getElem?_append_right (by omega), hl, Nat.add_sub_cancel_left]
      simp
    · have hk' : k < n := by omega
      have : (k + 1) * s ≤ n * s := Nat.mul_le_mul_right s hk'
      rw [Nat.add_mul, Nat.one_mul] at this
      rw [List.getElem?_append_left (by omega)]
      exact range_flat_at F s n (fun k hk => h k (by omega)) k j hk' hj
theorem range_flat_push (F : Nat → List Value) (vs : List Value) (n : Nat) : (List.range (n + 1)).flatMap (fun k => if k = n then vs else F k) = (List.range n).flatMap F ++ vs := by
  rw [List.range_succ, List.flatMap_append]
  congr 1
  · have : ∀ l : List Nat, (∀ x ∈ l, x < n) → l.flatMap (fun k => if k = n then vs else F k) = l.flatMap F := by
      intro l
      induction l with
      | nil => intro _; rfl
      | cons x r ih =>
        intro h
        rw [List.flatMap_cons, List.flatMap_cons, ih (fun y hy => h y (by simp [hy]))]
        have := h x (by simp)
        rw [if_neg (by omega)]
    exact this _ (fun x hx => List.mem_range.1 hx)
  · simp
theorem row_exB {w : World} {base s n g : Nat} {e : TypeId} {v : Value} {xs : List Value} (h : w.ownsRow base e s v n xs) (hv : v.ownBlock = some g) : ExB w g e := by
  rcases h.2 with ⟨rfl, _⟩ | ⟨g', cap, cur, rfl, _, hh, _⟩
  · simp [Value.ownBlock] at hv
  · simp [Value.ownBlock] at hv
    subst hv
    exact ⟨cur, hh⟩
theorem InP.keptR {w w' : World} {base s n : Nat} {e : TypeId} {v : Value} {xs : List Value} {β : Nat → Nat} {F : Nat → List Value} {Ps : List Pa} {z : Nat} (h : InP w base β F Ps z) (ho : w.ownsRow base e s v n xs) (hg : w.grownBy w' v.ownBlock) (h1 : e ≠ 3) (h2 : e ≠ 4) : InP w' base β F Ps z := by
  cases hv : v.ownBlock with
  | none =>
    rw [hv] at hg
    have hb : Below w.heap.size w w' := (Below.refl _ w).grown hg (Nat.le_refl _) (fun k hk => by cases hk)
    exact h.below hb
  | some g =>
    rw [hv] at hg
    exact h.keptT hg (row_exB ho hv) h1 h2
theorem InP.ext {w : World} {base : Nat} {β : Nat → Nat} {F : Nat → List Value} {Ps Qs : List Pa} {z : Nat} (h : InP w base β F Ps z) (he : ∀ k, k < z → Ps.getD k default = Qs.getD k default) : InP w base β F Qs z := ⟨h.1, h.2.1, fun k hk => by rw [← he k hk]; exact h.2.2 k hk⟩
theorem ownPs_row {w : World} {base : Nat} {v : Value} {n : Nat} {F : Nat → List Value} {β : Nat → Nat} {Ps : List Pa} (h : w.ownsRow base 37 8 v n ((List.range n).flatMap F)) (hI : InP w base β F Ps n) (hn : n = Ps.length) : OwnPs w base v Ps := by
  subst hn
  refine ⟨F, β, ?_, hI⟩
  have hl : ∀ k, k < Ps.length → (F k).length = 8 := fun k hk => (hI.2.2 k hk).len
  rcases h.2 with ⟨hv, h0⟩ | ⟨g, cap, cur, hv, hb, hh, hle, _, hs, ht⟩
  · exact .inl ⟨h0, none, 0, hv⟩
  · refine .inr ⟨g, cap, hv, hb, cur, hh, by rw [hs]; exact Nat.mul_le_mul_right 8 hle, fun k hk j hj => ?_⟩
    have hlt : k * 8 + j < Ps.length * 8 := by omega
    rw [← range_flat_at F 8 Ps.length hl k j hk hj, ← ht, List.getElem?_take, if_pos hlt, Array.getElem?_toList]
theorem newP (u : World) (base : Nat) (hb : base ≤ u.heap.size) : (u.alloc (.cells #[] 37)).ownsRow base 37 8 (.slice (some ⟨u.heap.size, 0, none⟩) 0 0) 0 [] := ⟨rfl, .inr ⟨u.heap.size, 0, #[], rfl, hb, Blk.new u #[] 37, by simp, by simp, rfl, rfl⟩⟩
theorem step_appP {ops : Array Oper} {o : Oper} {a : Act} {w : World} {K : Act → World → Prop} {Q : Exit → Act → World → Prop} {E : Prop} (hgd : o.guard = none) (s x : Operand)
    (ho : o.op = .call { callee := .builtin .append, args := #[s, x], argTypes := #[31, 31] }) (base : Nat) (v : Value) (n : Nat) (xs : List Value) (hs : a.eval s = v) (hown : w.ownsRow base 37 8 v n xs)
    (g c : Nat) (P : Pa) (a1 a2 : Option Addr) (l1 l2 c1 c2 : Nat) (hx : a.eval x = .slice (some ⟨g, 0, none⟩) 1 c) (hb : Blk w g 37 #[.int .i64 P.p, .int .i64 P.t, .int .i64 P.kd, .int .i64 P.pl, .int .i64 P.n, .slice a1 l1 c1, .slice a2 l2 c2, .int .i64 P.wa]) (hn : n ≤ 1000000) (hbase : base ≤ w.heap.size)
    (h : ∀ v' w', w'.ownsRow base 37 8 v' (n + 1) (xs ++ [.int .i64 P.p, .int .i64 P.t, .int .i64 P.kd, .int .i64 P.pl, .int .i64 P.n, .slice a1 l1 c1, .slice a2 l2 c2, .int .i64 P.wa]) → w.grownBy w' v.ownBlock → K (a.put o.dst v') w') :
    if Region.wanted o (yielded ops a.tmps) = true then Oper.wp Try.prog o a w K Q else E := by
  obtain ⟨i0, hi, hzz⟩ := Option.map_eq_some_iff.1 Try.infoP37
  simp only [Prod.mk.injEq] at hzz
  obtain ⟨hz0, hz1, hz2⟩ := hzz
  refine step_append_own hgd s x 31 ho base 37 i0 _ 8 96 Try.underlying31 hi hz0 hz1 hz2 rfl (by decide) v n xs hs hown ⟨g, 0, none⟩ 1 c [.int .i64 P.p, .int .i64 P.t, .int .i64 P.kd, .int .i64 P.pl, .int .i64 P.n, .slice a1 l1 c1, .slice a2 l2 c2, .int .i64 P.wa] hx rfl ?_ (fun u hu => by simp at hu; rcases hu with rfl | rfl | rfl | rfl | rfl | rfl | rfl | rfl <;> rfl) (by unfold maxLen; omega) (by omega) hbase h
  intro j u hu
  have e1 : (⟨g, 0, none⟩ : Addr).add j = ⟨g, j, none⟩ := by unfold Addr.add; split <;> simp_all
  rw [e1]
  exact hb.cell j (by simpa using hu)
theorem row_ext {w : World} {base s n m : Nat} {e : TypeId} {v : Value} {xs ys : List Value} (h : w.ownsRow base e s v n xs) (hn : n = m) (hx : xs = ys) : w.ownsRow base e s v m ys := by rw [← hn, ← hx]; exact h
theorem row_shape {w : World} {base s n : Nat} {e : TypeId} {v : Value} {xs : List Value} (h : w.ownsRow base e s v n xs) : ∃ a c, v = .slice a n c := by
  rcases h.2 with ⟨rfl, h0⟩ | ⟨g, cap, cur, rfl, _⟩
  · exact ⟨none, 0, by rw [h0]⟩
  · exact ⟨_, cap, rfl⟩
theorem rowO_below {w w' : World} {base s n : Nat} {e : TypeId} {v : Value} {xs : List Value} (h : w.ownsRow base e s v n xs) (hb : Below w.heap.size w w') : w'.ownsRow base e s v n xs := by
  refine World.ownsRow.kept h (grown_below hb (some w.heap.size)) ?_
  cases e : v.ownBlock with
  | none => exact .inl rfl
  | some k => exact .inr (fun e2 => by have := (World.ownsRow.lt h k e).2; simp at e2; omega)
def LpI (w wr : World) (f : Nat → Ru) (n : Nat) (un sp E pl kd : Int) (ws : List Int) (bs : List Bool) (fr : Nat) (v : Value) (vn : Nat) : Prop :=
  ∃ (l : List Rn) (F : Nat → List Value) (β : Nat → Nat), vn = l.length ∧ runs f n un sp E pl = (runs f n un sp E (pl + fr)).map (fun t => l ++ t) ∧ l.length ≤ fr ∧ wr.ownsRow w.heap.size 37 8 v vn ((List.range vn).flatMap F) ∧ InP wr w.heap.size β F (l.map (pcOf kd pl ws bs)) vn ∧ β vn ≤ wr.heap.size
theorem LpI.start {w u : World} {f : Nat → Ru} {n : Nat} {un sp E pl kd : Int} {ws : List Int} {bs : List Bool} {v : Value} (h : u.ownsRow w.heap.size 37 8 v 0 []) (hb : w.heap.size ≤ u.heap.size) : LpI w u f n un sp E pl kd ws bs 0 v 0 :=
  ⟨[], fun _ => [], fun _ => w.heap.size, rfl, by simp, Nat.le_refl _, h, InP.start _ _ _ _, hb⟩
theorem LpI.below {w u u' : World} {f : Nat → Ru} {n : Nat} {un sp E pl kd : Int} {ws : List Int} {bs : List Bool} {fr vn : Nat} {v : Value} (h : LpI w u f n un sp E pl kd ws bs fr v vn) (hb : Below u.heap.size u u') : LpI w u' f n un sp E pl kd ws bs fr v vn := by
  obtain ⟨l, F, β, h1, h2, h3, h4, h5, h6⟩ := h
  exact ⟨l, F, β, h1, h2, h3, rowO_below h4 hb, h5.below hb, Nat.le_trans h6 hb.size⟩
theorem LpI.none {w u : World} {f : Nat → Ru} {n : Nat} {un sp E pl kd : Int} {ws : List Int} {bs : List Bool} {fr vn : Nat} {v : Value} (h : LpI w u f n un sp E pl kd ws bs fr v vn) (hlt : pl + fr < E) (hn : atR f n un sp (pl + fr) < 0) : runs f n un sp E pl = Option.none := by
  obtain ⟨l, F, β, h1, h2, _⟩ := h
  rw [h2]
  have : runs f n un sp E (pl + fr) = Option.none := by
    refine runs_none hlt ?_
    rcases atFrom_cases f un sp (pl + fr) n 0 with ⟨x, _, g2, g3, _⟩ | ⟨_, g1⟩
    · exfalso; rw [atR, g3] at hn; omega
    · exact fun j hj => g1 j (Nat.zero_le _) hj
  rw [this]; rfl
theorem LpI.fin {w u : World} {f : Nat → Ru} {n : Nat} {un sp E pl kd : Int} {ws : List Int} {bs : List Bool} {fr vn : Nat} {v : Value} (h : LpI w u f n un sp E pl kd ws bs fr v vn) (hE : ¬ pl + fr < E) : ∃ l, runs f n un sp E pl = some l ∧ vn = l.length ∧ OwnPs u w.heap.size v (l.map (pcOf kd pl ws bs)) := by
  obtain ⟨l, F, β, h1, h2, h3, h4, h5, h6⟩ := h
  refine ⟨l, ?_, h1, ownPs_row h4 h5 (by rw [List.length_map]; exact h1)⟩
  rw [h2, runs_end hE]; simp
theorem LpI.row {w u : World} {f : Nat → Ru} {n : Nat} {un sp E pl kd : Int} {ws : List Int} {bs : List Bool} {fr vn : Nat} {v : Value} (h : LpI w u f n un sp E pl kd ws bs fr v vn) : ∃ xs, u.ownsRow w.heap.size 37 8 v vn xs ∧ vn ≤ fr ∧
    ∀ (u' w7 : World) (N : Nat) (v' : Value) (r : Ru) (a1 a2 : Option Addr) (l1 l2 c1 c2 : Nat) (cs : Array Value) (P : Pa), pl + fr < E → rAt f n un sp (pl + fr) = some r → (N : Int) = min (r.hi + 1) E - (pl + fr) → 0 < N → Below u.heap.size u u' → P = pcOf kd pl ws bs ⟨r, pl + fr, N⟩ →
      l1 = P.ws.length → l2 = P.bs.length → OwnI u' u.heap.size (.slice a1 l1 c1) P.ws → OwnB u' u.heap.size (.slice a2 l2 c2) P.bs → (u'.alloc (.cells cs 37)).grownBy w7 v.ownBlock →
      w7.ownsRow w.heap.size 37 8 v' (vn + 1) (xs ++ [.int .i64 P.p, .int .i64 P.t, .int .i64 P.kd, .int .i64 P.pl, .int .i64 P.n, .slice a1 l1 c1, .slice a2 l2 c2, .int .i64 P.wa]) → LpI w w7 f n un sp E pl kd ws bs (fr + N) v' (vn + 1) := by
  obtain ⟨l, F, β, h1, h2, h3, h4, h5, h6⟩ := h
  refine ⟨_, h4, by omega, ?_⟩
  intro u' w7 N v' r a1 a2 l1 l2 c1 c2 cs P hlt hr hN hpos hb hP e1 e2 o1 o2 hg hrow
  have hrs := runs_step hlt hr
  have eN : pl + ((fr + N : Nat) : Int) = min (r.hi + 1) E := by omega
  have eM : (⟨r, pl + fr, min (r.hi + 1) E - (pl + fr)⟩ : Rn) = ⟨r, pl + fr, N⟩ := by rw [hN]
  rw [eM] at hrs
  have hp : PtAt u' u.heap.size u'.heap.size [.int .i64 P.p, .int .i64 P.t, .int .i64 P.kd, .int .i64 P.pl, .int .i64 P.n, .slice a1 l1 c1, .slice a2 l2 c2, .int .i64 P.wa] P := ⟨a1, a2, c1, c2, by rw [e1, e2], by rw [← e1]; exact o1, by rw [← e2]; exact o2, by rw [← e1]; exact fun k hk => (World.ownsRow.lt o1 k hk).2, by rw [← e2]; exact fun k hk => (World.ownsRow.lt o2 k hk).2⟩
  have hq : ((l ++ [(⟨r, pl + fr, N⟩ : Rn)]).map (pcOf kd pl ws bs)).getD vn default = P := by
    rw [h1, List.map_append, List.getD_eq_getElem?_getD, List.getElem?_append_right (by simp)]
    simp [hP]
  have hI := InP.push ((h5.below hb).ext (Qs := (l ++ [(⟨r, pl + fr, N⟩ : Rn)]).map (pcOf kd pl ws bs)) (fun k hk => by
    rw [List.map_append, List.getD_eq_getElem?_getD, List.getD_eq_getElem?_getD, List.getElem?_append_left (by rw [List.length_map]; omega)])) h6 hb.size hp hq
  have hA := bel_alloc u' (.cells cs 37)
  refine ⟨l ++ [⟨r, pl + fr, N⟩], _, _, by simp [h1], ?_, by simp; omega, row_ext hrow rfl (range_flat_push F _ vn).symm, (hI.below hA).keptR (rowO_below (rowO_below h4 hb) hA) hg (by decide) (by decide), ?_⟩
  · rw [h2, hrs, eN]
    cases runs f n un sp E (min (r.hi + 1) E) <;> simp
  · simp only [if_neg (show ¬ vn + 1 ≤ vn by omega)]
    exact Nat.le_trans hA.size hg.size
end Go.Proofs.Ytegckbfbmbiogaa
namespace Go.Proofs.Ytegckbfbmbiogaa
open Go.RowKit Go.Joins
set_option linter.unusedVariables false
set_option linter.unusedSimpArgs false
theorem Try.infoA49 : (Try.prog.info? 49).map (fun i => (i.zero, i.size, i.bytes)) = some (some (.agg #[.int .i64 0, .int .i64 0, .int .i64 0, .int .i64 0, .slice none 0 0, .slice none 0 0]), 6, 80) := by kernel_rfl
abbrev anl (x : An) (a1 a2 : Option Addr) (c1 c2 : Nat) : List Value := [.int .i64 x.kd, .int .i64 x.fl, .int .i64 x.pl, .int .i64 x.nn, .slice a1 x.ws.length c1, .slice a2 x.bs.length c2]
def AnAt (w : World) (base : Nat) (vs : List Value) (x : An) : Prop :=
  ∃ a1 a2 c1 c2, vs = anl x a1 a2 c1 c2 ∧ OwnI w base (.slice a1 x.ws.length c1) x.ws ∧ OwnB w base (.slice a2 x.bs.length c2) x.bs
theorem AnAt.below {w w' : World} {base : Nat} {vs : List Value} {x : An} (h : AnAt w base vs x) (hb : Below w.heap.size w w') : AnAt w' base vs x := by
  obtain ⟨a1, a2, c1, c2, h1, h2, h3⟩ := h
  exact ⟨a1, a2, c1, c2, h1, h2.below hb, h3.below hb⟩
theorem AnAt.len {w : World} {base : Nat} {vs : List Value} {x : An} (h : AnAt w base vs x) : vs.length = 6 := by
  obtain ⟨a1, a2, c1, c2, rfl, _⟩ := h
  rfl
theorem lt_ne {w : World} {base size n g : Nat} {e : TypeId} {v : Value} {xs : List Value} (h : w.ownsRow base e size v n xs) (hg : g < base) : v.ownBlock = none ∨ v.ownBlock ≠ some g := .inr (fun e9 => by have := (World.ownsRow.lt h g e9).1; omega)
theorem AnAt.keptLt {w w' : World} {base g : Nat} {vs : List Value} {x : An} (h : AnAt w base vs x) (hg : w.grownBy w' (some g)) (hx : g < base) : AnAt w' base vs x := by
  obtain ⟨a1, a2, c1, c2, h1, h2, h3⟩ := h
  exact ⟨a1, a2, c1, c2, h1, World.ownsRow.kept h2 hg (lt_ne h2 hx), World.ownsRow.kept h3 hg (lt_ne h3 hx)⟩
theorem AnAt.keptR {w w' : World} {base s n b : Nat} {v : Value} {xs vs : List Value} {x : An} (h : AnAt w base vs x) (ho : w.ownsRow b 49 s v n xs) (hg : w.grownBy w' v.ownBlock) : AnAt w' base vs x := by
  obtain ⟨a1, a2, c1, c2, h1, h2, h3⟩ := h
  exact ⟨a1, a2, c1, c2, h1, World.ownsRow.kept h2 hg (ne_typesJ h2 ho (by decide)), World.ownsRow.kept h3 hg (ne_typesJ h3 ho (by decide))⟩
def LsA (w : World) (base : Nat) (v : Value) (As : List An) : Prop :=
  ∃ F, w.ownsRow base 49 6 v As.length ((List.range As.length).flatMap F) ∧ ∀ k, k < As.length → AnAt w base (F k) (As.getD k default)
theorem LsA.below {w w' : World} {base : Nat} {v : Value} {As : List An} (h : LsA w base v As) (hb : Below w.heap.size w w') : LsA w' base v As := by
  obtain ⟨F, h1, h2⟩ := h
  exact ⟨F, rowO_below h1 hb, fun k hk => (h2 k hk).below hb⟩
theorem LsA.keptLt {w w' : World} {base g : Nat} {v : Value} {As : List An} (h : LsA w base v As) (hg : w.grownBy w' (some g)) (hx : g < base) : LsA w' base v As := by
  obtain ⟨F, h1, h2⟩ := h
  exact ⟨F, World.ownsRow.kept h1 hg (lt_ne h1 hx), fun k hk => (h2 k hk).keptLt hg hx⟩
theorem LsA.shape {w : World} {base : Nat} {v : Value} {As : List An} (h : LsA w base v As) : ∃ a c, v = .slice a As.length c := by
  obtain ⟨F, h1, _⟩ := h
  exact row_shape h1
theorem newA (u : World) (base : Nat) (hb : base ≤ u.heap.size) : LsA (u.alloc (.cells #[] 49)) base (.slice (some ⟨u.heap.size, 0, none⟩) 0 0) [] :=
  ⟨fun _ => [], ⟨rfl, .inr ⟨u.heap.size, 0, #[], rfl, hb, Blk.new u #[] 49, by simp, by simp, rfl, rfl⟩⟩, fun k hk => by simp at hk⟩
theorem LsA.push {w w' : World} {base : Nat} {v v' : Value} {As : List An} {F : Nat → List Value} {x : An} {a1 a2 : Option Addr} {c1 c2 : Nat} (h1 : w.ownsRow base 49 6 v As.length ((List.range As.length).flatMap F)) (h2 : ∀ k, k < As.length → AnAt w base (F k) (As.getD k default))
    (o1 : OwnI w base (.slice a1 x.ws.length c1) x.ws) (o2 : OwnB w base (.slice a2 x.bs.length c2) x.bs) (h : w'.ownsRow base 49 6 v' (As.length + 1) ((List.range As.length).flatMap F ++ anl x a1 a2 c1 c2)) (hg : w.grownBy w' v.ownBlock) : LsA w' base v' (As ++ [x]) := by
  have el : (As ++ [x]).length = As.length + 1 := by simp
  refine ⟨fun k => if k = As.length then anl x a1 a2 c1 c2 else F k, ?_, fun k hk => ?_⟩
  · rw [el, range_flat_push]
    exact h
  · rw [el] at hk
    by_cases e : k = As.length
    · subst e
      simp only [if_true]
      have e9 : (As ++ [x]).getD As.length default = x := by simp [List.getD_eq_getElem?_getD]
      rw [e9]
      exact ⟨a1, a2, c1, c2, rfl, World.ownsRow.kept o1 hg (ne_typesJ o1 h1 (by decide)), World.ownsRow.kept o2 hg (ne_typesJ o2 h1 (by decide))⟩
    · simp only [if_neg e]
      have hk' : k < As.length := by omega
      have e9 : (As ++ [x]).getD k default = As.getD k default := by
        rw [List.getD_eq_getElem?_getD, List.getD_eq_getElem?_getD, List.getElem?_append_left hk']
      rw [e9]
      exact (h2 k hk').keptR h1 hg
theorem wpList_appA {w : World} {ops : Array Oper} {rest : List Oper} {o : Oper} {a : Act} {Q : Exit → Act → World → Prop} (hgd : o.guard = none) (s x : Operand)
    (ho : o.op = .call { callee := .builtin .append, args := #[s, x], argTypes := #[45, 45] }) (base : Nat) (v : Value) (As : List An) (hs : a.eval s = v) (hown : LsA w base v As)
    (g c : Nat) (y : An) (a1 a2 : Option Addr) (c1 c2 : Nat) (hx : a.eval x = .slice (some ⟨g, 0, none⟩) 1 c) (hb : Blk w g 49 #[.int .i64 y.kd, .int .i64 y.fl, .int .i64 y.pl, .int .i64 y.nn, .slice a1 y.ws.length c1, .slice a2 y.bs.length c2]) (o1 : OwnI w base (.slice a1 y.ws.length c1) y.ws) (o2 : OwnB w base (.slice a2 y.bs.length c2) y.bs) (hlen : As.length ≤ 1000) (hbase : base ≤ w.heap.size)
    (h : ∀ v' w', LsA w' base v' (As ++ [y]) → w.grownBy w' v.ownBlock → (∀ k, v.ownBlock = some k → base ≤ k) → wpList Try.prog ops Q rest (a.put o.dst v') w') : wpList Try.prog ops Q (o :: rest) a w := by
  obtain ⟨F, r1, r2⟩ := hown
  obtain ⟨i0, hi, hzz⟩ := Option.map_eq_some_iff.1 Try.infoA49
  simp only [Prod.mk.injEq] at hzz
  obtain ⟨hz0, hz1, hz2⟩ := hzz
  refine wpList_append_own w hgd s x 45 ho base 49 i0 _ 6 80 Try.underlying45 hi hz0 hz1 hz2 rfl (by decide) v As.length ((List.range As.length).flatMap F) hs r1 ⟨g, 0, none⟩ 1 c (anl y a1 a2 c1 c2) hx rfl (fun j u hu => by
    have e1 : (⟨g, 0, none⟩ : Addr).add j = ⟨g, j, none⟩ := by unfold Addr.add; split <;> simp_all
    rw [e1]
    exact hb.cell j (by simpa using hu)) (fun u hu => by simp at hu; rcases hu with rfl | rfl | rfl | rfl | rfl | rfl <;> rfl) (by unfold maxLen; omega) (by omega) hbase ?_
  intro v' w' h1 h2 _
  exact h v' w' (LsA.push r1 r2 o1 o2 h1 h2) h2 (fun k hk => (World.ownsRow.lt r1 k hk).1)
theorem LsA.row {w : World} {base : Nat} {v : Value} {As : List An} (h : LsA w base v As) : (As = [] ∧ v = .slice none 0 0) ∨ ∃ g c F, v = .slice (some ⟨g, 0, none⟩) As.length c ∧ base ≤ g ∧ RowC w g 49 6 As.length F ∧ ∀ k, k < As.length → AnAt w base (F k) (As.getD k default) := by
  obtain ⟨F, h1, h2⟩ := h
  rcases h1.2 with ⟨hv, h0⟩ | ⟨g, cap, cur, hv, hb, hh, hle, _, hs, ht⟩
  · exact .inl ⟨List.eq_nil_of_length_eq_zero h0, hv⟩
  · refine .inr ⟨g, cap, F, hv, hb, ⟨cur, hh, by rw [hs]; exact Nat.mul_le_mul_right 6 hle, fun k hk j hj => ?_⟩, h2⟩
    have hlt : k * 6 + j < As.length * 6 := by omega
    rw [← range_flat_at F 6 As.length (fun k hk => (h2 k hk).len) k j hk hj, ← ht, List.getElem?_take, if_pos hlt, Array.getElem?_toList]
theorem own_capE {w : World} {base s n m c : Nat} {e : TypeId} {a : Option Addr} {xs : List Value} (h : w.ownsRow base e s (.slice a m c) n xs) : m ≤ c := by
  rcases h.2 with ⟨e, h0⟩ | ⟨g', c', cur, e, _, _, hle, _⟩
  · simp only [Value.slice.injEq] at e; omega
  · simp only [Value.slice.injEq] at e; omega
theorem slA_of {w : World} {base g n : Nat} {F : Nat → List Value} {A : Nat → An} (h : RowC w g 49 6 n F) (h2 : ∀ k, k < n → AnAt w base (F k) (A k)) : SlA w (some ⟨g, 0, none⟩) n A := by
  refine .inr ⟨g, 0, rfl, h.lt, fun k hk => ?_⟩
  obtain ⟨a1, a2, c1, c2, e, o1, o2⟩ := h2 k hk
  have hc : ∀ j, j < 6 → w.cell? ⟨g, 0 + k * 6 + j, none⟩ = (anl (A k) a1 a2 c1 c2)[j]? := fun j hj => by rw [← e, Nat.zero_add]; exact h.cell hk hj
  exact ⟨a1, a2, c1, c2, hc 0 (by decide), hc 1 (by decide), hc 2 (by decide), hc 3 (by decide), hc 4 (by decide), hc 5 (by decide), o1.sl.2, o2.sl.2, own_capE o1, own_capE o2⟩
theorem LsA.sl {w : World} {base : Nat} {a : Option Addr} {n c : Nat} {As : List An} (h : LsA w base (.slice a n c) As) : n = As.length ∧ SlA w a n (fun k => As.getD k default) := by
  rcases h.row with ⟨rfl, hv⟩ | ⟨g, c', F, hv, hb, hr, h2⟩
  · simp only [Value.slice.injEq] at hv
    exact ⟨hv.2.1, .inl hv.2.1⟩
  · simp only [Value.slice.injEq] at hv
    obtain ⟨rfl, rfl, _⟩ := hv
    exact ⟨rfl, slA_of hr h2⟩
theorem OwnPs.own {w : World} {base : Nat} {a : Option Addr} {m c : Nat} {Ps : List Pa} (h : OwnPs w base (.slice a m c) Ps) {k : Nat} (hk : k < Ps.length) : ∃ b off a1 a2 c1 c2, a = some ⟨b, off, none⟩ ∧
    w.cell? ⟨b, off + k * 8 + 2, none⟩ = some (.int .i64 (Ps.getD k default).kd) ∧ w.cell? ⟨b, off + k * 8 + 3, none⟩ = some (.int .i64 (Ps.getD k default).pl) ∧ w.cell? ⟨b, off + k * 8 + 4, none⟩ = some (.int .i64 (Ps.getD k default).n) ∧
    w.cell? ⟨b, off + k * 8 + 5, none⟩ = some (.slice a1 (Ps.getD k default).ws.length c1) ∧ w.cell? ⟨b, off + k * 8 + 6, none⟩ = some (.slice a2 (Ps.getD k default).bs.length c2) ∧ w.cell? ⟨b, off + k * 8 + 7, none⟩ = some (.int .i64 (Ps.getD k default).wa) ∧
    OwnI w base (.slice a1 (Ps.getD k default).ws.length c1) (Ps.getD k default).ws ∧ OwnB w base (.slice a2 (Ps.getD k default).bs.length c2) (Ps.getD k default).bs := by
  obtain ⟨F, β, h1, h2⟩ := h
  obtain ⟨b, off, ha, hb, hc⟩ := SlS.at h1.sl hk
  obtain ⟨a1, a2, c1, c2, e, o1, o2, _⟩ := h2.2.2 k hk
  rw [e] at hc
  have hbk : base ≤ β k := Nat.le_trans h2.1 (beta_mono h2.2.1 (Nat.zero_le k))
  exact ⟨b, off, a1, a2, c1, c2, ha, hc 2 (by decide), hc 3 (by decide), hc 4 (by decide), hc 5 (by decide), hc 6 (by decide), hc 7 (by decide), OwnI.mono o1 hbk, OwnB.mono o2 hbk⟩
end Go.Proofs.Ytegckbfbmbiogaa
namespace Go.Proofs.Ytegckbfbmbiogaa
open Go.RowKit Go.Joins
set_option linter.unusedVariables false
set_option linter.unusedSimpArgs false
def Chain (f : Nat → Ru) (n : Nat) (un sp e : Int) : Int → List Rn → Prop
  | c, [] => c = e
  | c, x :: r => x.at' = c ∧ 0 < x.n ∧ c + x.n ≤ e ∧ rAt f n un sp c = some x.r ∧ c + x.n ≤ x.r.hi + 1 ∧ Chain f n un sp e (c + x.n) r
theorem runs_chain {f : Nat → Ru} {n : Nat} {un sp e : Int} : ∀ (m : Nat) (c : Int) (l : List Rn), (e - c).toNat ≤ m → c ≤ e → runsS f n un sp e m c = some l → Chain f n un sp e c l := by
  intro m
  induction m with
  | zero =>
    intro c l hm hc h
    simp only [runsS, Option.some.injEq] at h
    subst h
    show c = e
    omega
  | succ m ih =>
    intro c l hm hc h
    rw [runsS] at h
    by_cases hlt : c < e
    · rw [if_pos hlt] at h
      cases hr : rAt f n un sp c with
      | none => rw [hr] at h; cases h
      | some r =>
        rw [hr] at h
        simp only at h
        obtain ⟨l', h1, h2⟩ := Option.map_eq_some_iff.1 h
        have hh := hasR_true.1 (rAt_has hr).1
        subst h2
        have := ih (min (r.hi + 1) e) l' (by omega) (by omega) h1
        refine ⟨rfl, by show 0 < min (r.hi + 1) e - c; omega, by show c + (min (r.hi + 1) e - c) ≤ e; omega, hr, by show c + (min (r.hi + 1) e - c) ≤ r.hi + 1; omega, ?_⟩
        show Chain f n un sp e (c + (min (r.hi + 1) e - c)) l'
        rw [show c + (min (r.hi + 1) e - c) = min (r.hi + 1) e by omega]
        exact this
    · rw [if_neg hlt] at h
      simp only [Option.some.injEq] at h
      subst h
      show c = e
      omega
def GoodP (f : Nat → Ru) (n : Nat) (kd pl : Int) (a b : Nat) (P : Pa) : Prop :=
  okR P.kd P.pl P.n P.wa P.ws P.ws.length P.bs.length = true ∧ P.kd = kd ∧ (∃ x : Nat, x < n ∧ atR f n 1 (spc0 kd) (pl + a) = (x : Int) ∧ (f x).p = P.p ∧ (f x).t = P.t ∧ P.pl = pl + a + (f x).sh) ∧ spcN P.kd P.n P.ws.length P.bs.length = (b : Int) - a ∧ a ≤ b
theorem allW_sub {ws : List Int} (h : allW ws = true) (k N : Nat) : allW ((ws.drop k).take N) = true := by
  unfold allW at h ⊢
  rw [decide_eq_true_eq] at h ⊢
  intro i hi
  simp at hi
  have := h (k + i) (by omega)
  rw [List.getD_eq_getElem?_getD] at this ⊢
  rw [List.getElem?_take, if_pos (by omega), List.getElem?_drop]
  exact this
theorem rAt_x {f : Nat → Ru} {n : Nat} {un sp c : Int} {r : Ru} (h : rAt f n un sp c = some r) : ∃ x : Nat, x < n ∧ atR f n un sp c = (x : Int) ∧ f x = r := by
  unfold rAt at h
  rcases atFrom_cases f un sp c n 0 with ⟨y, _, h2, h3, h4, _⟩ | ⟨h1, _⟩
  · rw [if_neg (by rw [atR, h3]; omega), atR, h3] at h
    simp only [Int.toNat_natCast, Option.some.injEq] at h
    exact ⟨y, h2, h3, h⟩
  · rw [if_pos (by rw [atR, h1]; decide)] at h; cases h
theorem piece_good {f : Nat → Ru} {n : Nat} {kd pl nn wa : Int} {ws : List Int} {bs : List Bool} {m1 m2 fr N : Nat} {r : Ru} (hok : ∀ k, k < n → OkRu (f k)) (hR : okR kd pl nn wa ws m1 m2 = true) (h1 : m1 = ws.length) (h2 : m2 = bs.length) (h23 : ¬ kd = 23)
    (hin : (fr : Int) + N ≤ spcN kd nn m1 m2) (hpos : 0 < N) (hr : rAt f n 1 (spc0 kd) (pl + fr) = some r) (hhi : pl + fr + N ≤ r.hi + 1) : GoodP f n kd pl fr (fr + N) (pcOf kd pl ws bs ⟨r, pl + fr, N⟩) := by
  obtain ⟨x, hx, hat, rfl⟩ := rAt_x hr
  have hh := hasR_true.1 (rAt_has hr).1
  have ho := hok x hx
  unfold OkRu at ho
  obtain ⟨hp, c1, c2, c3, c4, _⟩ := okR_m hR h1 h2
  obtain ⟨hK, c5, c6, c7, c8, c9, c10⟩ := c4 h23
  have hW : allW ws = true := by unfold okR at hR; simp only [Bool.and_eq_true] at hR; exact hR.1
  have efr : (pl + (fr : Int) - pl).toNat = fr := by omega
  have eN : ((N : Int)).toNat = N := by omega
  have hk := okR_kind hR
  have hK2 : okK kd pl nn wa m1 m2 = true := by unfold okR at hR; simp only [Bool.and_eq_true] at hR; exact hR.2.2
  have hin0 : inB (pl + (fr : Int) + (f x).sh) 0 65535 = true := by unfold inB; rw [decide_eq_true_eq]; omega
  refine ⟨?_, rfl, ⟨x, hx, hat, rfl, rfl, rfl⟩, ?_, by omega⟩
  · unfold pcOf pcN pcW pcB okR
    simp only [efr, eN]
    obtain rfl | rfl | rfl | rfl | rfl | rfl | rfl | rfl | rfl | rfl := hk
    all_goals first
      | exact absurd rfl h23
      | (simp [okK, zrB, inB, fitB] at hK2; simp [spcN] at hin
         simp only [hin0, Bool.and_eq_true, true_and]
         simp [okK, zrB, inB, fitB, allW_sub hW, hW]
         try (first | omega | (refine ⟨?_, ?_⟩ <;> first | exact allW_sub hW _ _ | exact hW | (simp; omega) | omega | decide)))
  · unfold pcOf pcN pcW pcB
    simp only [efr, eN]
    obtain rfl | rfl | rfl | rfl | rfl | rfl | rfl | rfl | rfl | rfl := hk
    all_goals first
      | exact absurd rfl h23
      | (simp [okK, zrB, inB, fitB] at hK2; simp [spcN] at hin ⊢; omega)
end Go.Proofs.Ytegckbfbmbiogaa
namespace Go.Proofs.Ytegckbfbmbiogaa
open Go.RowKit Go.Joins
set_option linter.unusedVariables false
set_option linter.unusedSimpArgs false
def sufW (kd : Int) (fr : Nat) (ws : List Int) : List Int := if kd = 6 ∨ kd = 16 then ws.drop fr else if kd = 22 then (if fr = 0 then ws else []) else []
def sufB (kd : Int) (fr : Nat) (bs : List Bool) : List Bool := if kd = 5 ∨ kd = 15 then bs.drop fr else []
theorem chain_good {f : Nat → Ru} {n : Nat} {kd pl nn wa : Int} {ws : List Int} {bs : List Bool} {m1 m2 cn : Nat} (hok : ∀ k, k < n → OkRu (f k)) (hR : okR kd pl nn wa ws m1 m2 = true) (h1 : m1 = ws.length) (h2 : m2 = bs.length) (h23 : ¬ kd = 23) (hcn : (cn : Int) = spcN kd nn m1 m2) :
    ∀ (l : List Rn) (fr : Nat), fr ≤ cn → Chain f n 1 (spc0 kd) (pl + cn) (pl + fr) l → ∃ S : Nat → Nat, S 0 = fr ∧ S l.length = cn ∧ (∀ z, z < l.length → GoodP f n kd pl (S z) (S (z + 1)) (pcOf kd pl ws bs (l.getD z default))) ∧ (l.map (pcOf kd pl ws bs)).flatMap (fun P => P.ws) = sufW kd fr ws ∧ (l.map (pcOf kd pl ws bs)).flatMap (fun P => P.bs) = sufB kd fr bs := by
  have hk := okR_kind hR
  have hK2 : okK kd pl nn wa m1 m2 = true := by unfold okR at hR; simp only [Bool.and_eq_true] at hR; exact hR.2.2
  intro l
  induction l with
  | nil =>
    intro fr hle hC
    have e : fr = cn := by have h9 : pl + (fr : Int) = pl + cn := hC; omega
    refine ⟨fun _ => fr, rfl, e, fun z hz => by simp at hz, ?_, ?_⟩
    · unfold sufW
      obtain rfl | rfl | rfl | rfl | rfl | rfl | rfl | rfl | rfl | rfl := hk <;> first | exact absurd rfl h23 | (simp [okK, zrB, inB, fitB] at hK2; simp [spcN] at hcn; simp; try omega)
    · unfold sufB
      obtain rfl | rfl | rfl | rfl | rfl | rfl | rfl | rfl | rfl | rfl := hk <;> first | exact absurd rfl h23 | (simp [okK, zrB, inB, fitB] at hK2; simp [spcN] at hcn; simp; try omega)
  | cons x r ih =>
    intro fr hle hC
    obtain ⟨g1, g2, g3, g4, g5, g6⟩ := hC
    obtain ⟨rr, ac, nx⟩ := x
    simp only at g1 g2 g3 g4 g5 g6
    subst g1
    obtain ⟨N, rfl⟩ : ∃ N : Nat, nx = (N : Int) := ⟨nx.toNat, by omega⟩
    have hG := piece_good hok hR h1 h2 h23 (fr := fr) (N := N) (by omega) (by omega) g4 g5
    have g6' : Chain f n 1 (spc0 kd) (pl + cn) (pl + ((fr + N : Nat) : Int)) r := by rw [show pl + ((fr + N : Nat) : Int) = pl + fr + N by omega]; exact g6
    obtain ⟨S, s0, s1, s2, s3, s4⟩ := ih (fr + N) (by omega) g6'
    refine ⟨fun z => match z with | 0 => fr | z + 1 => S z, rfl, s1, fun z hz => ?_, ?_, ?_⟩
    · cases z with
      | zero => simp only [List.getD_cons_zero]; rw [s0]; exact hG
      | succ z => simp only [List.getD_cons_succ]; exact s2 z (by simpa using hz)
    · rw [List.map_cons, List.flatMap_cons, s3]
      unfold sufW pcOf pcW
      simp only [show (pl + (fr : Int) - pl).toNat = fr by omega, show ((N : Int)).toNat = N by omega]
      by_cases e1 : kd = 6 ∨ kd = 16
      · simp only [if_pos e1]
        rw [← List.drop_drop, List.take_append_drop]
      · simp only [if_neg e1]
        by_cases e2 : kd = 22
        · subst e2
          have hf0 : fr = 0 := by simp [spcN] at hcn; omega
          subst hf0
          simp only [if_pos]
          rw [if_neg (by omega)]; simp
        · simp [e2]
    · rw [List.map_cons, List.flatMap_cons, s4]
      unfold sufB pcOf pcB
      simp only [show (pl + (fr : Int) - pl).toNat = fr by omega, show ((N : Int)).toNat = N by omega]
      by_cases e1 : kd = 5 ∨ kd = 15
      · simp only [if_pos e1]
        rw [← List.drop_drop, List.take_append_drop]
      · simp [if_neg e1]
def GoodPs (f : Nat → Ru) (n : Nat) (kd pl nn : Int) (ws : List Int) (bs : List Bool) (Ps : List Pa) : Prop :=
  ∃ S : Nat → Nat, S 0 = 0 ∧ (S Ps.length : Int) = spcN kd nn ws.length bs.length ∧ (∀ z, z < Ps.length → GoodP f n kd pl (S z) (S (z + 1)) (Ps.getD z default)) ∧ Ps.flatMap (fun P => P.ws) = ws ∧ Ps.flatMap (fun P => P.bs) = bs
theorem good_of {f : Nat → Ru} {n : Nat} {kd pl nn wa : Int} {ws : List Int} {bs : List Bool} {Ps : List Pa} (hok : ∀ k, k < n → OkRu (f k)) (hR : okR kd pl nn wa ws ws.length bs.length = true) (h : ptsM f n 1 kd pl nn wa ws bs = some Ps) : GoodPs f n kd pl nn ws bs Ps := by
  obtain ⟨hp, c1, c2, c3, c4, c5⟩ := okR_m hR rfl rfl
  have hk := okR_kind hR
  have hK2 : okK kd pl nn wa ws.length bs.length = true := by unfold okR at hR; simp only [Bool.and_eq_true] at hR; exact hR.2.2
  have hW : allW ws = true := by unfold okR at hR; simp only [Bool.and_eq_true] at hR; exact hR.1
  unfold ptsM at h
  by_cases h23 : kd = 23
  · subst h23
    rw [if_pos rfl] at h
    obtain ⟨d1, d2, d3, d4, d5, d6, d7⟩ := c5 rfl
    obtain ⟨P, hb, rfl⟩ := Option.map_eq_some_iff.1 h
    unfold bothM at hb
    by_cases hat : atR f n 1 2 pl < 0
    · rw [if_pos hat] at hb; cases hb
    · rw [if_neg hat] at hb
      obtain ⟨x, hx, hxa, hh⟩ : ∃ x : Nat, x < n ∧ atR f n 1 2 pl = (x : Int) ∧ hasR (f x) 1 2 pl = true := by
        rcases atFrom_cases f 1 2 pl n 0 with ⟨x, _, g2, g3, g4, _⟩ | ⟨g1, _⟩
        · exact ⟨x, g2, g3, g4⟩
        · exact absurd (by rw [atR, g1]; decide) hat
      rw [hxa] at hb
      simp only [Int.toNat_natCast] at hb
      have ho := hok x hx
      unfold OkRu at ho
      split at hb
      · rename_i hc
        simp only [Option.some.injEq] at hb
        subst hb
        have hnil : bs = [] := List.eq_nil_of_length_eq_zero d3
        refine ⟨fun z => if z = 0 then 0 else nn.toNat, rfl, by simp [spcN]; omega, fun z hz => ?_, by simp, by simp [hnil]⟩
        have : z = 0 := by simp at hz; omega
        subst this
        refine ⟨?_, rfl, ⟨x, hx, by simpa [spc0] using hxa, rfl, rfl, by simp⟩, by simp [spcN]; omega, by simp⟩
        simp [okK, zrB, inB, fitB] at hK2
        simp [okR, okK, zrB, inB, fitB, hW]
        omega
      · cases hb
  · rw [if_neg h23] at h
    obtain ⟨l, hl, rfl⟩ := Option.map_eq_some_iff.1 h
    obtain ⟨cn, hcn⟩ : ∃ cn : Nat, (cn : Int) = spcN kd nn ws.length bs.length := ⟨(spcN kd nn ws.length bs.length).toNat, by omega⟩
    rw [← hcn] at hl
    have hC := runs_chain _ _ _ (Nat.le_refl _) (by omega) hl
    obtain ⟨S, s0, s1, s2, s3, s4⟩ := chain_good (bs := bs) hok hR rfl rfl h23 hcn l 0 (Nat.zero_le _) (by simpa using hC)
    refine ⟨S, s0, by rw [List.length_map, s1, hcn], fun z hz => ?_, ?_, ?_⟩
    · rw [pt_getD (by simpa using hz)]; exact s2 z (by simpa using hz)
    · rw [s3]
      unfold sufW
      obtain rfl | rfl | rfl | rfl | rfl | rfl | rfl | rfl | rfl | rfl := hk <;> first | exact absurd rfl h23 | (simp [okK, zrB, inB, fitB] at hK2; simp [hK2])
    · rw [s4]
      unfold sufB
      obtain rfl | rfl | rfl | rfl | rfl | rfl | rfl | rfl | rfl | rfl := hk <;> first | exact absurd rfl h23 | (simp [okK, zrB, inB, fitB] at hK2; simp [hK2])
end Go.Proofs.Ytegckbfbmbiogaa
