/- Texts that the proof needs, joined: Pt15. -/
import Derived.Test.YtegckbfbmbiogaaV25
import Derived.Test.YtegckbfbmbiogaaV35
namespace Go.Proofs.Ytegckbfbmbiogaa
open Go.RowKit Go.Joins
set_option linter.unusedVariables false
set_option linter.unusedSimpArgs false
theorem rAt_at {f : Nat → Ru} {n : Nat} {un sp p : Int} {x : Nat} (h : atR f n un sp p = (x : Int)) : rAt f n un sp p = some (f x) := by
  unfold rAt; rw [h, if_neg (by omega)]; rfl
theorem atR_lt {f : Nat → Ru} {n : Nat} {un sp p : Int} (h : ¬ atR f n un sp p < 0) : ∃ x : Nat, atR f n un sp p = (x : Int) ∧ x < n ∧ hasR (f x) un sp p = true := by
  rcases atFrom_cases f un sp p n 0 with ⟨x, _, g2, g3, g4, _⟩ | ⟨g1, _⟩
  · exact ⟨x, g3, g2, g4⟩
  · exact absurd (by rw [atR, g1]; decide) h
set_option maxRecDepth 20000 in
set_option maxHeartbeats 4000000 in
theorem specParts_all (kd : Int) (a : Option Addr) (n cap : Nat) (f : Nat → Ru) (un pl nn wa : Int) (q1 q2 : Option Addr) (m1 m2 k1 k2 : Nat) (ws : List Int) (bs : List Bool) (w : World) (hs : SlU w a n f) (hn : n ≤ 2000000)
    (h1 : m1 = ws.length) (h2 : m2 = bs.length) (s1 : SlI w q1 ws) (s2 : SlB w q2 bs) (hl1 : ws.length ≤ 2000000) (hl2 : bs.length ≤ 2000000) (hk1 : m1 ≤ k1) (hk2 : m2 ≤ k2) (rk uk : Bool) (hrk : rk = true ↔ OkRs f n) (huk : uk = true ↔ ∃ j, j < n ∧ (f j).u = un) :
    Calls Try.prog 9 #[.slice a n cap, .int .i64 un, .agg (rqc kd pl nn wa q1 q2 m1 m2 k1 k2)] w fun e w' => PmPost w w' e (pm rk (okR kd pl nn wa ws m1 m2) uk (ptsM f n un kd pl nn wa ws bs)) := by
  obtain ⟨B, hB⟩ : ∃ B, B = w.heap.size := ⟨_, rfl⟩
  obtain ⟨gN, hgN⟩ : ∃ gN, gN = (w.alloc (.cells (rqc kd pl nn wa q1 q2 m1 m2 k1 k2) 28)).heap.size := ⟨_, rfl⟩
  obtain ⟨W, hW⟩ : ∃ W, W = (w.alloc (.cells (rqc kd pl nn wa q1 q2 m1 m2 k1 k2) 28)).alloc (.cells #[] 37) := ⟨_, rfl⟩
  have bW : Below w.heap.size w W := by rw [hW]; exact bel_next (bel_alloc _ _) (bel_alloc _ _)
  have HF : Hid ((rk = true ↔ OkRs f n) ∧ (uk = true ↔ ∃ j, j < n ∧ (f j).u = un)) := ⟨hrk, huk⟩
  have HW : Hid (SlU W a n f ∧ SlI W q1 ws ∧ SlB W q2 bs ∧ Below w.heap.size w W ∧ Blk W B 28 (rqc kd pl nn wa q1 q2 m1 m2 k1 k2)) := ⟨SlS.below hs bW, s1.below bW, s2.below bW, bW, by rw [hW, hB]; exact (Blk.new w _ 28).below (bel_alloc _ _)⟩
  have HQ : Hid (m1 = ws.length ∧ m2 = bs.length ∧ m1 ≤ k1 ∧ m2 ≤ k2) := ⟨h1, h2, hk1, hk2⟩
  obtain ⟨R, hR⟩ : ∃ R, R = ptsM f n un kd pl nn wa ws bs := ⟨_, rfl⟩
  obtain ⟨ok, hok⟩ : ∃ ok, ok = okR kd pl nn wa ws m1 m2 := ⟨_, rfl⟩
  rw [← hR, ← hok]
  have HR : Hid (R = ptsM f n un kd pl nn wa ws bs ∧ ok = okR kd pl nn wa ws m1 m2) := ⟨hR, hok⟩
  have H0 : Hid (SlU w a n f ∧ SlI w q1 ws ∧ SlB w q2 bs) := ⟨hs, s1, s2⟩
  clear hs s1 s2 bW h1 h2 hrk huk hk1 hk2 hR hok
  go_enter Try.func9, Try.ntmps9
  go_upto_region 2 with fail
  rw [← hW]
  have e0 : w.heap.size + 1 = gN := by rw [hgN]; simp
  rw [e0, ← hB]
  clear hW hgN hB e0
  go_wp2_with fail
  refine (specRulesOk_any a n cap f _ HW.out.1 hn rk HF.out.1).mono ?_
  rintro e w1 ⟨rfl, b1⟩
  have HW1 : Hid (SlU w1 a n f ∧ SlI w1 q1 ws ∧ SlB w1 q2 bs ∧ Below w.heap.size w w1 ∧ Blk w1 B 28 (rqc kd pl nn wa q1 q2 m1 m2 k1 k2)) := ⟨SlS.below HW.out.1 b1, HW.out.2.1.below b1, HW.out.2.2.1.below b1, bel_next HW.out.2.2.2.1 b1, HW.out.2.2.2.2.below b1⟩
  clear HW b1
  cases rk with
  | false =>
    go_wp2
    refine bodyPost_ret (v := .tuple #[.slice (some ⟨gN, 0, none⟩) 0 0, .int .i64 3]) (by simp [results, Try.results9, go_sem]) rfl ⟨_, rfl, ownPs_nil _ _ _ _, HW1.out.2.2.2.1⟩
  | true =>
    have hrs := HF.out.1.1 rfl
    have HRS : Hid (OkRs f n) := hrs
    have hn24 : n ≤ 24 := hrs.1
    clear hrs
    obtain ⟨y0, y1, y2, y3, y4, y5⟩ := HW1.out.2.2.2.2.six
    go_wp2_with fail
    refine (specReqOk_q kd pl nn wa q1 q2 m1 m2 k1 k2 ws bs _ HQ.out.1 HQ.out.2.1 HW1.out.2.1 HW1.out.2.2.1 hl1 hl2).mono ?_
    rintro e w2 ⟨he, b2⟩
    rw [← HR.out.2] at he
    subst he
    have HW2 : Hid (SlU w2 a n f ∧ SlI w2 q1 ws ∧ SlB w2 q2 bs ∧ Below w.heap.size w w2 ∧ Blk w2 B 28 (rqc kd pl nn wa q1 q2 m1 m2 k1 k2)) := ⟨SlS.below HW1.out.1 b2, HW1.out.2.1.below b2, HW1.out.2.2.1.below b2, bel_next HW1.out.2.2.2.1 b2, HW1.out.2.2.2.2.below b2⟩
    clear HW1 b2 y0 y1 y2 y3 y4 y5
    cases ok with
    | false =>
      go_wp2
      refine bodyPost_ret (v := .tuple #[.slice (some ⟨gN, 0, none⟩) 0 0, .int .i64 3]) (by simp [results, Try.results9, go_sem]) rfl ⟨_, rfl, ownPs_nil _ _ _ _, HW2.out.2.2.2.1⟩
    | true =>
      go_wp2
      go_loopw [9, 10] (fun kv iv wr => ∃ (z : Nat) (kb : Bool), z ≤ n ∧ iv = .int .i64 z ∧ kv = .bool kb ∧ (kb = true ↔ ∃ j, j < z ∧ (f j).u = un) ∧ wr = w2) (fun _ i _ => n - (intOf i).toNat)
      case atStart => exact ⟨0, false, Nat.zero_le _, rfl, rfl, ⟨fun e => Bool.noConfusion e, fun ⟨j, hj, _⟩ => by omega⟩, (by first | rfl | trivial)⟩
      case round =>
        obtain ⟨z, kb, hz, rfl, rfl, hkb, hwr⟩ := hrel
        have hwr' := hwr.symm
        clear hwr
        subst hwr'
        have HK : Hid (kb = true ↔ ∃ j, j < z ∧ (f j).u = un) := hkb
        clear hkb
        by_cases hlt : z < n
        · have hi : (z : Int) < (n : Int) := by omega
          obtain ⟨bb, off, rfl, hbb, c0, c1, c2, c3, c4, c5, c6⟩ := SlU.seven HW2.out.1 hlt
          cases kb with
          | true =>
            have HK2 : Hid (∃ j, j < z + 1 ∧ (f j).u = un) := by obtain ⟨j, g1, g2⟩ := HK.out.1 rfl; exact ⟨j, by omega, g2⟩
            go_wp2
            go_roundw
            case rel => exact ⟨z + 1, true, by omega, by go_num, rfl, ⟨fun _ => HK2.out, fun _ => rfl⟩, (by first | rfl | trivial)⟩
            case measure => simp [intOf]; omega
          | false =>
            by_cases hu : (f z).u = un
            · have d : ((f z).u == un) = true := by simpa using hu
              have HK2 : Hid (∃ j, j < z + 1 ∧ (f j).u = un) := ⟨z, by omega, hu⟩
              clear hu
              go_wp2
              go_roundw
              case rel => exact ⟨z + 1, true, by omega, by go_num, rfl, ⟨fun _ => HK2.out, fun _ => rfl⟩, (by first | rfl | trivial)⟩
              case measure => simp [intOf]; omega
            · have d : ((f z).u == un) = false := by simpa using hu
              have HK2 : Hid (¬ ∃ j, j < z + 1 ∧ (f j).u = un) := by
                rintro ⟨j, g1, g2⟩
                by_cases e : j = z
                · subst e; exact hu g2
                · have := HK.out.2 ⟨j, by omega, g2⟩; cases this
              clear hu
              go_wp2
              go_roundw
              case rel => exact ⟨z + 1, false, by omega, by go_num, (by first | rfl | simp [d]), ⟨fun e => Bool.noConfusion e, fun e => absurd e HK2.out⟩, (by first | rfl | trivial)⟩
              case measure => simp [intOf]; omega
        · have hi : ¬ (z : Int) < (n : Int) := by omega
          have ek : kb = uk := by
            have e1 : z = n := by omega
            rw [e1] at HK
            have h9 := HK.out.trans HF.out.2.symm
            cases kb <;> cases uk <;> simp_all
          subst ek
          cases kb with
          | false =>
            go_wp2
            refine bodyPost_ret (v := .tuple #[.slice (some ⟨gN, 0, none⟩) 0 0, .int .i64 10]) (by simp [results, Try.results9, go_sem]) rfl ⟨_, rfl, ownPs_nil _ _ _ _, HW2.out.2.2.2.1⟩
          | true =>
            clear HK HF
            obtain ⟨y0, y1, y2, y3, y4, y5⟩ := HW2.out.2.2.2.2.six
            have hok := okR_m HR.out.2.symm HQ.out.1 HQ.out.2.1
            have HOM : Hid ((0 ≤ pl ∧ pl ≤ 65535) ∧ 1 ≤ spcN kd nn m1 m2 ∧ spcN kd nn m1 m2 ≤ 2000 ∧ pl + spcN kd nn m1 m2 ≤ 65536 ∧ (kd = 23 → 1 ≤ nn ∧ nn ≤ 125 ∧ m2 = 0 ∧ 1 ≤ m1 ∧ m1 ≤ 121 ∧ 0 ≤ wa ∧ wa ≤ 65535)) := ⟨hok.1, hok.2.1, hok.2.2.1, hok.2.2.2.1, hok.2.2.2.2.2⟩
            clear hok
            by_cases h23 : kd = 23
            · have HP : Hid (R = (bothM f n un pl nn wa ws).map (fun P => [P])) := by show _ = _; rw [HR.out.1]; unfold ptsM; rw [if_pos h23]
              obtain ⟨d1, d2, d3, d4, d5, d6⟩ := HOM.out.2.2.2.2 h23
              have hp := HOM.out.1
              subst h23
              have HC : Hid (Calls Try.prog 39 #[.slice a n cap, .int .i64 un, .agg (rqc 23 pl nn wa q1 q2 m1 m2 k1 k2)] w2 fun e w' => PmPost w2 w' e (bmR (bothM f n un pl nn wa ws))) := l10Both_any a n cap f un pl nn wa q1 q2 m1 m2 k1 k2 ws _ HW2.out.1 hn24 HRS.out.2.1 HQ.out.1 d3 HW2.out.2.1 (by have := HQ.out.1; omega) hp ⟨by omega, d2⟩ d6
              clear d1 d2 d3 d4 d5 d6 hp
              go_wp2_with fail
              refine HC.out.mono ?_
              rintro e w3 ⟨v, rfl, o3, b3⟩
              have HE : Hid (bmR (bothM f n un pl nn wa ws) = pm true true true R) := by
                show _ = _
                rw [HP.out]
                cases bothM f n un pl nn wa ws <;> rfl
              rw [HE.out] at o3 ⊢
              obtain ⟨ft, hft⟩ : ∃ ft, ft = (pm true true true R).2 := ⟨_, rfl⟩
              have HX : Hid (OwnPs w3 w.heap.size v (pm true true true R).1 ∧ Below w.heap.size w w3 ∧ ft = (pm true true true R).2) := ⟨o3.mono HW2.out.2.2.2.1.size, bel_next HW2.out.2.2.2.1 b3, hft⟩
              rw [← hft]
              clear hft o3 b3 HC HP HE HW2 y0 y1 y2 y3 y4 y5
              go_wp2
              refine bodyPost_ret (v := .tuple #[v, .int .i64 ft]) (by simp [results, Try.results9, go_sem]) rfl ⟨v, by rw [HX.out.2.2], HX.out.1, HX.out.2.1⟩
            · have k23 : (kd == 23) = false := by simpa using h23
              obtain ⟨sp, hsp⟩ : ∃ sp, sp = spc0 kd := ⟨_, rfl⟩
              obtain ⟨cn, hcn⟩ : ∃ cn : Nat, (cn : Int) = spcN kd nn m1 m2 := ⟨(spcN kd nn m1 m2).toNat, by have := HOM.out; omega⟩
              have HP : Hid (R = (runs f n un sp (pl + cn) pl).map (List.map (pcOf kd pl ws bs))) := by show _ = _; rw [HR.out.1]; unfold ptsM; rw [if_neg h23, hsp, hcn, HQ.out.1, HQ.out.2.1]
              have HB : Hid ((0 ≤ pl ∧ pl ≤ 65535) ∧ 1 ≤ cn ∧ cn ≤ 2000 ∧ pl + cn ≤ 65536 ∧ (cn : Int) = spcN kd nn m1 m2 ∧ ¬ kd = 23 ∧ okR kd pl nn wa ws m1 m2 = true) := ⟨HOM.out.1, by have := HOM.out; omega, by have := HOM.out; omega, by have := HOM.out; omega, hcn, h23, HR.out.2.symm⟩
              have HV : Hid (spcV (okR kd pl nn wa ws m1 m2) kd pl nn m1 m2 = .tuple #[.int .i64 sp, .int .i64 pl, .int .i64 (cn : Int)]) := by show _ = _; rw [← HR.out.2, hsp, hcn]; rfl
              clear HOM hsp hcn h23 HR
              go_wp2_with fail
              refine (specSpaces_t kd pl nn wa q1 q2 m1 m2 k1 k2 ws bs _ HQ.out.1 HQ.out.2.1 HW2.out.2.1 HW2.out.2.2.1 hl1 hl2 sp pl (cn : Int) HV.out).mono ?_
              rintro e w3 ⟨rfl, b3⟩
              have HW3 : Hid (SlU w3 a n f ∧ SlI w3 q1 ws ∧ SlB w3 q2 bs ∧ Below w.heap.size w w3 ∧ Blk w3 B 28 (rqc kd pl nn wa q1 q2 m1 m2 k1 k2)) := ⟨SlS.below HW2.out.1 b3, HW2.out.2.1.below b3, HW2.out.2.2.1.below b3, bel_next HW2.out.2.2.2.1 b3, HW2.out.2.2.2.2.below b3⟩
              clear HW2 b3 HV y0 y1 y2 y3 y4 y5
              go_upto_region 15 with fail
              obtain ⟨W4, hW4⟩ : ∃ W4, W4 = w3.alloc (.cells #[] 37) := ⟨_, rfl⟩
              have b4 : Below w3.heap.size w3 W4 := by rw [hW4]; exact bel_alloc _ _
              have HW4 : Hid (SlU W4 a n f ∧ SlI W4 q1 ws ∧ SlB W4 q2 bs ∧ Below w.heap.size w W4 ∧ Blk W4 B 28 (rqc kd pl nn wa q1 q2 m1 m2 k1 k2) ∧ LpI w W4 f n un sp (pl + cn) pl kd ws bs 0 (.slice (some ⟨w3.heap.size, 0, none⟩) 0 0) 0) := ⟨SlS.below HW3.out.1 b4, HW3.out.2.1.below b4, HW3.out.2.2.1.below b4, bel_next HW3.out.2.2.2.1 b4, HW3.out.2.2.2.2.below b4, LpI.start (by rw [hW4]; exact newP w3 w.heap.size HW3.out.2.2.2.1.size) (bel_next HW3.out.2.2.2.1 b4).size⟩
              rw [← hW4]
              obtain ⟨gL, hgL⟩ : ∃ gL, gL = w3.heap.size := ⟨_, rfl⟩
              rw [← hgL] at HW4 ⊢
              clear hW4 b4 HW3 hgL
              go_wp2
              go_loopw [14, 15] (fun ov fv wr => ∃ (fr vn vc : Nat) (va : Option Addr), fv = .int .i64 fr ∧ ov = .slice va vn vc ∧ fr ≤ cn ∧ LpI w wr f n un sp (pl + cn) pl kd ws bs fr (.slice va vn vc) vn ∧ Below w.heap.size w wr ∧ Blk wr B 28 (rqc kd pl nn wa q1 q2 m1 m2 k1 k2) ∧ SlU wr a n f ∧ SlI wr q1 ws ∧ SlB wr q2 bs) (fun _ i _ => cn - (intOf i).toNat)
              case atStart => exact ⟨0, 0, 0, some ⟨gL, 0, none⟩, rfl, rfl, Nat.zero_le _, HW4.out.2.2.2.2.2, HW4.out.2.2.2.1, HW4.out.2.2.2.2.1, HW4.out.1, HW4.out.2.1, HW4.out.2.2.1⟩
              case round =>
                clear HW4
                obtain ⟨fr, vn, vc, va, rfl, rfl, hfr, hL, hbl, hBl, hU, hS1, hS2⟩ := hrel
                have HL : Hid (LpI w wr f n un sp (pl + cn) pl kd ws bs fr (.slice va vn vc) vn ∧ Below w.heap.size w wr ∧ Blk wr B 28 (rqc kd pl nn wa q1 q2 m1 m2 k1 k2) ∧ SlU wr a n f ∧ SlI wr q1 ws ∧ SlB wr q2 bs) := ⟨hL, hbl, hBl, hU, hS1, hS2⟩
                clear hL hbl hBl hU hS1 hS2
                by_cases hlt : fr < cn
                · have hi : (fr : Int) < (cn : Int) := by omega
                  have v1 : IntKind.i64.wrap (pl + (fr : Int)) = pl + fr := by have := HB.out; rw [IntKind.wrap_i64]; omega
                  go_wp2_with fail
                  refine (specRuleAt_any a n cap f un sp (pl + fr) _ HL.out.2.2.2.1 hn).mono ?_
                  rintro e w5 ⟨rfl, b5⟩
                  have HL5 : Hid (LpI w w5 f n un sp (pl + cn) pl kd ws bs fr (.slice va vn vc) vn ∧ Below w.heap.size w w5 ∧ Blk w5 B 28 (rqc kd pl nn wa q1 q2 m1 m2 k1 k2) ∧ SlU w5 a n f ∧ SlI w5 q1 ws ∧ SlB w5 q2 bs) := ⟨HL.out.1.below b5, bel_next HL.out.2.1 b5, HL.out.2.2.1.below b5, SlS.below HL.out.2.2.2.1 b5, HL.out.2.2.2.2.1.below b5, HL.out.2.2.2.2.2.below b5⟩
                  clear HL b5
                  by_cases hat : atR f n un sp (pl + fr) < 0
                  · have HE : Hid (pm true true true R = ([], 2)) := by show _ = _; rw [HP.out, HL5.out.1.none (by omega) hat]; rfl
                    go_wp2
                    refine bodyPost_ret (v := .tuple #[.slice (some ⟨gN, 0, none⟩) 0 0, .int .i64 2]) (by simp [results, Try.results9, go_sem]) rfl ?_
                    rw [HE.out]
                    exact ⟨_, rfl, ownPs_nil _ _ _ _, HL5.out.2.1⟩
                  · obtain ⟨x, hx, hxn, hh⟩ := atR_lt hat
                    have hh' := hasR_true.1 hh
                    have hox := HRS.out.2.1 x hxn
                    have xi : (x : Int) < (n : Int) := by omega
                    have x0 : ¬ (x : Int) < 0 := by omega
                    obtain ⟨r, hr⟩ : ∃ r, r = f x := ⟨_, rfl⟩
                    rw [← hr] at hh' hox
                    have HRA : Hid (rAt f n un sp (pl + fr) = some r) := by show _ = _; rw [hr]; exact rAt_at hx
                    obtain ⟨N, hN⟩ : ∃ N : Nat, (N : Int) = min (r.hi + 1) (pl + cn) - (pl + fr) := ⟨(min (r.hi + 1) (pl + cn) - (pl + fr)).toNat, by omega⟩
                    have HN : Hid ((N : Int) = min (r.hi + 1) (pl + cn) - (pl + fr) ∧ 0 < N ∧ N ≤ 2000 ∧ fr + N ≤ cn ∧ (-65535 ≤ r.sh ∧ r.sh ≤ 65535)) := ⟨hN, by omega, by have := HB.out; omega, by omega, by unfold OkRu at hox; have := HB.out; omega⟩
                    have HO : Hid (OkRu r) := hox
                    obtain ⟨bb, off, rfl, hbb, c0, c1, c2, c3, c4, c5, c6⟩ := SlU.seven HL5.out.2.2.2.1 hxn
                    rw [← hr] at c0 c1 c2 c3 c4 c5 c6
                    rw [hx]
                    have w1' : IntKind.i64.wrap (r.hi - (pl + (fr : Int))) = r.hi - (pl + fr) := by unfold OkRu at hox; have := HB.out; rw [IntKind.wrap_i64]; omega
                    have w2' : IntKind.i64.wrap (r.hi - (pl + (fr : Int)) + 1) = r.hi - (pl + fr) + 1 := by unfold OkRu at hox; have := HB.out; rw [IntKind.wrap_i64]; omega
                    have w3' : IntKind.i64.wrap ((cn : Int) - (fr : Int)) = cn - fr := by have := HB.out; rw [IntKind.wrap_i64]; omega
                    have HFX : Hid (r = f x) := hr
                    clear hx hh hh' hox hat hN hr
                    by_cases hm : (cn : Int) - fr < r.hi - (pl + fr) + 1
                    · have HEN : Hid ((cn : Int) - fr = (N : Int)) := by have := HN.out; show _ = _; omega
                      go_upto_region 23 with fail
                      rw [HEN.out]
                      clear HEN hm w1' w2' w3'
                      obtain ⟨P, hP⟩ : ∃ P, P = pcOf kd pl ws bs ⟨r, pl + fr, N⟩ := ⟨_, rfl⟩
                      have HPP : Hid (P = pcOf kd pl ws bs ⟨r, pl + fr, N⟩ ∧ P.p = r.p ∧ P.t = r.t ∧ P.kd = kd) := ⟨hP, by rw [hP]; rfl, by rw [hP]; rfl, by rw [hP]; rfl⟩
                      have HCP : Hid (∀ u, Below w5.heap.size w5 u → Calls Try.prog 42 #[.agg (rqc kd pl nn wa q1 q2 m1 m2 k1 k2), .int .i64 (fr : Int), .int .i64 (N : Int), .int .i64 r.sh] u fun e w' => ReqPost u w' e kd P.pl P.n P.wa P.ws P.bs) := by
                        intro u hu
                        rw [hP]
                        exact piece_any kd pl nn wa r fr N q1 q2 m1 m2 k1 k2 ws bs u HQ.out.1 HQ.out.2.1 (HL5.out.2.2.2.2.1.below hu) (HL5.out.2.2.2.2.2.below hu) hl1 hl2 HQ.out.2.2.1 HQ.out.2.2.2 HB.out.2.2.2.2.2.2 HB.out.2.2.2.2.2.1 (by have := HB.out; have := HN.out; omega) HN.out.2.1 HN.out.2.2.2.2 (pl + fr) rfl
                      clear hP
                      have HSV : Hid (∀ u, Below w.heap.size w u → u.cell? ⟨bb, off + x * 7 + 4, none⟩ = some (.int .i64 r.p) ∧ u.cell? ⟨bb, off + x * 7 + 5, none⟩ = some (.int .i64 r.t) ∧ u.cell? ⟨bb, off + x * 7 + 6, none⟩ = some (.int .i64 r.sh)) := by
                        intro u hu
                        obtain ⟨b2, o2, e2, _, h9⟩ := SlU.seven (SlS.below H0.out.1 hu) hxn
                        simp only [Option.some.injEq, Addr.mk.injEq] at e2
                        obtain ⟨rfl, rfl, _⟩ := e2
                        rw [HFX.out]
                        exact ⟨h9.2.2.2.2.1, h9.2.2.2.2.2.1, h9.2.2.2.2.2.2⟩
                      obtain ⟨xs, hxs, hvn, hpush⟩ := HL5.out.1.row
                      have HXS : Hid (w5.ownsRow w.heap.size 37 8 (.slice va vn vc) vn xs ∧ vn ≤ fr) := ⟨hxs, hvn⟩
                      have HPU := hide hpush
                      clear hxs hvn hpush
                      obtain ⟨y0, y1, y2, y3, y4, y5⟩ := HL5.out.2.2.1.six
                      have dz : Below w5.heap.size w5 w5.drew := (Below.refl _ _).drew
                      clear c0 c1 c2 c3
                      go_region_held3 (fun w' => w'.cell? ⟨B, 0, none⟩ = some (.int .i64 kd) ∧ w'.cell? ⟨B, 1, none⟩ = some (.int .i64 pl) ∧ w'.cell? ⟨B, 2, none⟩ = some (.int .i64 nn) ∧ w'.cell? ⟨B, 3, none⟩ = some (.slice q1 m1 k1) ∧ w'.cell? ⟨B, 4, none⟩ = some (.slice q2 m2 k2) ∧ w'.cell? ⟨B, 5, none⟩ = some (.int .i64 wa) ∧ w'.cell? ⟨bb, off + x * 7 + 4, none⟩ = some (.int .i64 r.p) ∧ w'.cell? ⟨bb, off + x * 7 + 5, none⟩ = some (.int .i64 r.t) ∧ w'.cell? ⟨bb, off + x * 7 + 6, none⟩ = some (.int .i64 r.sh)) (go_keep)
                        (first
                          | (go_at_call 42; refine (HCP.out _ (by first | exact Below.refl _ _ | exact dz)).mono ?_; rintro e w6 ⟨r1, r2, l1, l2, d1, d2, rfl, g1, g2, o1, o2, b'⟩; have B6 : Below w5.heap.size w5 w6 := (by first | exact b' | exact bel_next dz b'); have H6 : Hid (l1 = P.ws.length ∧ l2 = P.bs.length ∧ OwnI w6 w5.heap.size (.slice r1 l1 d1) P.ws ∧ OwnB w6 w5.heap.size (.slice r2 l2 d2) P.bs ∧ Below w5.heap.size w5 w6) := ⟨g1, g2, OwnI.mono o1 (by simp), OwnB.mono o2 (by simp), B6⟩; clear g1 g2 o1 o2 b'; obtain ⟨v0, v1', v2, v3, v4, v5⟩ := (HL5.out.2.2.1.below H6.out.2.2.2.2).six; obtain ⟨j4, j5, j6⟩ := HSV.out w6 (bel_next HL5.out.2.1 H6.out.2.2.2.2); clear B6)
                          | (refine step_appP rfl (.tmp 94) (.tmp 115) rfl w.heap.size (.slice va vn vc) vn xs rfl (rowO_below (rowO_below HXS.out.1 H6.out.2.2.2.2) (bel_alloc _ _)) w6.heap.size 1 P r1 r2 l1 l2 d1 d2 rfl (by rw [HPP.out.2.1, HPP.out.2.2.1, HPP.out.2.2.2]; exact Blk.new w6 _ _) (by have := HXS.out.2; have := HB.out; omega) (by have := (bel_next HL5.out.2.1 H6.out.2.2.2.2).size; simp; omega) ?_; intro v7 w7 o7 g7; have B7 : Below w.heap.size w w7 := (bel_next (bel_next HL5.out.2.1 H6.out.2.2.2.2) (bel_alloc _ _)).grown g7 (by have := (bel_next HL5.out.2.1 H6.out.2.2.2.2).size; simp; omega) (fun k hk => (World.ownsRow.lt HXS.out.1 k hk).1); have K7 : Blk w7 B 28 (rqc kd pl nn wa q1 q2 m1 m2 k1 k2) := ((HL5.out.2.2.1.below H6.out.2.2.2.2).below (bel_alloc _ _)).grown g7 (row_noBlk HXS.out.1 HL5.out.2.2.1 (by decide)); obtain ⟨va7, vc7, hv7⟩ := row_shape o7; subst hv7; have HL7 : Hid (LpI w w7 f n un sp (pl + cn) pl kd ws bs (fr + N) (.slice va7 (vn + 1) vc7) (vn + 1) ∧ Below w.heap.size w w7 ∧ Blk w7 B 28 (rqc kd pl nn wa q1 q2 m1 m2 k1 k2)) := ⟨HPU.out w6 w7 N _ r r1 r2 l1 l2 d1 d2 _ P (by omega) HRA.out HN.out.1 HN.out.2.1 H6.out.2.2.2.2 HPP.out.1 H6.out.1 H6.out.2.1 H6.out.2.2.1 H6.out.2.2.2.1 g7 o7, B7, K7⟩; clear o7 g7 B7 K7; obtain ⟨u0, u1', u2, u3, u4, u5⟩ := HL7.out.2.2.six; obtain ⟨i4, i5, i6⟩ := HSV.out w7 HL7.out.2.1))
                      all_goals (
                        have wN : IntKind.i64.wrap ((fr : Int) + (N : Int)) = (fr : Int) + N := (by have := HN.out; have := HB.out; rw [IntKind.wrap_i64]; omega)
                        clear y0 y1 y2 y3 y4 y5 v0 v1' v2 v3 v4 v5 j4 j5 j6 u0 u1' u2 u3 u4 u5 i4 i5 i6 dz HCP HPU HXS H6 HL5 HPP c4 c5 c6 xi x0
                        go_wp2
                        go_roundw
                        case rel => exact ⟨fr + N, vn + 1, vc7, va7, by go_num, rfl, HN.out.2.2.2.1, HL7.out.1, HL7.out.2.1, HL7.out.2.2, SlS.below H0.out.1 HL7.out.2.1, H0.out.2.1.below HL7.out.2.1, H0.out.2.2.below HL7.out.2.1⟩
                        case measure => have := HN.out; simp [intOf]; omega)
                    · have HEN : Hid (r.hi - (pl + (fr : Int)) + 1 = (N : Int)) := by have := HN.out; show _ = _; omega
                      go_upto_region 23 with fail
                      rw [HEN.out]
                      clear HEN hm w1' w2' w3'
                      obtain ⟨P, hP⟩ : ∃ P, P = pcOf kd pl ws bs ⟨r, pl + fr, N⟩ := ⟨_, rfl⟩
                      have HPP : Hid (P = pcOf kd pl ws bs ⟨r, pl + fr, N⟩ ∧ P.p = r.p ∧ P.t = r.t ∧ P.kd = kd) := ⟨hP, by rw [hP]; rfl, by rw [hP]; rfl, by rw [hP]; rfl⟩
                      have HCP : Hid (∀ u, Below w5.heap.size w5 u → Calls Try.prog 42 #[.agg (rqc kd pl nn wa q1 q2 m1 m2 k1 k2), .int .i64 (fr : Int), .int .i64 (N : Int), .int .i64 r.sh] u fun e w' => ReqPost u w' e kd P.pl P.n P.wa P.ws P.bs) := by
                        intro u hu
                        rw [hP]
                        exact piece_any kd pl nn wa r fr N q1 q2 m1 m2 k1 k2 ws bs u HQ.out.1 HQ.out.2.1 (HL5.out.2.2.2.2.1.below hu) (HL5.out.2.2.2.2.2.below hu) hl1 hl2 HQ.out.2.2.1 HQ.out.2.2.2 HB.out.2.2.2.2.2.2 HB.out.2.2.2.2.2.1 (by have := HB.out; have := HN.out; omega) HN.out.2.1 HN.out.2.2.2.2 (pl + fr) rfl
                      clear hP
                      have HSV : Hid (∀ u, Below w.heap.size w u → u.cell? ⟨bb, off + x * 7 + 4, none⟩ = some (.int .i64 r.p) ∧ u.cell? ⟨bb, off + x * 7 + 5, none⟩ = some (.int .i64 r.t) ∧ u.cell? ⟨bb, off + x * 7 + 6, none⟩ = some (.int .i64 r.sh)) := by
                        intro u hu
                        obtain ⟨b2, o2, e2, _, h9⟩ := SlU.seven (SlS.below H0.out.1 hu) hxn
                        simp only [Option.some.injEq, Addr.mk.injEq] at e2
                        obtain ⟨rfl, rfl, _⟩ := e2
                        rw [HFX.out]
                        exact ⟨h9.2.2.2.2.1, h9.2.2.2.2.2.1, h9.2.2.2.2.2.2⟩
                      obtain ⟨xs, hxs, hvn, hpush⟩ := HL5.out.1.row
                      have HXS : Hid (w5.ownsRow w.heap.size 37 8 (.slice va vn vc) vn xs ∧ vn ≤ fr) := ⟨hxs, hvn⟩
                      have HPU := hide hpush
                      clear hxs hvn hpush
                      obtain ⟨y0, y1, y2, y3, y4, y5⟩ := HL5.out.2.2.1.six
                      have dz : Below w5.heap.size w5 w5.drew := (Below.refl _ _).drew
                      clear c0 c1 c2 c3
                      go_region_held3 (fun w' => w'.cell? ⟨B, 0, none⟩ = some (.int .i64 kd) ∧ w'.cell? ⟨B, 1, none⟩ = some (.int .i64 pl) ∧ w'.cell? ⟨B, 2, none⟩ = some (.int .i64 nn) ∧ w'.cell? ⟨B, 3, none⟩ = some (.slice q1 m1 k1) ∧ w'.cell? ⟨B, 4, none⟩ = some (.slice q2 m2 k2) ∧ w'.cell? ⟨B, 5, none⟩ = some (.int .i64 wa) ∧ w'.cell? ⟨bb, off + x * 7 + 4, none⟩ = some (.int .i64 r.p) ∧ w'.cell? ⟨bb, off + x * 7 + 5, none⟩ = some (.int .i64 r.t) ∧ w'.cell? ⟨bb, off + x * 7 + 6, none⟩ = some (.int .i64 r.sh)) (go_keep)
                        (first
                          | (go_at_call 42; refine (HCP.out _ (by first | exact Below.refl _ _ | exact dz)).mono ?_; rintro e w6 ⟨r1, r2, l1, l2, d1, d2, rfl, g1, g2, o1, o2, b'⟩; have B6 : Below w5.heap.size w5 w6 := (by first | exact b' | exact bel_next dz b'); have H6 : Hid (l1 = P.ws.length ∧ l2 = P.bs.length ∧ OwnI w6 w5.heap.size (.slice r1 l1 d1) P.ws ∧ OwnB w6 w5.heap.size (.slice r2 l2 d2) P.bs ∧ Below w5.heap.size w5 w6) := ⟨g1, g2, OwnI.mono o1 (by simp), OwnB.mono o2 (by simp), B6⟩; clear g1 g2 o1 o2 b'; obtain ⟨v0, v1', v2, v3, v4, v5⟩ := (HL5.out.2.2.1.below H6.out.2.2.2.2).six; obtain ⟨j4, j5, j6⟩ := HSV.out w6 (bel_next HL5.out.2.1 H6.out.2.2.2.2); clear B6)
                          | (refine step_appP rfl (.tmp 94) (.tmp 115) rfl w.heap.size (.slice va vn vc) vn xs rfl (rowO_below (rowO_below HXS.out.1 H6.out.2.2.2.2) (bel_alloc _ _)) w6.heap.size 1 P r1 r2 l1 l2 d1 d2 rfl (by rw [HPP.out.2.1, HPP.out.2.2.1, HPP.out.2.2.2]; exact Blk.new w6 _ _) (by have := HXS.out.2; have := HB.out; omega) (by have := (bel_next HL5.out.2.1 H6.out.2.2.2.2).size; simp; omega) ?_; intro v7 w7 o7 g7; have B7 : Below w.heap.size w w7 := (bel_next (bel_next HL5.out.2.1 H6.out.2.2.2.2) (bel_alloc _ _)).grown g7 (by have := (bel_next HL5.out.2.1 H6.out.2.2.2.2).size; simp; omega) (fun k hk => (World.ownsRow.lt HXS.out.1 k hk).1); have K7 : Blk w7 B 28 (rqc kd pl nn wa q1 q2 m1 m2 k1 k2) := ((HL5.out.2.2.1.below H6.out.2.2.2.2).below (bel_alloc _ _)).grown g7 (row_noBlk HXS.out.1 HL5.out.2.2.1 (by decide)); obtain ⟨va7, vc7, hv7⟩ := row_shape o7; subst hv7; have HL7 : Hid (LpI w w7 f n un sp (pl + cn) pl kd ws bs (fr + N) (.slice va7 (vn + 1) vc7) (vn + 1) ∧ Below w.heap.size w w7 ∧ Blk w7 B 28 (rqc kd pl nn wa q1 q2 m1 m2 k1 k2)) := ⟨HPU.out w6 w7 N _ r r1 r2 l1 l2 d1 d2 _ P (by omega) HRA.out HN.out.1 HN.out.2.1 H6.out.2.2.2.2 HPP.out.1 H6.out.1 H6.out.2.1 H6.out.2.2.1 H6.out.2.2.2.1 g7 o7, B7, K7⟩; clear o7 g7 B7 K7; obtain ⟨u0, u1', u2, u3, u4, u5⟩ := HL7.out.2.2.six; obtain ⟨i4, i5, i6⟩ := HSV.out w7 HL7.out.2.1))
                      all_goals (
                        have wN : IntKind.i64.wrap ((fr : Int) + (N : Int)) = (fr : Int) + N := (by have := HN.out; have := HB.out; rw [IntKind.wrap_i64]; omega)
                        clear y0 y1 y2 y3 y4 y5 v0 v1' v2 v3 v4 v5 j4 j5 j6 u0 u1' u2 u3 u4 u5 i4 i5 i6 dz HCP HPU HXS H6 HL5 HPP c4 c5 c6 xi x0
                        go_wp2
                        go_roundw
                        case rel => exact ⟨fr + N, vn + 1, vc7, va7, by go_num, rfl, HN.out.2.2.2.1, HL7.out.1, HL7.out.2.1, HL7.out.2.2, SlS.below H0.out.1 HL7.out.2.1, H0.out.2.1.below HL7.out.2.1, H0.out.2.2.below HL7.out.2.1⟩
                        case measure => have := HN.out; simp [intOf]; omega)
                · have hi : ¬ (fr : Int) < (cn : Int) := by omega
                  obtain ⟨l, hl, hvn, ho⟩ := HL.out.1.fin (by omega)
                  have HE : Hid (R = some (l.map (pcOf kd pl ws bs)) ∧ vn = (l.map (pcOf kd pl ws bs)).length ∧ OwnPs wr w.heap.size (.slice va vn vc) (l.map (pcOf kd pl ws bs))) := ⟨by rw [HP.out, hl]; rfl, by rw [List.length_map]; exact hvn, ho⟩
                  clear hl hvn ho
                  by_cases h8 : 8 < vn
                  · have d : (8 : Int) < (vn : Int) := by omega
                    go_wp2
                    refine bodyPost_ret (v := .tuple #[.slice (some ⟨gN, 0, none⟩) 0 0, .int .i64 3]) (by simp [results, Try.results9, go_sem]) rfl ?_
                    have e8 : pm true true true R = ([], 3) := by rw [HE.out.1]; simp only [pm, Bool.and_self, cond_true]; rw [if_neg (by have := HE.out.2.1; omega)]
                    rw [e8]
                    exact ⟨_, rfl, ownPs_nil _ _ _ _, HL.out.2.1⟩
                  · have d : ¬ (8 : Int) < (vn : Int) := by omega
                    go_wp2
                    refine bodyPost_ret (v := .tuple #[.slice va vn vc, .int .i64 0]) (by simp [results, Try.results9, go_sem]) rfl ?_
                    have e8 : pm true true true R = (l.map (pcOf kd pl ws bs), 0) := by rw [HE.out.1]; simp only [pm, Bool.and_self, cond_true]; rw [if_pos (by have := HE.out.2.1; omega)]
                    rw [e8]
                    exact ⟨_, rfl, HE.out.2.2, HL.out.2.1⟩
end Go.Proofs.Ytegckbfbmbiogaa
