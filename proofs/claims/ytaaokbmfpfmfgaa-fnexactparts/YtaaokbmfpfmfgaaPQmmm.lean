/- Texts that the proof needs, joined. -/
import Derived.Test.YtaaokbmfpfmfgaaPOmm
import Derived.Test.YtaaokbmfpfmfgaaSr11
namespace Go.Proofs.Ytaaokbmfpfmfgaa
open Go.RowKit Go.Joins

set_option linter.unusedVariables false

set_option linter.unusedSimpArgs false

theorem rAt_at {f : Nat → Ru} {n : Nat} {un sp p : Int} {x : Nat} (h : atR f n un sp p = (x : Int)) : rAt f n un sp p = some (f x) := by
  unfold rAt; rw [h, if_neg (by omega)]; rfl

theorem atR_lt {f : Nat → Ru} {n : Nat} {un sp p : Int} (h : ¬ atR f n un sp p < 0) : ∃ x : Nat, atR f n un sp p = (x : Int) ∧ x < n ∧ hasR (f x) un sp p = true := by
  rcases atFrom_cases f un sp p n 0 with ⟨x, _, g2, g3, g4, _⟩ | ⟨g1, _⟩
  · exact ⟨x, g3, g2, g4⟩
  · exact absurd (by rw [atR, g1]; decide) h

set_option maxRecDepth 20000 in
set_option maxHeartbeats 4000000 in
theorem specParts_all (kd : Int) (a : Option Addr) (n cap : Nat) (f : Nat → Ru) (un pl nn wa : Int) (q1 q2 : Option Addr) (m1 m2 k1 k2 : Nat) (ws : List Int) (bs : List Bool) (w : World) (hs : SlU w a n f) (hn : n ≤ 2000000)
    (h1 : m1 = ws.length) (h2 : m2 = bs.length) (s1 : SlI w q1 ws) (s2 : SlB w q2 bs) (hl1 : ws.length ≤ 2000000) (hl2 : bs.length ≤ 2000000) (hk1 : m1 ≤ k1) (hk2 : m2 ≤ k2) (rk uk : Bool) (hrk : rk = true ↔ OkRs f n) (huk : uk = true ↔ ∃ j, j < n ∧ (f j).u = un) :
    Calls Try.prog 9 #[.slice a n cap, .int .i64 un, .agg (rqc kd pl nn wa q1 q2 m1 m2 k1 k2)] w fun e w' => PmPost w w' e (pm rk (okR kd pl nn wa ws m1 m2) uk (ptsM f n un kd pl nn wa ws bs)) := by
  obtain ⟨B, hB⟩ : ∃ B, B = w.heap.size := ⟨_, rfl⟩
  obtain ⟨gN, hgN⟩ : ∃ gN, gN = (w.alloc (.cells (rqc kd pl nn wa q1 q2 m1 m2 k1 k2) 28)).heap.size := ⟨_, rfl⟩
  obtain ⟨W, hW⟩ : ∃ W, W = (w.alloc (.cells (rqc kd pl nn wa q1 q2 m1 m2 k1 k2) 28)).alloc (.cells #[] 37) := ⟨_, rfl⟩
  have bW : Below w.heap.size w W := by rw [hW]; exact bel_next (bel_alloc _ _) (bel_alloc _ _)
  have HF : Hid ((rk = true ↔ OkRs f n) ∧ (uk = true ↔ ∃ j, j < n ∧ (f j).u = un)) := ⟨hrk, huk⟩
  have HW : Hid (SlU W a n f ∧ SlI W q1 ws ∧ SlB W q2 bs ∧ Below w.heap.size w W ∧ Blk W B 28 (rqc kd pl nn wa q1 q2 m1 m2 k1 k2)) := ⟨SlS.below hs bW, s1.below bW, s2.below bW, bW, by rw [hW, hB]; exact (Blk.new w _ 28).below (bel_alloc _ _)⟩
  have HQ : Hid (m1 = ws.length ∧ m2 = bs.length ∧ m1 ≤ k1 ∧ m2 ≤ k2) := ⟨h1, h2, hk1, hk2⟩
  obtain ⟨R, hR⟩ : ∃ R, R = ptsM f n un kd pl nn wa ws bs := ⟨_, rfl⟩
  obtain ⟨ok, hok⟩ : ∃ ok, ok = okR kd pl nn wa ws m1 m2 := ⟨_, rfl⟩
  rw [← hR, ← hok]
  have HR : Hid (R = ptsM f n un kd pl nn wa ws bs ∧ ok = okR kd pl nn wa ws m1 m2) := ⟨hR, hok⟩
  have H0 : Hid (SlU w a n f ∧ SlI w q1 ws ∧ SlB w q2 bs) := ⟨hs, s1, s2⟩
  clear hs s1 s2 bW h1 h2 hrk huk hk1 hk2 hR hok
  go_enter Try.func9, Try.ntmps9
  go_upto_region 2 with fail
  rw [← hW]
  have e0 : w.heap.size + 1 = gN := by rw [hgN]; simp
  rw [e0, ← hB]
  clear hW hgN hB e0
  go_wp2_with fail
  refine (specRulesOk_any a n cap f _ HW.out.1 hn rk HF.out.1).mono ?_
  rintro e w1 ⟨rfl, b1⟩
  have HW1 : Hid (SlU w1 a n f ∧ SlI w1 q1 ws ∧ SlB w1 q2 bs ∧ Below w.heap.size w w1 ∧ Blk w1 B 28 (rqc kd pl nn wa q1 q2 m1 m2 k1 k2)) := ⟨SlS.below HW.out.1 b1, HW.out.2.1.below b1, HW.out.2.2.1.below b1, bel_next HW.out.2.2.2.1 b1, HW.out.2.2.2.2.below b1⟩
  clear HW b1
  cases rk with
  | false =>
    go_wp2
    refine bodyPost_ret (v := .tuple #[.slice (some ⟨gN, 0, none⟩) 0 0, .int .i64 3]) (by simp [results, Try.results9, go_sem]) rfl ⟨_, rfl, ownPs_nil _ _ _ _, HW1.out.2.2.2.1⟩
  | true =>
    have hrs := HF.out.1.1 rfl
    have HRS : Hid (OkRs f n) := hrs
    have hn24 : n ≤ 24 := hrs.1
    clear hrs
    obtain ⟨y0, y1, y2, y3, y4, y5⟩ := HW1.out.2.2.2.2.six
    go_wp2_with fail
    refine (specReqOk_q kd pl nn wa q1 q2 m1 m2 k1 k2 ws bs _ HQ.out.1 HQ.out.2.1 HW1.out.2.1 HW1.out.2.2.1 hl1 hl2).mono ?_
    rintro e w2 ⟨he, b2⟩
    rw [← HR.out.2] at he
    subst he
    have HW2 : Hid (SlU w2 a n f ∧ SlI w2 q1 ws ∧ SlB w2 q2 bs ∧ Below w.heap.size w w2 ∧ Blk w2 B 28 (rqc kd pl nn wa q1 q2 m1 m2 k1 k2)) := ⟨SlS.below HW1.out.1 b2, HW1.out.2.1.below b2, HW1.out.2.2.1.below b2, bel_next HW1.out.2.2.2.1 b2, HW1.out.2.2.2.2.below b2⟩
    clear HW1 b2 y0 y1 y2 y3 y4 y5
    cases ok with
    | false =>
      go_wp2
      refine bodyPost_ret (v := .tuple #[.slice (some ⟨gN, 0, none⟩) 0 0, .int .i64 3]) (by simp [results, Try.results9, go_sem]) rfl ⟨_, rfl, ownPs_nil _ _ _ _, HW2.out.2.2.2.1⟩
    | true =>
      go_wp2
      go_loopw [9, 10] (fun kv iv wr => ∃ (z : Nat) (kb : Bool), z ≤ n ∧ iv = .int .i64 z ∧ kv = .bool kb ∧ (kb = true ↔ ∃ j, j < z ∧ (f j).u = un) ∧ wr = w2) (fun _ i _ => n - (intOf i).toNat)
      case atStart => exact ⟨0, false, Nat.zero_le _, rfl, rfl, ⟨fun e => Bool.noConfusion e, fun ⟨j, hj, _⟩ => by omega⟩, (by first | rfl | trivial)⟩
      case round =>
        obtain ⟨z, kb, hz, rfl, rfl, hkb, hwr⟩ := hrel
        have hwr' := hwr.symm
        clear hwr
        subst hwr'
        have HK : Hid (kb = true ↔ ∃ j, j < z ∧ (f j).u = un) := hkb
        clear hkb
        by_cases hlt : z < n
        · have hi : (z : Int) < (n : Int) := by omega
          obtain ⟨bb, off, rfl, hbb, c0, c1, c2, c3, c4, c5, c6⟩ := SlU.seven HW2.out.1 hlt
          cases kb with
          | true =>
            have HK2 : Hid (∃ j, j < z + 1 ∧ (f j).u = un) := by obtain ⟨j, g1, g2⟩ := HK.out.1 rfl; exact ⟨j, by omega, g2⟩
            go_wp2
            go_roundw
            case rel => exact ⟨z + 1, true, by omega, by go_num, rfl, ⟨fun _ => HK2.out, fun _ => rfl⟩, (by first | rfl | trivial)⟩
            case measure => simp [intOf]; omega
          | false =>
            by_cases hu : (f z).u = un
            · have d : ((f z).u == un) = true := by simpa using hu
              have HK2 : Hid (∃ j, j < z + 1 ∧ (f j).u = un) := ⟨z, by omega, hu⟩
              clear hu
              go_wp2
              go_roundw
              case rel => exact ⟨z + 1, true, by omega, by go_num, rfl, ⟨fun _ => HK2.out, fun _ => rfl⟩, (by first | rfl | trivial)⟩
              case measure => simp [intOf]; omega
            · have d : ((f z).u == un) = false := by simpa using hu
              have HK2 : Hid (¬ ∃ j, j < z + 1 ∧ (f j).u = un) := by
                rintro ⟨j, g1, g2⟩
                by_cases e : j = z
                · subst e; exact hu g2
                · have := HK.out.2 ⟨j, by omega, g2⟩; cases this
              clear hu
              go_wp2
              go_roundw
              case rel => exact ⟨z + 1, false, by omega, by go_num, (by first | rfl | simp [d]), ⟨fun e => Bool.noConfusion e, fun e => absurd e HK2.out⟩, (by first | rfl | trivial)⟩
              case measure => simp [intOf]; omega
        · have hi : ¬ (z : Int) < (n : Int) := by omega
          have ek : kb = uk := by
            have e1 : z = n := by omega
            rw [e1] at HK
            have h9 := HK.out.trans HF.out.2.symm
            cases kb <;> cases uk <;> simp_all
          subst ek
          cases kb with
          | false =>
            go_wp2
            refine bodyPost_ret (v := .tuple #[.slice (some ⟨gN, 0, none⟩) 0 0, .int .i64 10]) (by simp [results, Try.results9, go_sem]) rfl ⟨_, rfl, ownPs_nil _ _ _ _, HW2.out.2.2.2.1⟩
          | true =>
            clear HK HF
            obtain ⟨y0, y1, y2, y3, y4, y5⟩ := HW2.out.2.2.2.2.six
            have hok := okR_m HR.out.2.symm HQ.out.1 HQ.out.2.1
            have HOM : Hid ((0 ≤ pl ∧ pl ≤ 65535) ∧ 1 ≤ spcN kd nn m1 m2 ∧ spcN kd nn m1 m2 ≤ 2000 ∧ pl + spcN kd nn m1 m2 ≤ 65536 ∧ (kd = 23 → 1 ≤ nn ∧ nn ≤ 125 ∧ m2 = 0 ∧ 1 ≤ m1 ∧ m1 ≤ 121 ∧ 0 ≤ wa ∧ wa ≤ 65535)) := ⟨hok.1, hok.2.1, hok.2.2.1, hok.2.2.2.1, hok.2.2.2.2.2⟩
            clear hok
            by_cases h23 : kd = 23
            · have HP : Hid (R = (bothM f n un pl nn wa ws).map (fun P => [P])) := by show _ = _; rw [HR.out.1]; unfold ptsM; rw [if_pos h23]
              obtain ⟨d1, d2, d3, d4, d5, d6⟩ := HOM.out.2.2.2.2 h23
              have hp := HOM.out.1
              subst h23
              have HC : Hid (Calls Try.prog 39 #[.slice a n cap, .int .i64 un, .agg (rqc 23 pl nn wa q1 q2 m1 m2 k1 k2)] w2 fun e w' => PmPost w2 w' e (bmR (bothM f n un pl nn wa ws))) := l10Both_any a n cap f un pl nn wa q1 q2 m1 m2 k1 k2 ws _ HW2.out.1 hn24 HRS.out.2.1 HQ.out.1 d3 HW2.out.2.1 (by have := HQ.out.1; omega) hp ⟨by omega, d2⟩ d6
              clear d1 d2 d3 d4 d5 d6 hp
              go_wp2_with fail
              refine HC.out.mono ?_
              rintro e w3 ⟨v, rfl, o3, b3⟩
              have HE : Hid (bmR (bothM f n un pl nn wa ws) = pm true true true R) := by
                show _ = _
                rw [HP.out]
                cases bothM f n un pl nn wa ws <;> rfl
              rw [HE.out] at o3 ⊢
              obtain ⟨ft, hft⟩ : ∃ ft, ft = (pm true true true R).2 := ⟨_, rfl⟩
              have HX : Hid (OwnPs w3 w.heap.size v (pm true true true R).1 ∧ Below w.heap.size w w3 ∧ ft = (pm true true true R).2) := ⟨o3.mono HW2.out.2.2.2.1.size, bel_next HW2.out.2.2.2.1 b3, hft⟩
              rw [← hft]
              clear hft o3 b3 HC HP HE HW2 y0 y1 y2 y3 y4 y5
              go_wp2
              refine bodyPost_ret (v := .tuple #[v, .int .i64 ft]) (by simp [results, Try.results9, go_sem]) rfl ⟨v, by rw [HX.out.2.2], HX.out.1, HX.out.2.1⟩
            · have k23 : (kd == 23) = false := by simpa using h23
              obtain ⟨sp, hsp⟩ : ∃ sp, sp = spc0 kd := ⟨_, rfl⟩
              obtain ⟨cn, hcn⟩ : ∃ cn : Nat, (cn : Int) = spcN kd nn m1 m2 := ⟨(spcN kd nn m1 m2).toNat, by have := HOM.out; omega⟩
              have HP : Hid (R = (runs f n un sp (pl + cn) pl).map (List.map (pcOf kd pl ws bs))) := by show _ = _; rw [HR.out.1]; unfold ptsM; rw [if_neg h23, hsp, hcn, HQ.out.1, HQ.out.2.1]
              have HB : Hid ((0 ≤ pl ∧ pl ≤ 65535) ∧ 1 ≤ cn ∧ cn ≤ 2000 ∧ pl + cn ≤ 65536 ∧ (cn : Int) = spcN kd nn m1 m2 ∧ ¬ kd = 23 ∧ okR kd pl nn wa ws m1 m2 = true) := ⟨HOM.out.1, by have := HOM.out; omega, by have := HOM.out; omega, by have := HOM.out; omega, hcn, h23, HR.out.2.symm⟩
              have HV : Hid (spcV (okR kd pl nn wa ws m1 m2) kd pl nn m1 m2 = .tuple #[.int .i64 sp, .int .i64 pl, .int .i64 (cn : Int)]) := by show _ = _; rw [← HR.out.2, hsp, hcn]; rfl
              clear HOM hsp hcn h23 HR
              go_wp2_with fail
              refine (specSpaces_t kd pl nn wa q1 q2 m1 m2 k1 k2 ws bs _ HQ.out.1 HQ.out.2.1 HW2.out.2.1 HW2.out.2.2.1 hl1 hl2 sp pl (cn : Int) HV.out).mono ?_
              rintro e w3 ⟨rfl, b3⟩
              have HW3 : Hid (SlU w3 a n f ∧ SlI w3 q1 ws ∧ SlB w3 q2 bs ∧ Below w.heap.size w w3 ∧ Blk w3 B 28 (rqc kd pl nn wa q1 q2 m1 m2 k1 k2)) := ⟨SlS.below HW2.out.1 b3, HW2.out.2.1.below b3, HW2.out.2.2.1.below b3, bel_next HW2.out.2.2.2.1 b3, HW2.out.2.2.2.2.below b3⟩
              clear HW2 b3 HV y0 y1 y2 y3 y4 y5
              go_upto_region 15 with fail
              obtain ⟨W4, hW4⟩ : ∃ W4, W4 = w3.alloc (.cells #[] 37) := ⟨_, rfl⟩
              have b4 : Below w3.heap.size w3 W4 := by rw [hW4]; exact bel_alloc _ _
              have HW4 : Hid (SlU W4 a n f ∧ SlI W4 q1 ws ∧ SlB W4 q2 bs ∧ Below w.heap.size w W4 ∧ Blk W4 B 28 (rqc kd pl nn wa q1 q2 m1 m2 k1 k2) ∧ LpI w W4 f n un sp (pl + cn) pl kd ws bs 0 (.slice (some ⟨w3.heap.size, 0, none⟩) 0 0) 0) := ⟨SlS.below HW3.out.1 b4, HW3.out.2.1.below b4, HW3.out.2.2.1.below b4, bel_next HW3.out.2.2.2.1 b4, HW3.out.2.2.2.2.below b4, LpI.start (by rw [hW4]; exact newP w3 w.heap.size HW3.out.2.2.2.1.size) (bel_next HW3.out.2.2.2.1 b4).size⟩
              rw [← hW4]
              obtain ⟨gL, hgL⟩ : ∃ gL, gL = w3.heap.size := ⟨_, rfl⟩
              rw [← hgL] at HW4 ⊢
              clear hW4 b4 HW3 hgL
              go_wp2
              go_loopw [14, 15] (fun ov fv wr => ∃ (fr vn vc : Nat) (va : Option Addr), fv = .int .i64 fr ∧ ov = .slice va vn vc ∧ fr ≤ cn ∧ LpI w wr f n un sp (pl + cn) pl kd ws bs fr (.slice va vn vc) vn ∧ Below w.heap.size w wr ∧ Blk wr B 28 (rqc kd pl nn wa q1 q2 m1 m2 k1 k2) ∧ SlU wr a n f ∧ SlI wr q1 ws ∧ SlB wr q2 bs) (fun _ i _ => cn - (intOf i).toNat)
              case atStart => exact ⟨0, 0, 0, some ⟨gL, 0, none⟩, rfl, rfl, Nat.zero_le _, HW4.out.2.2.2.2.2, HW4.out.2.2.2.1, HW4.out.2.2.2.2.1, HW4.out.1, HW4.out.2.1, HW4.out.2.2.1⟩
              case round =>
                clear HW4
                obtain ⟨fr, vn, vc, va, rfl, rfl, hfr, hL, hbl, hBl, hU, hS1, hS2⟩ := hrel
                have HL : Hid (LpI w wr f n un sp (pl + cn) pl kd ws bs fr (.slice va vn vc) vn ∧ Below w.heap.size w wr ∧ Blk wr B 28 (rqc kd pl nn wa q1 q2 m1 m2 k1 k2) ∧ SlU wr a n f ∧ SlI wr q1 ws ∧ SlB wr q2 bs) := ⟨hL, hbl, hBl, hU, hS1, hS2⟩
                clear hL hbl hBl hU hS1 hS2
                by_cases hlt : fr < cn
                · have hi : (fr : Int) < (cn : Int) := by omega
                  have v1 : IntKind.i64.wrap (pl + (fr : Int)) = pl + fr := by have := HB.out; rw [IntKind.wrap_i64]; omega
                  go_wp2_with fail
                  refine (specRuleAt_any a n cap f un sp (pl + fr) _ HL.out.2.2.2.1 hn).mono ?_
                  rintro e w5 ⟨rfl, b5⟩
                  have HL5 : Hid (LpI w w5 f n un sp (pl + cn) pl kd ws bs fr (.slice va vn vc) vn ∧ Below w.heap.size w w5 ∧ Blk w5 B 28 (rqc kd pl nn wa q1 q2 m1 m2 k1 k2) ∧ SlU w5 a n f ∧ SlI w5 q1 ws ∧ SlB w5 q2 bs) := ⟨HL.out.1.below b5, bel_next HL.out.2.1 b5, HL.out.2.2.1.below b5, SlS.below HL.out.2.2.2.1 b5, HL.out.2.2.2.2.1.below b5, HL.out.2.2.2.2.2.below b5⟩
                  clear HL b5
                  by_cases hat : atR f n un sp (pl + fr) < 0
                  · have HE : Hid (pm true true true R = ([], 2)) := by show _ = _; rw [HP.out, HL5.out.1.none (by omega) hat]; rfl
                    go_wp2
                    refine bodyPost_ret (v := .tuple #[.slice (some ⟨gN, 0, none⟩) 0 0, .int .i64 2]) (by simp [results, Try.results9, go_sem]) rfl ?_
                    rw [HE.out]
                    exact ⟨_, rfl, ownPs_nil _ _ _ _, HL5.out.2.1⟩
                  · obtain ⟨x, hx, hxn, hh⟩ := atR_lt hat
                    have hh' := hasR_true.1 hh
                    have hox := HRS.out.2.1 x hxn
                    have xi : (x : Int) < (n : Int) := by omega
                    have x0 : ¬ (x : Int) < 0 := by omega
                    obtain ⟨r, hr⟩ : ∃ r, r = f x := ⟨_, rfl⟩
                    rw [← hr] at hh' hox
                    have HRA : Hid (rAt f n un sp (pl + fr) = some r) := by show _ = _; rw [hr]; exact rAt_at hx
                    obtain ⟨N, hN⟩ : ∃ N : Nat, (N : Int) = min (r.hi + 1) (pl + cn) - (pl + fr) := ⟨(min (r.hi + 1) (pl + cn) - (pl + fr)).toNat, by omega⟩
                    have HN : Hid ((N : Int) = min (r.hi + 1) (pl + cn) - (pl + fr) ∧ 0 < N ∧ N ≤ 2000 ∧ fr + N ≤ cn ∧ (-65535 ≤ r.sh ∧ r.sh ≤ 65535)) := ⟨hN, by omega, by have := HB.out; omega, by omega, by unfold OkRu at hox; have := HB.out; omega⟩
                    have HO : Hid (OkRu r) := hox
                    obtain ⟨bb, off, rfl, hbb, c0, c1, c2, c3, c4, c5, c6⟩ := SlU.seven HL5.out.2.2.2.1 hxn
                    rw [← hr] at c0 c1 c2 c3 c4 c5 c6
                    rw [hx]
                    have w1' : IntKind.i64.wrap (r.hi - (pl + (fr : Int))) = r.hi - (pl + fr) := by unfold OkRu at hox; have := HB.out; rw [IntKind.wrap_i64]; omega
                    have w2' : IntKind.i64.wrap (r.hi - (pl + (fr : Int)) + 1) = r.hi - (pl + fr) + 1 := by unfold OkRu at hox; have := HB.out; rw [IntKind.wrap_i64]; omega
                    have w3' : IntKind.i64.wrap ((cn : Int) - (fr : Int)) = cn - fr := by have := HB.out; rw [IntKind.wrap_i64]; omega
                    have HFX : Hid (r = f x) := hr
                    clear hx hh hh' hox hat hN hr
                    by_cases hm : (cn : Int) - fr < r.hi - (pl + fr) + 1
                    · have HEN : Hid ((cn : Int) - fr = (N : Int)) := by have := HN.out; show _ = _; omega
                      go_upto_region 23 with fail
                      rw [HEN.out]
                      clear HEN hm w1' w2' w3'
                      obtain ⟨P, hP⟩ : ∃ P, P = pcOf kd pl ws bs ⟨r, pl + fr, N⟩ := ⟨_, rfl⟩
                      have HPP : Hid (P = pcOf kd pl ws bs ⟨r, pl + fr, N⟩ ∧ P.p = r.p ∧ P.t = r.t ∧ P.kd = kd) := ⟨hP, by rw [hP]; rfl, by rw [hP]; rfl, by rw [hP]; rfl⟩
                      have HCP : Hid (∀ u, Below w5.heap.size w5 u → Calls Try.prog 42 #[.agg (rqc kd pl nn wa q1 q2 m1 m2 k1 k2), .int .i64 (fr : Int), .int .i64 (N : Int), .int .i64 r.sh] u fun e w' => ReqPost u w' e kd P.pl P.n P.wa P.ws P.bs) := by
                        intro u hu
                        rw [hP]
                        exact piece_any kd pl nn wa r fr N q1 q2 m1 m2 k1 k2 ws bs u HQ.out.1 HQ.out.2.1 (HL5.out.2.2.2.2.1.below hu) (HL5.out.2.2.2.2.2.below hu) hl1 hl2 HQ.out.2.2.1 HQ.out.2.2.2 HB.out.2.2.2.2.2.2 HB.out.2.2.2.2.2.1 (by have := HB.out; have := HN.out; omega) HN.out.2.1 HN.out.2.2.2.2 (pl + fr) rfl
                      clear hP
                      have HSV : Hid (∀ u, Below w.heap.size w u → u.cell? ⟨bb, off + x * 7 + 4, none⟩ = some (.int .i64 r.p) ∧ u.cell? ⟨bb, off + x * 7 + 5, none⟩ = some (.int .i64 r.t) ∧ u.cell? ⟨bb, off + x * 7 + 6, none⟩ = some (.int .i64 r.sh)) := by
                        intro u hu
                        obtain ⟨b2, o2, e2, _, h9⟩ := SlU.seven (SlS.below H0.out.1 hu) hxn
                        simp only [Option.some.injEq, Addr.mk.injEq] at e2
                        obtain ⟨rfl, rfl, _⟩ := e2
                        rw [HFX.out]
                        exact ⟨h9.2.2.2.2.1, h9.2.2.2.2.2.1, h9.2.2.2.2.2.2⟩
                      obtain ⟨xs, hxs, hvn, hpush⟩ := HL5.out.1.row
                      have HXS : Hid (w5.ownsRow w.heap.size 37 8 (.slice va vn vc) vn xs ∧ vn ≤ fr) := ⟨hxs, hvn⟩
                      have HPU := hide hpush
                      clear hxs hvn hpush
                      obtain ⟨y0, y1, y2, y3, y4, y5⟩ := HL5.out.2.2.1.six
                      have dz : Below w5.heap.size w5 w5.drew := (Below.refl _ _).drew
                      clear c0 c1 c2 c3
                      go_region_held3 (fun w' => w'.cell? ⟨B, 0, none⟩ = some (.int .i64 kd) ∧ w'.cell? ⟨B, 1, none⟩ = some (.int .i64 pl) ∧ w'.cell? ⟨B, 2, none⟩ = some (.int .i64 nn) ∧ w'.cell? ⟨B, 3, none⟩ = some (.slice q1 m1 k1) ∧ w'.cell? ⟨B, 4, none⟩ = some (.slice q2 m2 k2) ∧ w'.cell? ⟨B, 5, none⟩ = some (.int .i64 wa) ∧ w'.cell? ⟨bb, off + x * 7 + 4, none⟩ = some (.int .i64 r.p) ∧ w'.cell? ⟨bb, off + x * 7 + 5, none⟩ = some (.int .i64 r.t) ∧ w'.cell? ⟨bb, off + x * 7 + 6, none⟩ = some (.int .i64 r.sh)) (go_keep)
                        (first
                          | (go_at_call 42; refine (HCP.out _ (by first | exact Below.refl _ _ | exact dz)).mono ?_; rintro e w6 ⟨r1, r2, l1, l2, d1, d2, rfl, g1, g2, o1, o2, b'⟩; have B6 : Below w5.heap.size w5 w6 := (by first | exact b' | exact bel_next dz b'); have H6 : Hid (l1 = P.ws.length ∧ l2 = P.bs.length ∧ OwnI w6 w5.heap.size (.slice r1 l1 d1) P.ws ∧ OwnB w6 w5.heap.size (.slice r2 l2 d2) P.bs ∧ Below w5.heap.size w5 w6) := ⟨g1, g2, OwnI.mono o1 (by simp), OwnB.mono o2 (by simp), B6⟩; clear g1 g2 o1 o2 b'; obtain ⟨v0, v1', v2, v3, v4, v5⟩ := (HL5.out.2.2.1.below H6.out.2.2.2.2).six; obtain ⟨j4, j5, j6⟩ := HSV.out w6 (bel_next HL5.out.2.1 H6.out.2.2.2.2); clear B6)
                          | (refine step_appP rfl (.tmp 94) (.tmp 115) rfl w.heap.size (.slice va vn vc) vn xs rfl (rowO_below (rowO_below HXS.out.1 H6.out.2.2.2.2) (bel_alloc _ _)) w6.heap.size 1 P r1 r2 l1 l2 d1 d2 rfl (by rw [HPP.out.2.1, HPP.out.2.2.1, HPP.out.2.2.2]; exact Blk.new w6 _ _) (by have := HXS.out.2; have := HB.out; omega) (by have := (bel_next HL5.out.2.1 H6.out.2.2.2.2).size; simp; omega) ?_; intro v7 w7 o7 g7; have B7 : Below w.heap.size w w7 := (bel_next (bel_next HL5.out.2.1 H6.out.2.2.2.2) (bel_alloc _ _)).grown g7 (by have := (bel_next HL5.out.2.1 H6.out.2.2.2.2).size; simp; omega) (fun k hk => (World.ownsRow.lt HXS.out.1 k hk).1); have K7 : Blk w7 B 28 (rqc kd pl nn wa q1 q2 m1 m2 k1 k2) := ((HL5.out.2.2.1.below H6.out.2.2.2.2).below (bel_alloc _ _)).grown g7 (row_noBlk HXS.out.1 HL5.out.2.2.1 (by decide)); obtain ⟨va7, vc7, hv7⟩ := row_shape o7; subst hv7; have HL7 : Hid (LpI w w7 f n un sp (pl + cn) pl kd ws bs (fr + N) (.slice va7 (vn + 1) vc7) (vn + 1) ∧ Below w.heap.size w w7 ∧ Blk w7 B 28 (rqc kd pl nn wa q1 q2 m1 m2 k1 k2)) := ⟨HPU.out w6 w7 N _ r r1 r2 l1 l2 d1 d2 _ P (by omega) HRA.out HN.out.1 HN.out.2.1 H6.out.2.2.2.2 HPP.out.1 H6.out.1 H6.out.2.1 H6.out.2.2.1 H6.out.2.2.2.1 g7 o7, B7, K7⟩; clear o7 g7 B7 K7; obtain ⟨u0, u1', u2, u3, u4, u5⟩ := HL7.out.2.2.six; obtain ⟨i4, i5, i6⟩ := HSV.out w7 HL7.out.2.1))
                      all_goals (
                        have wN : IntKind.i64.wrap ((fr : Int) + (N : Int)) = (fr : Int) + N := (by have := HN.out; have := HB.out; rw [IntKind.wrap_i64]; omega)
                        clear y0 y1 y2 y3 y4 y5 v0 v1' v2 v3 v4 v5 j4 j5 j6 u0 u1' u2 u3 u4 u5 i4 i5 i6 dz HCP HPU HXS H6 HL5 HPP c4 c5 c6 xi x0
                        go_wp2
                        go_roundw
                        case rel => exact ⟨fr + N, vn + 1, vc7, va7, by go_num, rfl, HN.out.2.2.2.1, HL7.out.1, HL7.out.2.1, HL7.out.2.2, SlS.below H0.out.1 HL7.out.2.1, H0.out.2.1.below HL7.out.2.1, H0.out.2.2.below HL7.out.2.1⟩
                        case measure => have := HN.out; simp [intOf]; omega)
                    · have HEN : Hid (r.hi - (pl + (fr : Int)) + 1 = (N : Int)) := by have := HN.out; show _ = _; omega
                      go_upto_region 23 with fail
                      rw [HEN.out]
                      clear HEN hm w1' w2' w3'
                      obtain ⟨P, hP⟩ : ∃ P, P = pcOf kd pl ws bs ⟨r, pl + fr, N⟩ := ⟨_, rfl⟩
                      have HPP : Hid (P = pcOf kd pl ws bs ⟨r, pl + fr, N⟩ ∧ P.p = r.p ∧ P.t = r.t ∧ P.kd = kd) := ⟨hP, by rw [hP]; rfl, by rw [hP]; rfl, by rw [hP]; rfl⟩
                      have HCP : Hid (∀ u, Below w5.heap.size w5 u → Calls Try.prog 42 #[.agg (rqc kd pl nn wa q1 q2 m1 m2 k1 k2), .int .i64 (fr : Int), .int .i64 (N : Int), .int .i64 r.sh] u fun e w' => ReqPost u w' e kd P.pl P.n P.wa P.ws P.bs) := by
                        intro u hu
                        rw [hP]
                        exact piece_any kd pl nn wa r fr N q1 q2 m1 m2 k1 k2 ws bs u HQ.out.1 HQ.out.2.1 (HL5.out.2.2.2.2.1.below hu) (HL5.out.2.2.2.2.2.below hu) hl1 hl2 HQ.out.2.2.1 HQ.out.2.2.2 HB.out.2.2.2.2.2.2 HB.out.2.2.2.2.2.1 (by have := HB.out; have := HN.out; omega) HN.out.2.1 HN.out.2.2.2.2 (pl + fr) rfl
                      clear hP
                      have HSV : Hid (∀ u, Below w.heap.size w u → u.cell? ⟨bb, off + x * 7 + 4, none⟩ = some (.int .i64 r.p) ∧ u.cell? ⟨bb, off + x * 7 + 5, none⟩ = some (.int .i64 r.t) ∧ u.cell? ⟨bb, off + x * 7 + 6, none⟩ = some (.int .i64 r.sh)) := by
                        intro u hu
                        obtain ⟨b2, o2, e2, _, h9⟩ := SlU.seven (SlS.below H0.out.1 hu) hxn
                        simp only [Option.some.injEq, Addr.mk.injEq] at e2
                        obtain ⟨rfl, rfl, _⟩ := e2
                        rw [HFX.out]
                        exact ⟨h9.2.2.2.2.1, h9.2.2.2.2.2.1, h9.2.2.2.2.2.2⟩
                      obtain ⟨xs, hxs, hvn, hpush⟩ := HL5.out.1.row
                      have HXS : Hid (w5.ownsRow w.heap.size 37 8 (.slice va vn vc) vn xs ∧ vn ≤ fr) := ⟨hxs, hvn⟩
                      have HPU := hide hpush
                      clear hxs hvn hpush
                      obtain ⟨y0, y1, y2, y3, y4, y5⟩ := HL5.out.2.2.1.six
                      have dz : Below w5.heap.size w5 w5.drew := (Below.refl _ _).drew
                      clear c0 c1 c2 c3
                      go_region_held3 (fun w' => w'.cell? ⟨B, 0, none⟩ = some (.int .i64 kd) ∧ w'.cell? ⟨B, 1, none⟩ = some (.int .i64 pl) ∧ w'.cell? ⟨B, 2, none⟩ = some (.int .i64 nn) ∧ w'.cell? ⟨B, 3, none⟩ = some (.slice q1 m1 k1) ∧ w'.cell? ⟨B, 4, none⟩ = some (.slice q2 m2 k2) ∧ w'.cell? ⟨B, 5, none⟩ = some (.int .i64 wa) ∧ w'.cell? ⟨bb, off + x * 7 + 4, none⟩ = some (.int .i64 r.p) ∧ w'.cell? ⟨bb, off + x * 7 + 5, none⟩ = some (.int .i64 r.t) ∧ w'.cell? ⟨bb, off + x * 7 + 6, none⟩ = some (.int .i64 r.sh)) (go_keep)
                        (first
                          | (go_at_call 42; refine (HCP.out _ (by first | exact Below.refl _ _ | exact dz)).mono ?_; rintro e w6 ⟨r1, r2, l1, l2, d1, d2, rfl, g1, g2, o1, o2, b'⟩; have B6 : Below w5.heap.size w5 w6 := (by first | exact b' | exact bel_next dz b'); have H6 : Hid (l1 = P.ws.length ∧ l2 = P.bs.length ∧ OwnI w6 w5.heap.size (.slice r1 l1 d1) P.ws ∧ OwnB w6 w5.heap.size (.slice r2 l2 d2) P.bs ∧ Below w5.heap.size w5 w6) := ⟨g1, g2, OwnI.mono o1 (by simp), OwnB.mono o2 (by simp), B6⟩; clear g1 g2 o1 o2 b'; obtain ⟨v0, v1', v2, v3, v4, v5⟩ := (HL5.out.2.2.1.below H6.out.2.2.2.2).six; obtain ⟨j4, j5, j6⟩ := HSV.out w6 (bel_next HL5.out.2.1 H6.out.2.2.2.2); clear B6)
                          | (refine step_appP rfl (.tmp 94) (.tmp 115) rfl w.heap.size (.slice va vn vc) vn xs rfl (rowO_below (rowO_below HXS.out.1 H6.out.2.2.2.2) (bel_alloc _ _)) w6.heap.size 1 P r1 r2 l1 l2 d1 d2 rfl (by rw [HPP.out.2.1, HPP.out.2.2.1, HPP.out.2.2.2]; exact Blk.new w6 _ _) (by have := HXS.out.2; have := HB.out; omega) (by have := (bel_next HL5.out.2.1 H6.out.2.2.2.2).size; simp; omega) ?_; intro v7 w7 o7 g7; have B7 : Below w.heap.size w w7 := (bel_next (bel_next HL5.out.2.1 H6.out.2.2.2.2) (bel_alloc _ _)).grown g7 (by have := (bel_next HL5.out.2.1 H6.out.2.2.2.2).size; simp; omega) (fun k hk => (World.ownsRow.lt HXS.out.1 k hk).1); have K7 : Blk w7 B 28 (rqc kd pl nn wa q1 q2 m1 m2 k1 k2) := ((HL5.out.2.2.1.below H6.out.2.2.2.2).below (bel_alloc _ _)).grown g7 (row_noBlk HXS.out.1 HL5.out.2.2.1 (by decide)); obtain ⟨va7, vc7, hv7⟩ := row_shape o7; subst hv7; have HL7 : Hid (LpI w w7 f n un sp (pl + cn) pl kd ws bs (fr + N) (.slice va7 (vn + 1) vc7) (vn + 1) ∧ Below w.heap.size w w7 ∧ Blk w7 B 28 (rqc kd pl nn wa q1 q2 m1 m2 k1 k2)) := ⟨HPU.out w6 w7 N _ r r1 r2 l1 l2 d1 d2 _ P (by omega) HRA.out HN.out.1 HN.out.2.1 H6.out.2.2.2.2 HPP.out.1 H6.out.1 H6.out.2.1 H6.out.2.2.1 H6.out.2.2.2.1 g7 o7, B7, K7⟩; clear o7 g7 B7 K7; obtain ⟨u0, u1', u2, u3, u4, u5⟩ := HL7.out.2.2.six; obtain ⟨i4, i5, i6⟩ := HSV.out w7 HL7.out.2.1))
                      all_goals (
                        have wN : IntKind.i64.wrap ((fr : Int) + (N : Int)) = (fr : Int) + N := (by have := HN.out; have := HB.out; rw [IntKind.wrap_i64]; omega)
                        clear y0 y1 y2 y3 y4 y5 v0 v1' v2 v3 v4 v5 j4 j5 j6 u0 u1' u2 u3 u4 u5 i4 i5 i6 dz HCP HPU HXS H6 HL5 HPP c4 c5 c6 xi x0
                        go_wp2
                        go_roundw
                        case rel => exact ⟨fr + N, vn + 1, vc7, va7, by go_num, rfl, HN.out.2.2.2.1, HL7.out.1, HL7.out.2.1, HL7.out.2.2, SlS.below H0.out.1 HL7.out.2.1, H0.out.2.1.below HL7.out.2.1, H0.out.2.2.below HL7.out.2.1⟩
                        case measure => have := HN.out; simp [intOf]; omega)
                · have hi : ¬ (fr : Int) < (cn : Int) := by omega
                  obtain ⟨l, hl, hvn, ho⟩ := HL.out.1.fin (by omega)
                  have HE : Hid (R = some (l.map (pcOf kd pl ws bs)) ∧ vn = (l.map (pcOf kd pl ws bs)).length ∧ OwnPs wr w.heap.size (.slice va vn vc) (l.map (pcOf kd pl ws bs))) := ⟨by rw [HP.out, hl]; rfl, by rw [List.length_map]; exact hvn, ho⟩
                  clear hl hvn ho
                  by_cases h8 : 8 < vn
                  · have d : (8 : Int) < (vn : Int) := by omega
                    go_wp2
                    refine bodyPost_ret (v := .tuple #[.slice (some ⟨gN, 0, none⟩) 0 0, .int .i64 3]) (by simp [results, Try.results9, go_sem]) rfl ?_
                    have e8 : pm true true true R = ([], 3) := by rw [HE.out.1]; simp only [pm, Bool.and_self, cond_true]; rw [if_neg (by have := HE.out.2.1; omega)]
                    rw [e8]
                    exact ⟨_, rfl, ownPs_nil _ _ _ _, HL.out.2.1⟩
                  · have d : ¬ (8 : Int) < (vn : Int) := by omega
                    go_wp2
                    refine bodyPost_ret (v := .tuple #[.slice va vn vc, .int .i64 0]) (by simp [results, Try.results9, go_sem]) rfl ?_
                    have e8 : pm true true true R = (l.map (pcOf kd pl ws bs), 0) := by rw [HE.out.1]; simp only [pm, Bool.and_self, cond_true]; rw [if_pos (by have := HE.out.2.1; omega)]
                    rw [e8]
                    exact ⟨_, rfl, HE.out.2.2, HL.out.2.1⟩

end Go.Proofs.Ytaaokbmfpfmfgaa

namespace Go.Proofs.Ytaaokbmfpfmfgaa
open Go.RowKit Go.Joins

set_option linter.unusedVariables false

set_option linter.unusedSimpArgs false

set_option maxRecDepth 20000 in
set_option maxHeartbeats 2000000 in
theorem eqPart_true (P : Pa) (a1 a2 a1' a2' : Option Addr) (l1 l2 c1 c2 c1' c2' : Nat) (w : World) (h1 : l1 = P.ws.length) (h2 : l2 = P.bs.length) (s1 : SlI w a1 P.ws) (s2 : SlB w a2 P.bs) (s1' : SlI w a1' P.ws) (s2' : SlB w a2' P.bs) (hl1 : P.ws.length ≤ 2000) (hl2 : P.bs.length ≤ 2000) :
    Calls Try.prog 73 #[.agg #[.int .i64 P.p, .int .i64 P.t, .int .i64 P.kd, .int .i64 P.pl, .int .i64 P.n, .slice a1 l1 c1, .slice a2 l2 c2, .int .i64 P.wa], .agg #[.int .i64 P.p, .int .i64 P.t, .int .i64 P.kd, .int .i64 P.pl, .int .i64 P.n, .slice a1' l1 c1', .slice a2' l2 c2', .int .i64 P.wa]] w fun e w' => e = .returned (.bool true) ∧ Below w.heap.size w w' := by
  have B0 : Below w.heap.size w ((w.alloc (.cells #[.int .i64 P.p, .int .i64 P.t, .int .i64 P.kd, .int .i64 P.pl, .int .i64 P.n, .slice a1 l1 c1, .slice a2 l2 c2, .int .i64 P.wa] 37)).alloc (.cells #[.int .i64 P.p, .int .i64 P.t, .int .i64 P.kd, .int .i64 P.pl, .int .i64 P.n, .slice a1' l1 c1', .slice a2' l2 c2', .int .i64 P.wa] 37)) := bel_next (bel_alloc _ _) (bel_alloc _ _)
  have HS : Hid (SlI w a1 P.ws ∧ SlB w a2 P.bs ∧ SlI w a1' P.ws ∧ SlB w a2' P.bs ∧ l1 = P.ws.length ∧ l2 = P.bs.length) := ⟨s1, s2, s1', s2', h1, h2⟩
  clear s1 s2 s1' s2' h1 h2
  go_enter Try.func73, Try.ntmps73
  go_wp2_with fail
  refine (eqReq_true P.kd P.pl P.n P.wa a1 a2 a1' a2' l1 l2 l1 l2 c1 c2 c1' c2' P.ws P.bs _ HS.out.2.2.2.2.1 HS.out.2.2.2.2.2 HS.out.2.2.2.2.1 HS.out.2.2.2.2.2 (HS.out.1.below B0) (HS.out.2.1.below B0) (HS.out.2.2.1.below B0) (HS.out.2.2.2.1.below B0) (by omega) (by omega)).mono ?_
  rintro e w1 ⟨rfl, b1⟩
  have B1 := bel_next B0 b1
  clear B0 b1
  go_wp2
  go_ret
  exact ⟨rfl, B1⟩

/-- What lies within is short. -/
def PsB (Ps : List Pa) : Prop := Ps.length ≤ 8 ∧ ∀ k, k < Ps.length → (Ps.getD k default).ws.length ≤ 2000 ∧ (Ps.getD k default).bs.length ≤ 2000

set_option maxRecDepth 20000 in
set_option maxHeartbeats 2000000 in
theorem eqPartS_true (a a' : Option Addr) (n n' c c' b b' : Nat) (Ps : List Pa) (w : World) (hn : n = Ps.length) (hn' : n' = Ps.length) (h : OwnPs w b (.slice a n c) Ps) (h' : OwnPs w b' (.slice a' n' c') Ps) (hb : PsB Ps) :
    Calls Try.prog 26 #[.slice a n c, .slice a' n' c'] w fun e w' => e = .returned (.bool true) ∧ Below w.heap.size w w' := by
  obtain rfl : n = n' := by omega
  clear hn'
  have HN : Hid (n = Ps.length) := hn
  have HH : Hid (OwnPs w b (.slice a n c) Ps ∧ OwnPs w b' (.slice a' n c') Ps ∧ PsB Ps) := ⟨h, h', hb⟩
  have hn8 : n ≤ 8 := by have := hb.1; omega
  clear h h' hb hn
  go_enter Try.func26, Try.ntmps26
  go_wp2
  go_loopw [5] (fun i wr => ∃ z : Nat, z ≤ n ∧ i = .int .i64 z ∧ Below w.heap.size w wr) (fun i _ => n - (intOf i).toNat)
  case atStart => exact ⟨0, Nat.zero_le _, rfl, Below.refl _ _⟩
  case round =>
    obtain ⟨z, hz, rfl, hbl⟩ := hrel
    by_cases hlt : z < n
    · have hi : (z : Int) < (n : Int) := by omega
      have hlz : z < Ps.length := by have := HN.out; omega
      obtain ⟨g, off, a1, a2, c1, c2, rfl, d0, d1, d2, d3, d4, d5, d6, d7, s1, s2⟩ := (HH.out.1.below hbl).at hlz
      obtain ⟨g', off', a1', a2', c1', c2', rfl, e0, e1, e2, e3, e4, e5, e6, e7, s1', s2'⟩ := (HH.out.2.1.below hbl).at hlz
      obtain ⟨P, hP⟩ : ∃ P, P = Ps.getD z default := ⟨_, rfl⟩
      obtain ⟨l1, hl1⟩ : ∃ l1, l1 = P.ws.length := ⟨_, rfl⟩
      obtain ⟨l2, hl2⟩ : ∃ l2, l2 = P.bs.length := ⟨_, rfl⟩
      rw [← hP] at d0 d1 d2 d3 d4 d5 d6 d7 e0 e1 e2 e3 e4 e5 e6 e7 s1 s2 s1' s2'
      rw [← hl1] at d5 e5
      rw [← hl2] at d6 e6
      have HB : Hid (P.ws.length ≤ 2000 ∧ P.bs.length ≤ 2000 ∧ SlI wr a1 P.ws ∧ SlB wr a2 P.bs ∧ SlI wr a1' P.ws ∧ SlB wr a2' P.bs ∧ l1 = P.ws.length ∧ l2 = P.bs.length) := ⟨by rw [hP]; exact (HH.out.2.2.2 z hlz).1, by rw [hP]; exact (HH.out.2.2.2 z hlz).2, s1, s2, s1', s2', hl1, hl2⟩
      clear s1 s2 s1' s2' hP hl1 hl2 hlz
      go_wp2_with fail
      go_region_with (go_at_call 73; refine (eqPart_true P a1 a2 a1' a2' l1 l2 c1 c2 c1' c2' _ HB.out.2.2.2.2.2.2.1 HB.out.2.2.2.2.2.2.2 (HB.out.2.2.1.below (by first | exact Below.refl _ _ | exact (Below.refl _ _).drew | exact (Below.refl _ _).drew.drew)) (HB.out.2.2.2.1.below (by first | exact Below.refl _ _ | exact (Below.refl _ _).drew | exact (Below.refl _ _).drew.drew)) (HB.out.2.2.2.2.1.below (by first | exact Below.refl _ _ | exact (Below.refl _ _).drew | exact (Below.refl _ _).drew.drew)) (HB.out.2.2.2.2.2.1.below (by first | exact Below.refl _ _ | exact (Below.refl _ _).drew | exact (Below.refl _ _).drew.drew)) HB.out.1 HB.out.2.1).mono ?_; rintro e w1 ⟨rfl, b1'⟩; have b1 : Below wr.heap.size wr w1 := bel_next (by first | exact Below.refl _ _ | exact (Below.refl _ _).drew | exact (Below.refl _ _).drew.drew) b1'; clear b1')
      all_goals (
        have B1 := bel_next hbl b1
        clear hbl b1 d0 d1 d2 d3 d4 d5 d6 d7 e0 e1 e2 e3 e4 e5 e6 e7
        go_wp2
        go_roundw
        case rel => exact ⟨z + 1, by omega, by go_num, B1⟩
        case measure => simp [intOf]; omega)
    · have hi : ¬ (z : Int) < (n : Int) := by omega
      go_wp2
      go_ret
      exact ⟨rfl, hbl⟩

end Go.Proofs.Ytaaokbmfpfmfgaa

namespace Go.Proofs.Ytaaokbmfpfmfgaa
open Go.RowKit Go.Joins

set_option linter.unusedVariables false

set_option linter.unusedSimpArgs false

set_option maxRecDepth 20000 in
set_option maxHeartbeats 2000000 in
theorem markRuleS_any (g n s : Nat) (f : Nat → Ru) (w : World) (h : RowU w g n f) (hn : n ≤ 1048576) (hs : s ≤ 1000) :
    Calls Try.prog 29 #[.slice (some ⟨g, 0, none⟩) n n, .int .i64 (s : Int)] w fun e w' => e = .returned (.int .i64 ((s : Int) + 7 * (n : Int))) ∧ w.grownBy w' (some g) := by
  have HR : Hid (RowU w g n f) := h
  clear h
  go_enter Try.func29, Try.ntmps29
  go_wp2
  go_loopw [1, 5] (fun kv i wr => ∃ (z : Nat) (h : Nat → Ru), z ≤ n ∧ i = .int .i64 z ∧ kv = .int .i64 ((s : Int) + 7 * (z : Int)) ∧ RowU wr g n h ∧ w.grownBy wr (some g)) (fun _ i _ => n - (intOf i).toNat)
  case atStart => exact ⟨0, f, Nat.zero_le _, rfl, by simp, HR.out, World.grownBy.refl w _⟩
  case round =>
    clear HR
    obtain ⟨z, h, hz, rfl, rfl, hrow, hg⟩ := hrel
    by_cases hlt : z < n
    · have hi : (z : Int) < (n : Int) := by omega
      obtain ⟨k, hk⟩ : ∃ k : Nat, (k : Int) = (s : Int) + 7 * (z : Int) := ⟨s + 7 * z, by omega⟩
      rw [← hk]
      have HK : Hid ((k : Int) = (s : Int) + 7 * (z : Int)) := hk
      have w0 : IntKind.i64.wrap ((k : Int) + 1) = (k : Int) + 1 := by rw [IntKind.wrap_i64]; omega
      have w1 : IntKind.i64.wrap ((k : Int) + 1 + 1) = (k : Int) + 2 := by rw [IntKind.wrap_i64]; omega
      have w2 : IntKind.i64.wrap ((k : Int) + 2 + 1) = (k : Int) + 3 := by rw [IntKind.wrap_i64]; omega
      have w3 : IntKind.i64.wrap ((k : Int) + 3 + 1) = (k : Int) + 4 := by rw [IntKind.wrap_i64]; omega
      have w4 : IntKind.i64.wrap ((k : Int) + 4 + 1) = (k : Int) + 5 := by rw [IntKind.wrap_i64]; omega
      have w5 : IntKind.i64.wrap ((k : Int) + 5 + 1) = (k : Int) + 6 := by rw [IntKind.wrap_i64]; omega
      have w6 : IntKind.i64.wrap ((k : Int) + 6 + 1) = (k : Int) + 7 := by rw [IntKind.wrap_i64]; omega
      obtain ⟨d0, d1, d2, d3, d4, d5, d6⟩ := RowU.seven hrow hlt
      have f0 := RowS.fro hrow (z * 7)
      have f1 := RowS.fro hrow (z * 7 + 1)
      have f2 := RowS.fro hrow (z * 7 + 2)
      have f3 := RowS.fro hrow (z * 7 + 3)
      have f4 := RowS.fro hrow (z * 7 + 4)
      have f5 := RowS.fro hrow (z * 7 + 5)
      have f6 := RowS.fro hrow (z * 7 + 6)
      have HR2 : Hid (RowU (setL wr g (z * 7) (rul ⟨(k : Int), (k : Int) + 1, (k : Int) + 2, (k : Int) + 3, (k : Int) + 4, (k : Int) + 5, (k : Int) + 6⟩)) g n (fun i => if i = z then ⟨(k : Int), (k : Int) + 1, (k : Int) + 2, (k : Int) + 3, (k : Int) + 4, (k : Int) + 5, (k : Int) + 6⟩ else h i) ∧ w.grownBy (setL wr g (z * 7) (rul ⟨(k : Int), (k : Int) + 1, (k : Int) + 2, (k : Int) + 3, (k : Int) + 4, (k : Int) + 5, (k : Int) + 6⟩)) (some g)) := by
        refine ⟨(RowS.set hrow hlt (rul ⟨(k : Int), (k : Int) + 1, (k : Int) + 2, (k : Int) + 3, (k : Int) + 4, (k : Int) + 5, (k : Int) + 6⟩) rfl).congr (fun i _ => by by_cases e : i = z <;> simp [e]), ?_⟩
        have g2 := setL_gr (g := g) (rul ⟨(k : Int), (k : Int) + 1, (k : Int) + 2, (k : Int) + 3, (k : Int) + 4, (k : Int) + 5, (k : Int) + 6⟩) wr (z * 7)
        exact ⟨g2.os.trans hg.os, g2.tape.trans hg.tape, g2.output.trans hg.output, Nat.le_trans hg.size g2.size, fun k hk hne => by rw [g2.block k (Nat.lt_of_lt_of_le hk hg.size) hne, hg.block k hk hne]⟩
      clear hrow hg hk
      go_wp2
      go_roundw
      case rel => exact ⟨z + 1, _, by omega, by go_num, (by have := HK.out; congr 1; omega), HR2.out.1, HR2.out.2⟩
      case measure => simp [intOf]; omega
    · have hi : ¬ (z : Int) < (n : Int) := by omega
      have e9 : z = n := by omega
      subst e9
      go_wp2
      go_ret
      exact ⟨rfl, hg⟩

end Go.Proofs.Ytaaokbmfpfmfgaa

namespace Go.Proofs.Ytaaokbmfpfmfgaa
open Go.RowKit Go.Joins

set_option linter.unusedVariables false

set_option linter.unusedSimpArgs false

theorem RowC.upd {w : World} {g : Nat} {t : TypeId} {s n : Nat} {F : Nat → List Value} (h : RowC w g t s n F) {k o : Nat} (hk : k < n) (vs L : List Value) (ho : o + vs.length ≤ s) (hL : ∀ j, j < s → L[j]? = if o ≤ j ∧ j < o + vs.length then vs[j - o]? else (F k)[j]?) :
    RowC (setL w g (k * s + o) vs) g t s n (fun i => if i = k then L else F i) := by
  obtain ⟨cs, h1, h2, h3⟩ := h
  obtain ⟨cs', g1, g2, g3⟩ := setL_block vs w (k * s + o) cs h1
  refine ⟨cs', g1, by omega, fun i hi j hj => ?_⟩
  have hin : i * s + j < cs.size := by
    have : (i + 1) * s ≤ n * s := Nat.mul_le_mul_right s hi
    rw [Nat.add_mul, Nat.one_mul] at this
    omega
  rw [g3 _ hin]
  by_cases e : i = k
  · subst e
    simp only [if_pos]
    rw [hL j hj]
    by_cases e2 : o ≤ j ∧ j < o + vs.length
    · rw [if_pos e2, if_pos (by omega), show i * s + j - (i * s + o) = j - o by omega]
    · rw [if_neg e2, if_neg (by omega), h3 i hi j hj]
  · simp only [if_neg e]
    rw [if_neg, h3 i hi j hj]
    intro ⟨e1, e2⟩
    obtain ⟨d, hd⟩ : ∃ d, i * s + j = k * s + d := ⟨i * s + j - k * s, by omega⟩
    exact e (idx_inj hj (by omega) hd).1

theorem grown_none {w w' : World} (hg : w.grownBy w' none) : Below w.heap.size w w' := (Below.refl _ w).grown hg (Nat.le_refl _) (fun k hk => by cases hk)

theorem PtAt.keptV {w w' : World} {lo hi : Nat} {vs : List Value} {P : Pa} {v : Value} (h : PtAt w lo hi vs P) (hg : w.grownBy w' v.ownBlock) (hx : ∀ gx, v.ownBlock = some gx → gx < lo ∨ hi ≤ gx) : PtAt w' lo hi vs P := by
  cases hv : v.ownBlock with
  | none => rw [hv] at hg; exact h.below (grown_none hg)
  | some gx =>
    rw [hv] at hg
    rcases hx gx hv with h1 | h1
    · exact h.kept hg (.inl h1)
    · exact h.kept hg (.inr (.inl h1))

theorem RowC.keptV {w w' : World} {g : Nat} {t e : TypeId} {s n b s' n' : Nat} {F : Nat → List Value} {v : Value} {xs : List Value} (h : RowC w g t s n F) (hr : w.ownsRow b e s' v n' xs) (hg : w.grownBy w' v.ownBlock) (ht : t ≠ e) : RowC w' g t s n F := by
  obtain ⟨cs, hb⟩ := h.exB
  exact h.kept hg (row_noBlk hr hb ht)

theorem OwnPs.keptV {w w' : World} {base : Nat} {v u : Value} {Ps : List Pa} (h : OwnPs w base v Ps) (hg : w.grownBy w' u.ownBlock) (hx : ∀ gx, u.ownBlock = some gx → gx < base) : OwnPs w' base v Ps := by
  cases hv : u.ownBlock with
  | none => rw [hv] at hg; exact h.below (grown_none hg)
  | some gx => rw [hv] at hg; exact h.keptLt hg (hx gx hv)

theorem ne_typesX {w : World} {b1 b2 s1 s2 n1 n2 : Nat} {e1 e2 : TypeId} {v1 v2 : Value} {x1 x2 : List Value} (h1 : w.ownsRow b1 e1 s1 v1 n1 x1) (h2 : w.ownsRow b2 e2 s2 v2 n2 x2) (he : e1 ≠ e2) : v1.ownBlock = none ∨ v1.ownBlock ≠ v2.ownBlock := by
  cases e : v1.ownBlock with
  | none => exact .inl rfl
  | some g =>
    obtain ⟨cs, hb⟩ := row_exB h1 e
    exact .inr (fun e2' => row_noBlk h2 hb he e2'.symm)

/-- A part that is marked from s on. -/
def mkP (s : Nat) (P : Pa) : Pa := ⟨(s : Int), (s : Int) + 1, (s : Int) + 2, (s : Int) + 3, (s : Int) + 4, (s : Int) + 5 + P.ws.length + P.bs.length, marksI (s + 5) P.ws.length, marksB (s + 5 + P.ws.length) P.bs.length⟩

def cP (P : Pa) : Nat := 6 + P.ws.length + P.bs.length

/-- Where part k begins. -/
def mst (s : Nat) (G : Nat → Pa) : Nat → Nat
  | 0 => s
  | k + 1 => mst s G k + cP (G k)

/-- Parts by their numbers. -/
def OwnPf (w : World) (base : Nat) (v : Value) (n : Nat) (G : Nat → Pa) : Prop :=
  ∃ (F : Nat → List Value) (β : Nat → Nat), OwnC w base 37 8 v n F ∧ base ≤ β 0 ∧ (∀ k, β k ≤ β (k + 1)) ∧ ∀ k, k < n → PtAt w (β k) (β (k + 1)) (F k) (G k)

theorem OwnPs.pf {w : World} {base : Nat} {v : Value} {Ps : List Pa} (h : OwnPs w base v Ps) : OwnPf w base v Ps.length (fun k => Ps.getD k default) := by
  obtain ⟨F, β, h1, h2, h3, h4⟩ := h
  exact ⟨F, β, h1, h2, h3, h4⟩

theorem OwnPf.below {w w' : World} {base n : Nat} {v : Value} {G : Nat → Pa} (h : OwnPf w base v n G) (hb : Below w.heap.size w w') : OwnPf w' base v n G := by
  obtain ⟨F, β, h1, h2, h3, h4⟩ := h
  exact ⟨F, β, h1.below hb, h2, h3, fun k hk => (h4 k hk).below hb⟩

theorem OwnPf.congr {w : World} {base n : Nat} {v : Value} {G H : Nat → Pa} (h : OwnPf w base v n G) (he : ∀ k, k < n → G k = H k) : OwnPf w base v n H := by
  obtain ⟨F, β, h1, h2, h3, h4⟩ := h
  exact ⟨F, β, h1, h2, h3, fun k hk => by rw [← he k hk]; exact h4 k hk⟩

/-- One part is marked. -/
theorem mark_round {wr W1 W2 W3 : World} {base g c N z s : Nat} {F : Nat → List Value} {β : Nat → Nat} {G : Nat → Pa} {a1 a2 : Option Addr} {c1 c2 : Nat} (hC : RowC wr g 37 8 N F) (hb : base ≤ g) (h0 : base ≤ β 0) (hm : ∀ k, β k ≤ β (k + 1)) (hP : ∀ k, k < N → PtAt wr (β k) (β (k + 1)) (F k) (G k)) (hz : z < N)
    (hF : F z = ptl (G z) a1 a2 c1 c2) (o1 : OwnI wr (β z) (.slice a1 (G z).ws.length c1) (G z).ws) (o2 : OwnB wr (β z) (.slice a2 (G z).bs.length c2) (G z).bs) (k1 : ∀ k, (Value.slice a1 (G z).ws.length c1).ownBlock = some k → k < β (z + 1)) (k2 : ∀ k, (Value.slice a2 (G z).bs.length c2).ownBlock = some k → k < β (z + 1))
    (hW1 : W1 = setL wr g (z * 8) [.int .i64 (s : Int), .int .i64 ((s : Int) + 1), .int .i64 ((s : Int) + 2), .int .i64 ((s : Int) + 3), .int .i64 ((s : Int) + 4)])
    (m1 : OwnI W2 (β z) (.slice a1 (G z).ws.length c1) (marksI (s + 5) (G z).ws.length)) (g1 : W1.grownBy W2 (Value.slice a1 (G z).ws.length c1).ownBlock) (m2 : OwnB W3 (β z) (.slice a2 (G z).bs.length c2) (marksB (s + 5 + (G z).ws.length) (G z).bs.length)) (g2 : W2.grownBy W3 (Value.slice a2 (G z).bs.length c2).ownBlock) :
    OwnPf (setL W3 g (z * 8 + 7) [.int .i64 ((s : Int) + 5 + (G z).ws.length + (G z).bs.length)]) base (.slice (some ⟨g, 0, none⟩) N c) N (fun k => if k = z then mkP s (G z) else G k) ∧ Below base wr (setL W3 g (z * 8 + 7) [.int .i64 ((s : Int) + 5 + (G z).ws.length + (G z).bs.length)]) := by
  have hlt := hC.lt
  obtain ⟨cs, hX⟩ := hC.exB
  have C1 : RowC W1 g 37 8 N (fun i => if i = z then [.int .i64 (s : Int), .int .i64 ((s : Int) + 1), .int .i64 ((s : Int) + 2), .int .i64 ((s : Int) + 3), .int .i64 ((s : Int) + 4), .slice a1 (G z).ws.length c1, .slice a2 (G z).bs.length c2, .int .i64 (G z).wa] else F i) := by
    rw [hW1]
    refine hC.upd (o := 0) hz _ _ (by simp) (fun j hj => ?_)
    rw [hF]
    obtain rfl | rfl | rfl | rfl | rfl | rfl | rfl | rfl : j = 0 ∨ j = 1 ∨ j = 2 ∨ j = 3 ∨ j = 4 ∨ j = 5 ∨ j = 6 ∨ j = 7 := by omega
    all_goals simp
  have G1 : wr.grownBy W1 (some g) := by rw [hW1]; exact setL_gr _ _ _
  have p1 : OwnI W1 (β z) (.slice a1 (G z).ws.length c1) (G z).ws := o1.kept G1 (.inr (row_noBlk o1 hX (by decide)))
  have p2 : OwnB W1 (β z) (.slice a2 (G z).bs.length c2) (G z).bs := o2.kept G1 (.inr (row_noBlk o2 hX (by decide)))
  have C2 := C1.keptV p1 g1 (by decide)
  have p2' : OwnB W2 (β z) (.slice a2 (G z).bs.length c2) (G z).bs := p2.kept g1 (ne_typesX p2 p1 (by decide))
  have C3 := C2.keptV p2' g2 (by decide)
  obtain ⟨cs3, hX3⟩ := C3.exB
  have m1' : OwnI W3 (β z) (.slice a1 (G z).ws.length c1) (marksI (s + 5) (G z).ws.length) := m1.kept g2 (ne_typesX m1 p2' (by decide))
  have G4 : W3.grownBy (setL W3 g (z * 8 + 7) [.int .i64 ((s : Int) + 5 + (G z).ws.length + (G z).bs.length)]) (some g) := setL_gr _ _ _
  have C4 := C3.upd (o := 7) hz [.int .i64 ((s : Int) + 5 + (G z).ws.length + (G z).bs.length)] [.int .i64 (s : Int), .int .i64 ((s : Int) + 1), .int .i64 ((s : Int) + 2), .int .i64 ((s : Int) + 3), .int .i64 ((s : Int) + 4), .slice a1 (G z).ws.length c1, .slice a2 (G z).bs.length c2, .int .i64 ((s : Int) + 5 + (G z).ws.length + (G z).bs.length)] (by simp) (fun j hj => by
    simp only [if_pos]
    obtain rfl | rfl | rfl | rfl | rfl | rfl | rfl | rfl : j = 0 ∨ j = 1 ∨ j = 2 ∨ j = 3 ∨ j = 4 ∨ j = 5 ∨ j = 6 ∨ j = 7 := by omega
    all_goals simp)
  have hx1 : ∀ gx, (Value.slice a1 (G z).ws.length c1).ownBlock = some gx → β z ≤ gx ∧ gx < β (z + 1) := fun gx e => ⟨(World.ownsRow.lt o1 gx e).1, k1 gx e⟩
  have hx2 : ∀ gx, (Value.slice a2 (G z).bs.length c2).ownBlock = some gx → β z ≤ gx ∧ gx < β (z + 1) := fun gx e => ⟨(World.ownsRow.lt o2 gx e).1, k2 gx e⟩
  have hbz : base ≤ β z := Nat.le_trans h0 (beta_mono hm (Nat.zero_le z))
  refine ⟨⟨_, β, .inr ⟨g, c, rfl, hb, C4⟩, h0, hm, fun k hk => ?_⟩, ?_⟩
  · by_cases e : k = z
    · subst e
      simp only [if_pos]
      refine ⟨a1, a2, c1, c2, ?_, ?_, ?_, ?_, ?_⟩
      · simp [ptl, mkP, marksI_length, marksB_length]
      · simp only [mkP, marksI_length]
        exact m1'.kept G4 (.inr (row_noBlk m1' hX3 (by decide)))
      · simp only [mkP, marksB_length]
        exact m2.kept G4 (.inr (row_noBlk m2 hX3 (by decide)))
      · simp only [mkP, marksI_length]; exact k1
      · simp only [mkP, marksB_length]; exact k2
    · simp only [if_neg e]
      have hd : ∀ gx, β z ≤ gx ∧ gx < β (z + 1) → gx < β k ∨ β (k + 1) ≤ gx := by
        intro gx ⟨q1, q2⟩
        rcases Nat.lt_or_ge k z with h9 | h9
        · right; have := beta_mono hm (show k + 1 ≤ z by omega); omega
        · left; have := beta_mono hm (show z + 1 ≤ k by omega); omega
      have A1 := (hP k hk).kept G1 (.inr (.inr ⟨_, ⟨cs, hX⟩, by decide, by decide⟩))
      have A2 := A1.keptV g1 (fun gx e => hd gx (hx1 gx e))
      have A3 := A2.keptV g2 (fun gx e => hd gx (hx2 gx e))
      exact A3.kept G4 (.inr (.inr ⟨_, ⟨cs3, hX3⟩, by decide, by decide⟩))
  · by_cases hs : base ≤ wr.heap.size
    · have B1 : Below base wr W1 := (Below.refl base wr).grown G1 hs (fun k hk => by have := Option.some.inj hk; omega)
      have B2 : Below base wr W2 := B1.grown g1 (Nat.le_trans hs G1.size) (fun k hk => Nat.le_trans hbz (hx1 k hk).1)
      have B3 : Below base wr W3 := B2.grown g2 (Nat.le_trans hs (Nat.le_trans G1.size g1.size)) (fun k hk => Nat.le_trans hbz (hx2 k hk).1)
      exact B3.grown G4 (Nat.le_trans hs (Nat.le_trans G1.size (Nat.le_trans g1.size g2.size))) (fun k hk => by have := Option.some.inj hk; omega)
    · omega

theorem markIntS_at (a : Option Addr) (n cap base s : Nat) (x : Int) (zs : List Int) (w : World) (hx : x = ((s : Nat) : Int)) (h : OwnI w base (.slice a n cap) zs) (hl : n ≤ 3000000) (hs' : s ≤ 9000000) :
    Calls Try.prog 77 #[.slice a n cap, .int .i64 x] w fun e w' => e = .returned (.int .i64 ((s : Int) + (n : Int))) ∧ OwnI w' base (.slice a n cap) (marksI s n) ∧ w.grownBy w' (Value.slice a n cap).ownBlock := by
  subst hx
  exact markIntS_from a n cap base s zs w h hl hs'

theorem mst_bd (s n : Nat) (G : Nat → Pa) (h : ∀ k, k < n → (G k).ws.length ≤ 2000 ∧ (G k).bs.length ≤ 2000) : ∀ k, k ≤ n → mst s G k ≤ s + k * 4006
  | 0, _ => by simp [mst]
  | k + 1, hk => by
    have := mst_bd s n G h k (by omega)
    have := h k (by omega)
    simp only [mst, cP]
    omega

set_option maxRecDepth 20000 in
set_option maxHeartbeats 4000000 in
theorem markPartS_any (a : Option Addr) (n c base s : Nat) (G : Nat → Pa) (w : World) (h : OwnPf w base (.slice a n c) n G) (hn : n ≤ 8) (hs : s ≤ 1000) (hG : ∀ k, k < n → (G k).ws.length ≤ 2000 ∧ (G k).bs.length ≤ 2000) :
    Calls Try.prog 31 #[.slice a n c, .int .i64 (s : Int)] w fun e w' => e = .returned (.int .i64 (mst s G n : Int)) ∧ OwnPf w' base (.slice a n c) n (fun k => mkP (mst s G k) (G k)) ∧ Below base w w' := by
  have HH : Hid (OwnPf w base (.slice a n c) n G ∧ ∀ k, k < n → (G k).ws.length ≤ 2000 ∧ (G k).bs.length ≤ 2000) := ⟨h, hG⟩
  clear h hG
  go_enter Try.func31, Try.ntmps31
  go_wp2
  go_loopw [1, 5] (fun kv i wr => ∃ z : Nat, z ≤ n ∧ i = .int .i64 z ∧ kv = .int .i64 (mst s G z : Int) ∧ OwnPf wr base (.slice a n c) n (fun k => if k < z then mkP (mst s G k) (G k) else G k) ∧ Below base w wr) (fun _ i _ => n - (intOf i).toNat)
  case atStart => exact ⟨0, Nat.zero_le _, rfl, rfl, HH.out.1.congr (fun k _ => by simp), Below.refl _ _⟩
  case round =>
    obtain ⟨z, hz, rfl, rfl, hO, hbl⟩ := hrel
    by_cases hlt : z < n
    · have hi : (z : Int) < (n : Int) := by omega
      have hbd := HH.out.2 z hlt
      have hms := mst_bd s n G HH.out.2 z hz
      obtain ⟨k, hk⟩ : ∃ k, k = mst s G z := ⟨_, rfl⟩
      rw [← hk] at hms ⊢
      have HK : Hid (k = mst s G z ∧ k ≤ 33048) := ⟨hk, by omega⟩
      obtain ⟨H, hH⟩ : ∃ H : Nat → Pa, H = (fun k => if k < z then mkP (mst s G k) (G k) else G k) := ⟨_, rfl⟩
      rw [← hH] at hO
      have hHz : H z = G z := by rw [hH]; simp
      have HHH : Hid (H = (fun k => if k < z then mkP (mst s G k) (G k) else G k) ∧ H z = G z) := ⟨hH, hHz⟩
      obtain ⟨F, β, hC, h0, hm, hP⟩ := hO
      rcases hC with ⟨hn0, _⟩ | ⟨g, c', hv, hbg, hC⟩
      · omega
      simp only [Value.slice.injEq] at hv
      obtain ⟨ha, _, hc'⟩ := hv
      subst ha
      subst hc'
      obtain ⟨a1, a2, c1, c2, hF, o1, o2, k1, k2⟩ := hP z hlt
      obtain ⟨l1, hl1⟩ : ∃ l1, l1 = (H z).ws.length := ⟨_, rfl⟩
      obtain ⟨l2, hl2⟩ : ∃ l2, l2 = (H z).bs.length := ⟨_, rfl⟩
      have HL : Hid (l1 = (H z).ws.length ∧ l2 = (H z).bs.length ∧ l1 ≤ 2000 ∧ l2 ≤ 2000 ∧ l1 = (G z).ws.length ∧ l2 = (G z).bs.length) := ⟨hl1, hl2, by rw [hl1, hHz]; exact hbd.1, by rw [hl2, hHz]; exact hbd.2, by rw [hl1, hHz], by rw [hl2, hHz]⟩
      have e0 : wr.cell? ⟨g, z * 8, none⟩ = some (.int .i64 (H z).p) := by have h9 := hC.cell hlt (j := 0) (by decide); rw [hF] at h9; simpa using h9
      have f0 := hC.fro (z * 8)
      have e1 : wr.cell? ⟨g, z * 8 + 1, none⟩ = some (.int .i64 (H z).t) := by have h9 := hC.cell hlt (j := 1) (by decide); rw [hF] at h9; simpa using h9
      have f1 := hC.fro (z * 8 + 1)
      have e2 : wr.cell? ⟨g, z * 8 + 2, none⟩ = some (.int .i64 (H z).kd) := by have h9 := hC.cell hlt (j := 2) (by decide); rw [hF] at h9; simpa using h9
      have f2 := hC.fro (z * 8 + 2)
      have e3 : wr.cell? ⟨g, z * 8 + 3, none⟩ = some (.int .i64 (H z).pl) := by have h9 := hC.cell hlt (j := 3) (by decide); rw [hF] at h9; simpa using h9
      have f3 := hC.fro (z * 8 + 3)
      have e4 : wr.cell? ⟨g, z * 8 + 4, none⟩ = some (.int .i64 (H z).n) := by have h9 := hC.cell hlt (j := 4) (by decide); rw [hF] at h9; simpa using h9
      have f4 := hC.fro (z * 8 + 4)
      have e5 : wr.cell? ⟨g, z * 8 + 5, none⟩ = some (.slice a1 l1 c1) := by have h9 := hC.cell hlt (j := 5) (by decide); rw [hF] at h9; simpa [hl1] using h9
      have f5 := hC.fro (z * 8 + 5)
      have e6 : wr.cell? ⟨g, z * 8 + 6, none⟩ = some (.slice a2 l2 c2) := by have h9 := hC.cell hlt (j := 6) (by decide); rw [hF] at h9; simpa [hl2] using h9
      have f6 := hC.fro (z * 8 + 6)
      have e7 : wr.cell? ⟨g, z * 8 + 7, none⟩ = some (.int .i64 (H z).wa) := by have h9 := hC.cell hlt (j := 7) (by decide); rw [hF] at h9; simpa using h9
      have f7 := hC.fro (z * 8 + 7)
      have v0 : IntKind.i64.wrap ((k : Int) + 1) = (k : Int) + 1 := by have := HK.out; rw [IntKind.wrap_i64]; omega
      have v1 : IntKind.i64.wrap ((k : Int) + 1 + 1) = (k : Int) + 2 := by have := HK.out; rw [IntKind.wrap_i64]; omega
      have v2 : IntKind.i64.wrap ((k : Int) + 2 + 1) = (k : Int) + 3 := by have := HK.out; rw [IntKind.wrap_i64]; omega
      have v3 : IntKind.i64.wrap ((k : Int) + 3 + 1) = (k : Int) + 4 := by have := HK.out; rw [IntKind.wrap_i64]; omega
      have v4 : IntKind.i64.wrap ((k : Int) + 4 + 1) = (k : Int) + 5 := by have := HK.out; rw [IntKind.wrap_i64]; omega
      have HF : Hid (RowC wr g 37 8 n F ∧ base ≤ g ∧ base ≤ β 0 ∧ (∀ k, β k ≤ β (k + 1)) ∧ (∀ k, k < n → PtAt wr (β k) (β (k + 1)) (F k) (H k)) ∧ F z = ptl (H z) a1 a2 c1 c2 ∧ OwnI wr (β z) (.slice a1 l1 c1) (H z).ws ∧ OwnB wr (β z) (.slice a2 l2 c2) (H z).bs ∧ (∀ k, (Value.slice a1 l1 c1).ownBlock = some k → k < β (z + 1)) ∧ (∀ k, (Value.slice a2 l2 c2).ownBlock = some k → k < β (z + 1)) ∧ Below base w wr) := ⟨hC, hbg, h0, hm, hP, hF, by rw [hl1]; exact o1, by rw [hl2]; exact o2, by rw [hl1]; exact k1, by rw [hl2]; exact k2, hbl⟩
      clear hC hbg h0 hm hP hF o1 o2 k1 k2 hbl hbd hms hk hH hHz hl1 hl2
      go_upto_region 14 with fail
      obtain ⟨W1, hW1⟩ : ∃ W1, W1 = setL wr g (z * 8) [.int .i64 (k : Int), .int .i64 ((k : Int) + 1), .int .i64 ((k : Int) + 2), .int .i64 ((k : Int) + 3), .int .i64 ((k : Int) + 4)] := ⟨_, rfl⟩
      have hW1' : W1 = ((((wr.setCell ⟨g, z * 8, none⟩ (.int .i64 (k : Int))).setCell ⟨g, z * 8 + 1, none⟩ (.int .i64 ((k : Int) + 1))).setCell ⟨g, z * 8 + 2, none⟩ (.int .i64 ((k : Int) + 2))).setCell ⟨g, z * 8 + 3, none⟩ (.int .i64 ((k : Int) + 3))).setCell ⟨g, z * 8 + 4, none⟩ (.int .i64 ((k : Int) + 4)) := hW1
      rw [← hW1']
      have C1 : RowC W1 g 37 8 n (fun i => if i = z then [.int .i64 (k : Int), .int .i64 ((k : Int) + 1), .int .i64 ((k : Int) + 2), .int .i64 ((k : Int) + 3), .int .i64 ((k : Int) + 4), .slice a1 l1 c1, .slice a2 l2 c2, .int .i64 (H z).wa] else F i) := by
        rw [hW1]
        refine HF.out.1.upd (o := 0) hlt _ _ (by simp) (fun j hj => ?_)
        rw [HF.out.2.2.2.2.2.1]
        obtain rfl | rfl | rfl | rfl | rfl | rfl | rfl | rfl : j = 0 ∨ j = 1 ∨ j = 2 ∨ j = 3 ∨ j = 4 ∨ j = 5 ∨ j = 6 ∨ j = 7 := by omega
        all_goals simp [HL.out.1, HL.out.2.1]
      have G1 : wr.grownBy W1 (some g) := by rw [hW1]; exact setL_gr _ _ _
      have H1 : Hid (W1 = setL wr g (z * 8) [.int .i64 (k : Int), .int .i64 ((k : Int) + 1), .int .i64 ((k : Int) + 2), .int .i64 ((k : Int) + 3), .int .i64 ((k : Int) + 4)] ∧ OwnI W1 (β z) (.slice a1 l1 c1) (H z).ws ∧ OwnB W1 (β z) (.slice a2 l2 c2) (H z).bs ∧ RowC W1 g 37 8 n (fun i => if i = z then [.int .i64 (k : Int), .int .i64 ((k : Int) + 1), .int .i64 ((k : Int) + 2), .int .i64 ((k : Int) + 3), .int .i64 ((k : Int) + 4), .slice a1 l1 c1, .slice a2 l2 c2, .int .i64 (H z).wa] else F i)) := by
        obtain ⟨cs, hX⟩ := HF.out.1.exB
        exact ⟨hW1, HF.out.2.2.2.2.2.2.1.kept G1 (.inr (row_noBlk HF.out.2.2.2.2.2.2.1 hX (by decide))), HF.out.2.2.2.2.2.2.2.1.kept G1 (.inr (row_noBlk HF.out.2.2.2.2.2.2.2.1 hX (by decide))), C1⟩
      clear hW1 hW1' G1 e0 e1 e2 e3 e4 e5 e6 e7 f0 f1 f2 f3 f4 f5 f6 f7 v0 v1 v2 v3
      have t5 : W1.cell? ⟨g, z * 8 + 5, none⟩ = some (.slice a1 l1 c1) := by have h9 := C1.cell hlt (j := 5) (by decide); simpa using h9
      clear C1
      go_wp2_with fail
      refine (markIntS_at a1 l1 c1 (β z) (k + 5) _ (H z).ws _ (by omega) H1.out.2.1 (by have := HL.out; omega) (by have := HK.out; omega)).mono ?_
      rintro e W2 ⟨rfl, m1, g1⟩
      have C2 := H1.out.2.2.2.keptV H1.out.2.1 g1 (by decide)
      have H2 : Hid (OwnI W2 (β z) (.slice a1 l1 c1) (marksI (k + 5) l1) ∧ W1.grownBy W2 (Value.slice a1 l1 c1).ownBlock ∧ OwnB W2 (β z) (.slice a2 l2 c2) (H z).bs ∧ RowC W2 g 37 8 n (fun i => if i = z then [.int .i64 (k : Int), .int .i64 ((k : Int) + 1), .int .i64 ((k : Int) + 2), .int .i64 ((k : Int) + 3), .int .i64 ((k : Int) + 4), .slice a1 l1 c1, .slice a2 l2 c2, .int .i64 (H z).wa] else F i)) := ⟨m1, g1, H1.out.2.2.1.kept g1 (ne_typesX H1.out.2.2.1 H1.out.2.1 (by decide)), C2⟩
      have t6 : W2.cell? ⟨g, z * 8 + 6, none⟩ = some (.slice a2 l2 c2) := by have h9 := C2.cell hlt (j := 6) (by decide); simpa using h9
      obtain ⟨k5, hk5⟩ : ∃ k5 : Nat, (k5 : Int) = ((k + 5 : Nat) : Int) + (l1 : Int) := ⟨k + 5 + l1, by omega⟩
      rw [← hk5]
      have HK5 : Hid (k5 = k + 5 + l1) := by show _ = _; omega
      clear m1 g1 C2 t5 hk5
      go_wp2_with fail
      refine (markBoolS_from a2 l2 c2 (β z) k5 (H z).bs _ H2.out.2.2.1 (by have := HL.out; omega) (by have := HK.out; have := HK5.out; have := HL.out; omega)).mono ?_
      rintro e W3 ⟨rfl, m2, g2⟩
      have C3 := H2.out.2.2.2.keptV H2.out.2.2.1 g2 (by decide)
      obtain ⟨k6, hk6⟩ : ∃ k6 : Nat, (k6 : Int) = (k5 : Int) + (l2 : Int) := ⟨k5 + l2, by omega⟩
      rw [← hk6]
      have HK6 : Hid (k6 = k + 5 + l1 + l2 ∧ k6 + 1 = mst s G (z + 1)) := by
        have e1 := HK5.out
        have e2 := HK.out.1
        have e3 := HL.out
        refine ⟨by omega, ?_⟩
        simp only [mst, cP]
        omega
      have H3 : Hid (OwnPf (setL W3 g (z * 8 + 7) [.int .i64 (k6 : Int)]) base (.slice (some ⟨g, 0, none⟩) n c) n (fun j => if j = z then mkP k (H z) else H j) ∧ Below base w (setL W3 g (z * 8 + 7) [.int .i64 (k6 : Int)])) := by
        have f1 := HF.out
        have el := HL.out
        have ek : (k6 : Int) = (k : Int) + 5 + (H z).ws.length + (H z).bs.length := by have := HK6.out.1; omega
        have r9 := mark_round (c := c) (s := k) (W1 := W1) (W2 := W2) (W3 := W3) f1.1 f1.2.1 f1.2.2.1 f1.2.2.2.1 f1.2.2.2.2.1 hlt f1.2.2.2.2.2.1 (by rw [← el.1]; exact f1.2.2.2.2.2.2.1) (by rw [← el.2.1]; exact f1.2.2.2.2.2.2.2.1) (by rw [← el.1]; exact f1.2.2.2.2.2.2.2.2.1) (by rw [← el.2.1]; exact f1.2.2.2.2.2.2.2.2.2.1) H1.out.1 (by rw [← el.1]; exact H2.out.1) (by rw [← el.1]; exact H2.out.2.1) (by rw [← el.1, ← el.2.1, ← HK5.out]; exact m2) (by rw [← el.2.1]; exact g2)
        rw [← ek] at r9
        exact ⟨r9.1, f1.2.2.2.2.2.2.2.2.2.2.trans r9.2⟩
      have t7 : ∃ v7, W3.cell? ⟨g, z * 8 + 7, none⟩ = some v7 := ⟨_, by have h9 := C3.cell hlt (j := 7) (by decide); simpa using h9⟩
      obtain ⟨v7, t7⟩ := t7
      have f7 := C3.fro (z * 8 + 7)
      have w7 : IntKind.i64.wrap ((k6 : Int) + 1) = (k6 : Int) + 1 := by have := HK6.out; have := HK.out; have := HL.out; rw [IntKind.wrap_i64]; omega
      clear m2 g2 C3 t6 H1 H2 HF hk6 v4
      go_wp2
      go_roundw
      case rel => exact ⟨z + 1, by omega, by go_num, (by have := HK6.out.2; congr 1; omega), H3.out.1.congr (fun j hj => by have e8 := HHH.out.2; have e7 := HK.out.1; by_cases e : j = z; (subst e; simp [e8, e7]); (simp only [if_neg e]; rw [HHH.out.1]; simp only; by_cases e6 : j < z; (rw [if_pos e6, if_pos (by omega)]); (rw [if_neg e6, if_neg (by omega)]))), H3.out.2⟩
      case measure => simp [intOf]; omega
    · have hi : ¬ (z : Int) < (n : Int) := by omega
      have e9 : z = n := by omega
      subst e9
      have HX : Hid (OwnPf wr base (.slice a z c) z (fun k => mkP (mst s G k) (G k)) ∧ Below base w wr) := ⟨hO.congr (fun k hk => by simp [hk]), hbl⟩
      clear hO hbl
      go_wp2
      go_ret
      exact ⟨rfl, HX.out.1, HX.out.2⟩

end Go.Proofs.Ytaaokbmfpfmfgaa

namespace Go.Proofs.Ytaaokbmfpfmfgaa
open Go.RowKit Go.Joins

set_option linter.unusedVariables false

set_option linter.unusedSimpArgs false

theorem heldIntS_at (a : Option Addr) (n cap s : Nat) (x : Int) (w : World) (hx : x = ((s : Nat) : Int)) (hs : SlI w a (marksI s n)) (hl : n ≤ 3000000) (hs' : s ≤ 9000000) :
    Calls Try.prog 79 #[.slice a n cap, .int .i64 x] w fun e w' => e = .returned (.int .i64 ((s : Int) + (n : Int))) ∧ w' = w := by
  subst hx
  exact heldIntS_from a n cap s w hs hl hs'

set_option maxRecDepth 20000 in
set_option maxHeartbeats 4000000 in
theorem heldPartS_any (a : Option Addr) (n c base s : Nat) (G : Nat → Pa) (w : World) (h : OwnPf w base (.slice a n c) n (fun k => mkP (mst s G k) (G k))) (hn : n ≤ 8) (hs : s ≤ 1000) (hG : ∀ k, k < n → (G k).ws.length ≤ 2000 ∧ (G k).bs.length ≤ 2000) :
    Calls Try.prog 32 #[.slice a n c, .int .i64 (s : Int)] w fun e w' => e = .returned (.int .i64 (mst s G n : Int)) ∧ w' = w := by
  have HH : Hid (OwnPf w base (.slice a n c) n (fun k => mkP (mst s G k) (G k)) ∧ ∀ k, k < n → (G k).ws.length ≤ 2000 ∧ (G k).bs.length ≤ 2000) := ⟨h, hG⟩
  clear h hG
  go_enter Try.func32, Try.ntmps32
  go_wp2
  go_loopw [1, 5] (fun kv i wr => ∃ z : Nat, z ≤ n ∧ i = .int .i64 z ∧ kv = .int .i64 (mst s G z : Int) ∧ wr = w) (fun _ i _ => n - (intOf i).toNat)
  case atStart => exact ⟨0, Nat.zero_le _, rfl, rfl, (by first | rfl | trivial)⟩
  case round =>
    obtain ⟨z, hz, rfl, rfl, hwr⟩ := hrel
    have hwr' := hwr.symm
    clear hwr
    subst hwr'
    by_cases hlt : z < n
    · have hi : (z : Int) < (n : Int) := by omega
      have hbd := HH.out.2 z hlt
      have hms := mst_bd s n G HH.out.2 z hz
      obtain ⟨k, hk⟩ : ∃ k, k = mst s G z := ⟨_, rfl⟩
      obtain ⟨F, β, hC, h0, hm, hP⟩ := HH.out.1
      rcases hC with ⟨hn0, _⟩ | ⟨g, c', hv, hbg, hC⟩
      · omega
      simp only [Value.slice.injEq] at hv
      obtain ⟨ha, _, hc'⟩ := hv
      subst ha
      subst hc'
      obtain ⟨a1, a2, c1, c2, hF, o1, o2, k1, k2⟩ := hP z hlt
      simp only [mkP, marksI_length, marksB_length, ptl] at hF o1 o2
      obtain ⟨l1, hl1⟩ : ∃ l1, l1 = (G z).ws.length := ⟨_, rfl⟩
      obtain ⟨l2, hl2⟩ : ∃ l2, l2 = (G z).bs.length := ⟨_, rfl⟩
      have hcell := fun (j : Nat) (hj : j < 8) => hC.cell hlt hj
      simp only [hF, ← hk, ← hl1, ← hl2] at hcell
      have s1 := o1.sl.2
      have s2 := o2.sl.2
      rw [← hk, ← hl1] at s1
      rw [← hk, ← hl1, ← hl2] at s2
      rw [← hk] at hms ⊢
      obtain ⟨k5, hk5⟩ : ∃ k5 : Nat, k5 = k + 5 + l1 := ⟨_, rfl⟩
      rw [← hk5] at s2
      obtain ⟨k6, hk6⟩ : ∃ k6 : Nat, k6 = k5 + l2 := ⟨_, rfl⟩
      have HK : Hid (k ≤ 33048 ∧ l1 ≤ 2000 ∧ l2 ≤ 2000 ∧ k5 = k + 5 + l1 ∧ k6 = k5 + l2 ∧ k6 + 1 = mst s G (z + 1) ∧ SlI w a1 (marksI (k + 5) l1) ∧ SlB w a2 (marksB k5 l2)) := ⟨by omega, by omega, by omega, hk5, hk6, by simp only [mst, cP]; omega, s1, s2⟩
      have e0 : w.cell? ⟨g, z * 8, none⟩ = some (.int .i64 (k : Int)) := by have h9 := hcell 0 (by decide); simpa using h9
      have e1 : w.cell? ⟨g, z * 8 + 1, none⟩ = some (.int .i64 ((k : Int) + 1)) := by have h9 := hcell 1 (by decide); simpa using h9
      have e2 : w.cell? ⟨g, z * 8 + 2, none⟩ = some (.int .i64 ((k : Int) + 2)) := by have h9 := hcell 2 (by decide); simpa using h9
      have e3 : w.cell? ⟨g, z * 8 + 3, none⟩ = some (.int .i64 ((k : Int) + 3)) := by have h9 := hcell 3 (by decide); simpa using h9
      have e4 : w.cell? ⟨g, z * 8 + 4, none⟩ = some (.int .i64 ((k : Int) + 4)) := by have h9 := hcell 4 (by decide); simpa using h9
      have e5 : w.cell? ⟨g, z * 8 + 5, none⟩ = some (.slice a1 l1 c1) := by have h9 := hcell 5 (by decide); simpa using h9
      have e6 : w.cell? ⟨g, z * 8 + 6, none⟩ = some (.slice a2 l2 c2) := by have h9 := hcell 6 (by decide); simpa using h9
      have e7 : w.cell? ⟨g, z * 8 + 7, none⟩ = some (.int .i64 (k6 : Int)) := by have h9 := hcell 7 (by decide); rw [show (k : Int) + 5 + l1 + l2 = (k6 : Int) by omega] at h9; simpa using h9
      have v0 : IntKind.i64.wrap ((k : Int) + 1) = (k : Int) + 1 := by have := HK.out; rw [IntKind.wrap_i64]; omega
      have v1 : IntKind.i64.wrap ((k : Int) + 1 + 1) = (k : Int) + 2 := by have := HK.out; rw [IntKind.wrap_i64]; omega
      have v2 : IntKind.i64.wrap ((k : Int) + 2 + 1) = (k : Int) + 3 := by have := HK.out; rw [IntKind.wrap_i64]; omega
      have v3 : IntKind.i64.wrap ((k : Int) + 3 + 1) = (k : Int) + 4 := by have := HK.out; rw [IntKind.wrap_i64]; omega
      have v4 : IntKind.i64.wrap ((k : Int) + 4 + 1) = (k : Int) + 5 := by have := HK.out; rw [IntKind.wrap_i64]; omega
      have v6 : IntKind.i64.wrap ((k6 : Int) + 1) = (k6 : Int) + 1 := by have := HK.out; rw [IntKind.wrap_i64]; omega
      clear hC hbg h0 hm hP hF o1 o2 k1 k2 hbd hms hk hl1 hl2 hcell s1 s2 hk5 hk6
      go_wp2_with fail
      refine (heldIntS_at a1 l1 c1 (k + 5) _ _ (by omega) HK.out.2.2.2.2.2.2.1 (by have := HK.out; omega) (by have := HK.out; omega)).mono ?_
      rintro e w2 ⟨rfl, hw2⟩
      subst hw2
      have x5 : ((k + 5 : Nat) : Int) + (l1 : Int) = (k5 : Int) := by have := HK.out; omega
      rw [x5]
      have y5 : ¬ (k5 : Int) < 0 := by omega
      clear x5
      go_wp2_with fail
      refine (heldBoolS_from a2 l2 c2 k5 _ HK.out.2.2.2.2.2.2.2 (by have := HK.out; omega) (by have := HK.out; omega)).mono ?_
      rintro e w3 ⟨rfl, hw3⟩
      subst hw3
      have x6 : (k5 : Int) + (l2 : Int) = (k6 : Int) := by have := HK.out; omega
      rw [x6]
      have y6 : ¬ (k6 : Int) < 0 := by omega
      clear x6
      go_wp2
      go_roundw
      case rel => exact ⟨z + 1, by omega, by go_num, (by have := HK.out; congr 1; omega), (by first | rfl | trivial)⟩
      case measure => simp [intOf]; omega
    · have hi : ¬ (z : Int) < (n : Int) := by omega
      have e9 : z = n := by omega
      subst e9
      go_wp2
      go_ret
      exact ⟨rfl, rfl⟩

set_option maxRecDepth 20000 in
set_option maxHeartbeats 2000000 in
theorem markReq_g (kd pl nn wa : Int) (g1 g2 : Option Addr) (l1 l2 c1 c2 b s : Nat) (ws : List Int) (bs : List Bool) (w : World) (o1 : OwnI w b (.slice g1 l1 c1) ws) (o2 : OwnB w b (.slice g2 l2 c2) bs) (hl1 : l1 ≤ 1048576) (hl2 : l2 ≤ 1048576) (hs : s ≤ 7400000) :
    Calls Try.prog 30 #[.agg #[.int .i64 kd, .int .i64 pl, .int .i64 nn, .slice g1 l1 c1, .slice g2 l2 c2, .int .i64 wa], .int .i64 (s : Int)] w fun e w' => (∃ x : Nat, e = .returned (.int .i64 (x : Int))) ∧ ∃ u u1, Below w.heap.size w u ∧ u.grownBy u1 (Value.slice g1 l1 c1).ownBlock ∧ u1.grownBy w' (Value.slice g2 l2 c2).ownBlock := by
  obtain ⟨B, hB⟩ : ∃ B, B = w.heap.size := ⟨_, rfl⟩
  obtain ⟨W, hW⟩ : ∃ W, W = w.alloc (.cells #[.int .i64 kd, .int .i64 pl, .int .i64 nn, .slice g1 l1 c1, .slice g2 l2 c2, .int .i64 wa] 28) := ⟨_, rfl⟩
  have bW : Below w.heap.size w W := by rw [hW]; exact bel_alloc _ _
  have HW : Hid (Below w.heap.size w W ∧ Blk W B 28 #[.int .i64 kd, .int .i64 pl, .int .i64 nn, .slice g1 l1 c1, .slice g2 l2 c2, .int .i64 wa] ∧ OwnI W b (.slice g1 l1 c1) ws ∧ OwnB W b (.slice g2 l2 c2) bs) := ⟨bW, by rw [hW, hB]; exact Blk.new w _ _, o1.below bW, o2.below bW⟩
  clear bW o1 o2
  go_enter Try.func30, Try.ntmps30
  go_upto_region 1 with fail
  rw [← hW, ← hB]
  clear hW hB
  obtain ⟨⟨y0, y1, y2, y3, y4, y5⟩, _⟩ := HW.out.2.1.six2
  go_wp2_with fail
  refine (markIntS_from g1 l1 c1 b s ws _ HW.out.2.2.1 (by omega) (by omega)).mono ?_
  rintro e u1 ⟨rfl, m1, gg1⟩
  obtain ⟨x1, hx1⟩ : ∃ x1 : Nat, (x1 : Int) = (s : Int) + (l1 : Int) := ⟨s + l1, by omega⟩
  rw [← hx1]
  have HU : Hid (W.grownBy u1 (Value.slice g1 l1 c1).ownBlock ∧ OwnB u1 b (.slice g2 l2 c2) bs ∧ Blk u1 B 28 #[.int .i64 kd, .int .i64 pl, .int .i64 nn, .slice g1 l1 c1, .slice g2 l2 c2, .int .i64 wa] ∧ x1 ≤ 9000000) := ⟨gg1, HW.out.2.2.2.kept gg1 (ne_typesX HW.out.2.2.2 HW.out.2.2.1 (by decide)), HW.out.2.1.grown gg1 (row_noBlk HW.out.2.2.1 HW.out.2.1 (by decide)), by omega⟩
  clear m1 gg1 y0 y1 y2 y3 y4 y5 hx1
  obtain ⟨⟨y0, y1, y2, y3, y4, y5⟩, _⟩ := HU.out.2.2.1.six2
  go_wp2_with fail
  refine (markBoolS_from g2 l2 c2 b x1 bs _ HU.out.2.1 (by omega) (by have := HU.out; omega)).mono ?_
  rintro e u2 ⟨rfl, m2, gg2⟩
  obtain ⟨x2, hx2⟩ : ∃ x2 : Nat, (x2 : Int) = (x1 : Int) + (l2 : Int) := ⟨x1 + l2, by omega⟩
  rw [← hx2]
  have HV : Hid (u1.grownBy u2 (Value.slice g2 l2 c2).ownBlock) := gg2
  clear m2 gg2 y0 y1 y2 y3 y4 y5 hx2
  go_wp2
  go_ret
  exact ⟨⟨x2, rfl⟩, W, u1, HW.out.1, HU.out.1, HV.out⟩

end Go.Proofs.Ytaaokbmfpfmfgaa
