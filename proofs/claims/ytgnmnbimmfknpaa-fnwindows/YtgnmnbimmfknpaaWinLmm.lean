/- The law of windows, walked. -/
import Derived.Test.YtgnmnbimmfknpaaWY
import Derived.Test.YtgnmnbimmfknpaaWX
namespace Go.Proofs.Ytgnmnbimmfknpaa
open Go.RowKit

set_option linter.unusedVariables false

set_option linter.unusedSimpArgs false

theorem win_slI (w : World) : SlI w none [] := by unfold SlI; simp

theorem win_slB (w : World) : SlB w none [] := by unfold SlB; simp

theorem win_ok {sp pl : Int} (h0 : 0 ≤ sp) (h3 : sp ≤ 3) (p0 : 0 ≤ pl) (p1 : pl ≤ 23) : okR (sp + 1) pl 1 0 [] 0 0 = true := by
  rcases (by omega : sp = 0 ∨ sp = 1 ∨ sp = 2 ∨ sp = 3) with rfl | rfl | rfl | rfl <;> simp [okR, allW, inB, okK, zrB, fitB] <;> omega

theorem win_spc {sp pl : Int} (h0 : 0 ≤ sp) (h3 : sp ≤ 3) (p0 : 0 ≤ pl) (p1 : pl ≤ 23) : spcV (okR (sp + 1) pl 1 0 [] 0 0) (sp + 1) pl 1 0 0 = .tuple #[.int .i64 sp, .int .i64 pl, .int .i64 1] := by
  rw [win_ok h0 h3 p0 p1]
  rcases (by omega : sp = 0 ∨ sp = 1 ∨ sp = 2 ∨ sp = 3) with rfl | rfl | rfl | rfl <;> rfl

set_option maxRecDepth 20000 in
set_option maxHeartbeats 4000000 in
theorem windows_law (a : Option Addr) (cap : Nat) (zs : List Int) (w : World) (hs : Sl w a zs) (hr : ∀ z ∈ zs, 0 ≤ z ∧ z ≤ 255) (hl : zs.length ≤ 1048576) :
    Calls Try.prog 3 #[.slice a zs.length cap] w fun e w' => e = .returned (.bool true) ∧ Below w.heap.size w w' := by
  have hl' : ¬ (1048576 : Int) < (zs.length : Int) := by omega
  go_enter Try.func3, Try.ntmps3
  go_wp2_with (first | (go_at_call 9; go_in) | fail)
  refine (drawRuleAt_any w a _ cap zs rfl hs hr hl).mono ?_
  rintro e w1 ⟨wd, va, vn, vc, un, sp, pl, rfl, hu1, hu3, hs0, hs3, hp0, hp23, hgd, V1⟩
  obtain ⟨hk25, hkc, C1, _, l, e1, S1, h64⟩ := V1.read
  obtain ⟨f, hf⟩ : ∃ f : Nat → Ru, f = fun i => l.getD i default := ⟨_, rfl⟩
  have HF : Hid (SlU w1 va vn f) := by show SlU _ _ _ _; rw [hf, e1]; exact S1
  have H64 : Hid (∀ k, k < vn → -9223372036854775808 ≤ (f k).sh ∧ (f k).sh ≤ 9223372036854775807) := by
    intro k hk
    have hk' : k < l.length := by omega
    have := h64 (f k) (by rw [hf]; simp [List.getD_eq_getElem?_getD, hk'])
    exact this
  have HB1 : Hid (Below w.heap.size w w1) := C1.bel
  clear V1 C1 e1 S1 h64 hf hs hr hgd
  go_wp2_with fail
  refine (implRuleAt_any va vn vc f un sp pl _ HF.out (by omega)).mono ?_
  rintro e w2 ⟨rfl, b2⟩
  have HF2 : Hid (SlU w2 va vn f) := SlS.below HF.out b2
  have HB2 : Hid (Below w.heap.size w w2) := bel_next HB1.out b2
  clear HF HB1 b2
  go_wp2_with fail
  refine (specRuleAt_any va vn vc f un sp pl _ HF2.out (by omega)).mono ?_
  rintro e w3 ⟨rfl, b3⟩
  have HF3 : Hid (SlU w3 va vn f) := SlS.below HF2.out b3
  have HB3 : Hid (Below w.heap.size w w3) := bel_next HB2.out b3
  clear HF2 HB2 b3
  obtain ⟨b, hb⟩ : ∃ b : Bool, b = true ↔ OkRs f vn := by
    by_cases h : OkRs f vn
    · exact ⟨true, by simp [h]⟩
    · exact ⟨false, by simp [h]⟩
  have HK : Hid (b = true ↔ OkRs f vn) := hb
  clear hb
  obtain ⟨kk, hkk⟩ : ∃ kk, kk = atR f vn un sp pl := ⟨_, rfl⟩
  rw [← hkk]
  have HKK : Hid (kk = atR f vn un sp pl) := hkk
  clear hkk
  go_wp2_with fail
  refine (specRulesOk_any va vn vc f _ HF3.out (by omega) b HK.out).mono ?_
  rintro e w4 ⟨rfl, b4⟩
  have HF4 : Hid (SlU w4 va vn f) := SlS.below HF3.out b4
  have HB4 : Hid (Below w.heap.size w w4) := bel_next HB3.out b4
  clear HF3 HB3 b4
  cases b with
  | false =>
    go_wp2_with fail
    refine (implRulesOk_any va vn vc f _ HF4.out (by omega) H64.out false HK.out).mono ?_
    rintro e w5 ⟨rfl, b5⟩
    have HB5 : Hid (Below w.heap.size w w5) := bel_next HB4.out b5
    clear HF4 HB4 b5
    go_wp2
    go_ret
    exact ⟨rfl, HB5.out⟩
  | true =>
    have HOK : Hid (OkRs f vn) := HK.out.1 rfl
    clear HK
    have hvn : vn ≤ 25 := hk25
    go_wp2
    go_loop [8, 9] (fun x i => ∃ k : Nat, k ≤ vn ∧ i = .int .i64 k ∧ x = .int .i64 (cntR f un sp pl k : Nat)) (fun _ i => vn - (intOf i).toNat)
    case atStart => exact ⟨0, Nat.zero_le _, rfl, rfl⟩
    case round =>
      obtain ⟨k, hk, rfl, rfl⟩ := hrel
      have hcl := cntR_le f un sp pl k
      by_cases hlt : k < vn
      · obtain ⟨b, off, rfl, hb0, c0, c1, c2, c3, c4, c5, c6⟩ := SlU.seven HF4.out hlt
        have hi : (k : Int) < (vn : Int) := by omega
        have HC : Hid (cntR f un sp pl (k + 1) = cntR f un sp pl k + (if hasR (f k) un sp pl = true then 1 else 0)) := rfl
        obtain ⟨cc, hcc⟩ : ∃ cc, cc = cntR f un sp pl k := ⟨_, rfl⟩
        rw [← hcc] at HC hcl ⊢
        clear hcc
        by_cases h1 : (f k).u = un
        · by_cases h2 : (f k).s = sp
          · by_cases h3 : (f k).lo ≤ pl
            · by_cases h4 : pl ≤ (f k).hi
              · have hh : hasR (f k) un sp pl = true := by simp [hasR, h1, h2, h3, h4]
                have HC' : Hid (cntR f un sp pl (k + 1) = cc + 1) := by show _ = _; rw [HC.out, if_pos hh]
                clear HC hh
                go_wp2
                go_round
                case rel => exact ⟨k + 1, by omega, by go_num, by rw [HC'.out]; go_num⟩
                case measure => simp [intOf]; omega
              · have hh : hasR (f k) un sp pl = false := by simp [hasR, h4]
                have HC' : Hid (cntR f un sp pl (k + 1) = cc) := by show _ = _; rw [HC.out, hh]; rfl
                clear HC hh
                go_wp2
                go_round
                case rel => exact ⟨k + 1, by omega, by go_num, by rw [HC'.out]⟩
                case measure => simp [intOf]; omega
            · have hh : hasR (f k) un sp pl = false := by simp [hasR, h3]
              have HC' : Hid (cntR f un sp pl (k + 1) = cc) := by show _ = _; rw [HC.out, hh]; rfl
              clear HC hh
              go_wp2
              go_round
              case rel => exact ⟨k + 1, by omega, by go_num, by rw [HC'.out]⟩
              case measure => simp [intOf]; omega
          · have hh : hasR (f k) un sp pl = false := by simp [hasR, h2]
            have HC' : Hid (cntR f un sp pl (k + 1) = cc) := by show _ = _; rw [HC.out, hh]; rfl
            clear HC hh
            go_wp2
            go_round
            case rel => exact ⟨k + 1, by omega, by go_num, by rw [HC'.out]⟩
            case measure => simp [intOf]; omega
        · have hh : hasR (f k) un sp pl = false := by simp [hasR, h1]
          have HC' : Hid (cntR f un sp pl (k + 1) = cc) := by show _ = _; rw [HC.out, hh]; rfl
          clear HC hh
          go_wp2
          go_round
          case rel => exact ⟨k + 1, by omega, by go_num, by rw [HC'.out]⟩
          case measure => simp [intOf]; omega
      · have hkn : k = vn := by omega
        subst hkn
        have hcell : [Value.int IntKind.i64 1, Value.int IntKind.i64 2, Value.int IntKind.i64 3, Value.int IntKind.i64 4][sp.toNat]? = some (.int .i64 (sp + 1)) := by
          rcases (by omega : sp = 0 ∨ sp = 1 ∨ sp = 2 ∨ sp = 3) with rfl | rfl | rfl | rfl <;> rfl
        obtain ⟨cn, hcn⟩ : ∃ cn, cn = cntR f un sp pl k := ⟨_, rfl⟩
        rw [← hcn]
        have HCN : Hid (cn = cntR f un sp pl k) := hcn
        clear hcl hlt hcn
        go_wp2_with fail
        obtain ⟨W, hW⟩ : ∃ W, W = w4.alloc (.cells #[.int .i64 1, .int .i64 2, .int .i64 3, .int .i64 4] 3) := ⟨_, rfl⟩
        have bW : Below w4.heap.size w4 W := by rw [hW]; exact bel_alloc w4 _
        rw [← hW]
        refine (implParts_read (sp + 1) (by omega) va k vc f un sp pl 1 0 none none 0 0 0 0 [] [] W (SlS.below HF4.out bW) H64.out HOK.out rfl rfl (win_slI W) (win_slB W) (by simp) (by simp) (win_ok hs0 hs3 hp0 hp23) (win_spc hs0 hs3 hp0 hp23) (by omega) (by omega)).mono ?_
        rintro e w5 ⟨v, ft, rfl, b5, hcase⟩
        have HB5 : Hid (Below w.heap.size w w5) := bel_next (bel_next HB4.out bW) b5
        have HF5 : Hid (SlU w5 va k f) := SlS.below (SlS.below HF4.out bW) b5
        clear HB4 HF4 bW b5 hW hcell
        rcases win_cases HOK.out un sp pl with ⟨ha, hc, hr⟩ | ⟨x, hx, ha, hc, hr, hu⟩
        · obtain rfl : kk = -1 := HKK.out.trans ha
          obtain rfl : cn = 0 := HCN.out.trans hc
          clear HKK HCN ha hc
          rcases hcase with ⟨_, rfl, rfl⟩ | ⟨_, _, rfl, rfl⟩ | ⟨_, l, h1, _⟩ | ⟨_, l, g, h1, _⟩
          · clear hr
            go_wp2
            go_ret
            exact ⟨rfl, HB5.out⟩
          · clear hr
            go_wp2
            go_ret
            exact ⟨rfl, HB5.out⟩
          · rw [hr] at h1; cases h1
          · rw [hr] at h1; cases h1
        · obtain rfl : kk = (x : Int) := HKK.out.trans ha
          obtain rfl : cn = 1 := HCN.out.trans hc
          clear HKK HCN ha hc
          rcases hcase with ⟨h0, _⟩ | ⟨_, h1, _⟩ | ⟨_, l, h1, h2, _⟩ | ⟨_, l, g, h1, _, rfl, R5, hg, rfl⟩
          · exact absurd ⟨x, hx, hu⟩ h0
          · rw [hr] at h1; cases h1
          · rw [hr] at h1; cases h1; simp at h2
          · rw [hr] at h1
            cases h1
            have R5' : RowS w5 g 39 8 1 (fun k => prl (sp + 1) ⟨f x, pl, 1⟩) := R5.congr (fun k hk => match k, hk with | 0, _ => rfl | k + 1, hk => absurd (show k + 1 < 1 from hk) (by omega))
            have d0 : w5.cell? ⟨g, 0, none⟩ = some (.int .i64 (f x).p) := R5'.cell (k := 0) (j := 0) (by decide) (by decide)
            have d1 : w5.cell? ⟨g, 1, none⟩ = some (.int .i64 (f x).t) := R5'.cell (k := 0) (j := 1) (by decide) (by decide)
            have d3 : w5.cell? ⟨g, 3, none⟩ = some (.int .i64 (pl + (f x).sh)) := R5'.cell (k := 0) (j := 3) (by decide) (by decide)
            have hglt := R5'.lt
            obtain ⟨b, off, rfl, hb0, c0, c1, c2, c3, c4, c5, c6⟩ := SlU.seven HF5.out hx
            have hxi : (x : Int) < (k : Int) := by omega
            have hsh : -65535 ≤ (f x).sh ∧ (f x).sh ≤ 65535 := by
              have := HOK.out.2.1 x hx
              unfold OkRu at this
              omega
            obtain ⟨hsh1, hsh2⟩ := hsh
            clear hr R5 R5' hu
            go_wp2
            go_quiet (fail)
            go_wp2
            go_ret
            exact ⟨rfl, by first | exact HB5.out | exact bel_drewN HB5.out _⟩

set_option maxRecDepth 20000 in
set_option maxHeartbeats 1000000 in
theorem windows_big (a : Option Addr) (cap : Nat) (zs : List Int) (w : World) (hbig : (1048576 : Int) < (zs.length : Int)) :
    Calls Try.prog 3 #[.slice a zs.length cap] w fun e w' => e = .returned (.bool true) ∧ Below w.heap.size w w' := by
  go_enter Try.func3, Try.ntmps3
  go_wp2
  go_ret
  exact ⟨rfl, Below.refl _ _⟩

end Go.Proofs.Ytgnmnbimmfknpaa
