/- Answers out of bytes: the model, whole; the program's tests of many bits. -/
import Derived.Test.YtigcjiipoidmfaaDoorGB
import Derived.Test.YtigcjiipoidmfaaDoorGC
import Derived.Test.YtigcjiipoidmfaaDoorGE
namespace Go.Proofs.YtigcjiipoidmfaaDoor
open Go.RowKit

set_option linter.unusedVariables false

set_option linter.unusedSimpArgs false

set_option maxHeartbeats 1000000 in
theorem specGetA_none (a : Option Addr) (n cap : Nat) (zs : List Int) (w : World) (hn : n = zs.length) (h0 : zs.length = 0) :
    Calls Tryd.prog 13 #[.slice a n cap] w fun e w' => GPA w w' e 0 0 0 0 [] [] 1 := by
  obtain ⟨W0, hW0⟩ : ∃ W0, W0 = w.alloc (.cells #[.int .i64 0, .int .i64 0, .int .i64 0, .int .i64 0, .slice none 0 0, .slice none 0 0] 27) := ⟨_, rfl⟩
  have HW : Hid (W0 = _) := hW0
  have B0 : Below w.heap.size w W0 := by rw [hW0]; exact bel_alloc _ _
  have R0 : Blk W0 w.heap.size 27 #[.int .i64 0, .int .i64 0, .int .i64 0, .int .i64 0, .slice none 0 0, .slice none 0 0] := by rw [hW0]; exact Blk.new _ _ _
  have hz : (n : Int) = 0 := by omega
  obtain ⟨y0, y1, y2, y3, y4, y5⟩ := R0.six
  have fy := R0.fro
  clear hn h0 hW0 R0
  go_enter Tryd.func13, Tryd.ntmps13
  go_upto_region 1 with fail
  rw [← HW.out]
  go_wp2
  refine bodyPost_ret (v := .tuple #[rp 0 0 0 0 none none 0 0 0 0, .int .i64 1]) (by simp [results, Tryd.results13, go_sem, y0, y1, y2, y3, y4, y5]) rfl ?_
  exact gpa_zero (belp_set6 B0 (Nat.le_refl _))

set_option maxHeartbeats 4000000 in
theorem specGetA_nk (a : Option Addr) (n cap : Nat) (zs : List Int) (w : World) (hn : n = zs.length) (hs : Sl w a zs) (hr : ∀ z ∈ zs, 0 ≤ z ∧ z ≤ 255) (hl : n ≤ 1048576) (hp : 0 < zs.length) (y : Int) (hy : zs.getD 0 0 = y) (hkk : kindB (y % 128) = false) :
    Calls Tryd.prog 13 #[.slice a n cap] w fun e w' => GPA w w' e 0 0 0 0 [] [] 1 := by
  obtain ⟨W0, hW0⟩ : ∃ W0, W0 = w.alloc (.cells #[.int .i64 0, .int .i64 0, .int .i64 0, .int .i64 0, .slice none 0 0, .slice none 0 0] 27) := ⟨_, rfl⟩
  have HW : Hid (W0 = _) := hW0
  have B0 : Below w.heap.size w W0 := by rw [hW0]; exact bel_alloc _ _
  have R0 : Blk W0 w.heap.size 27 #[.int .i64 0, .int .i64 0, .int .i64 0, .int .i64 0, .slice none 0 0, .slice none 0 0] := by rw [hW0]; exact Blk.new _ _ _
  have hyr := get_range hr 0
  rw [hy] at hyr
  have hand : bits .and .u8 y 127 = y % 128 := by have h := and127 y.toNat (by omega); rw [show ((y.toNat : Nat) : Int) = y by omega] at h; exact h
  obtain ⟨m, hm⟩ : ∃ m, m = y % 128 := ⟨_, rfl⟩
  rw [← hm] at hand hkk
  have hmr : 0 ≤ m ∧ m < 128 := by omega
  obtain ⟨bk, off, ea, hbk, hc⟩ := cell_at hs hp
  rw [hy] at hc
  have hc0 : W0.cell? ⟨bk, off, none⟩ = some (.int .u8 y) := (B0.cell (p := ⟨bk, off, none⟩) hbk).trans (by simpa using hc)
  have hz : ¬ (n : Int) = 0 := by omega
  have hz0 : (0 : Int) < (n : Int) := by omega
  obtain ⟨y0, y1, y2, y3, y4, y5⟩ := R0.six
  have fy := R0.fro
  have HK : Hid (kindB m = false) := hkk
  subst ea
  clear hn hs hr hc hW0 hy hp hm hkk R0
  go_enter Tryd.func13, Tryd.ntmps13
  go_upto_region 1 with fail
  rw [← HW.out]
  go_wp2_with fail
  refine (l3Kind_any _ _ false (by first | exact HK.out | simpa using HK.out)).mono ?_
  rintro e wx ⟨rfl, rfl⟩
  go_wp2
  refine bodyPost_ret (v := .tuple #[rp 0 0 0 0 none none 0 0 0 0, .int .i64 1]) (by simp [results, Tryd.results13, go_sem, y0, y1, y2, y3, y4, y5]) rfl ?_
  first
    | exact gpa_zero (belp_set6 B0 (Nat.le_refl _))
    | exact gpa_zero B0

theorem specGetA_q (a : Option Addr) (n cap : Nat) (zs : List Int) (w : World) (hn : n = zs.length) (hs : Sl w a zs) (hr : ∀ z ∈ zs, 0 ≤ z ∧ z ≤ 255) (hl : n ≤ 1048576) (hcap : n ≤ cap) :
    Calls Tryd.prog 13 #[.slice a n cap] w fun e w' => GZ zs w w' e := by
  by_cases h0 : zs.length = 0
  · refine (specGetA_none a n cap zs w hn h0).mono fun e w' h => ?_
    unfold GZ; rw [if_pos (.inl h0)]; exact h
  · have hp : 0 < zs.length := by omega
    cases hkk : kindB (zs.getD 0 0 % 128)
    · refine (specGetA_nk a n cap zs w hn hs hr hl hp _ rfl hkk).mono fun e w' h => ?_
      unfold GZ; rw [if_pos (.inr hkk)]; exact h
    · have hb := get_range hr 0
      have hc : ¬ (zs.length = 0 ∨ kindB (zs.getD 0 0 % 128) = false) := by rw [hkk]; simp; exact fun h => h0 (by rw [h]; rfl)
      have hks := of_decide_eq_true hkk
      by_cases hf : 128 ≤ zs.getD 0 0
      · have hk : zs.getD 0 0 = (zs.getD 0 0 - 128) + 128 := by omega
        have hm : zs.getD 0 0 % 128 = zs.getD 0 0 - 128 := by omega
        rw [hm] at hkk
        by_cases h1 : 1 < n
        · refine (specGetA_f1 a n cap zs w hn hs hr hl hp hcap _ (zs.getD 1 0) hkk hk h1 rfl).mono fun e w' h => ?_
          unfold GZ; rw [if_neg hc, if_pos hf]; exact h
        · have hy : zs.getD 1 0 = 0 := by simp [List.getD_eq_getElem?_getD, List.getElem?_eq_none (show zs.length ≤ 1 by omega)]
          refine (specGetA_f0 a n cap zs w hn hs hr hl hp hcap _ hkk hk h1).mono fun e w' h => ?_
          unfold GZ; rw [if_neg hc, if_pos hf, hy]; exact h
      · have hm : zs.getD 0 0 % 128 = zs.getD 0 0 := by omega
        rw [hm] at hks
        have fin : ∀ (P : World → Ending → Prop), True := fun _ => trivial
        rcases hks with hk | hk | hk | hk | hk | hk | hk | hk | hk | hk
        · by_cases h2 : 2 < n
          · refine (specGetA_1b a n cap zs w hn hs hr hl hp hcap hk h2).mono fun e w' h => ?_
            unfold GZ; rw [if_neg hc, if_neg hf, if_pos (.inl hk), hk, ← hn]; exact h
          · refine (specGetA_1n a n cap zs w hn hs hr hl hp hcap hk h2).mono fun e w' h => ?_
            unfold GZ; rw [if_neg hc, if_neg hf, if_pos (.inl hk), hk, List.drop_eq_nil_of_le (by omega), outU_nil]; exact h
        · by_cases h2 : 2 < n
          · refine (specGetA_2b a n cap zs w hn hs hr hl hp hcap hk h2).mono fun e w' h => ?_
            unfold GZ; rw [if_neg hc, if_neg hf, if_pos (.inr hk), hk, ← hn]; exact h
          · refine (specGetA_2n a n cap zs w hn hs hr hl hp hcap hk h2).mono fun e w' h => ?_
            unfold GZ; rw [if_neg hc, if_neg hf, if_pos (.inr hk), hk, List.drop_eq_nil_of_le (by omega), outU_nil]; exact h
        · refine (specGetA_3 a n cap zs w hn hs hr hl hp hcap hk).mono fun e w' h => ?_
          unfold GZ; rw [if_neg hc, if_neg hf, if_neg (by omega), if_pos (by omega), hk]; exact h
        · refine (specGetA_4 a n cap zs w hn hs hr hl hp hcap hk).mono fun e w' h => ?_
          unfold GZ; rw [if_neg hc, if_neg hf, if_neg (by omega), if_pos (by omega), hk]; exact h
        · refine (specGetA_5 a n cap zs w hn hs hr hl hp hcap hk).mono fun e w' h => ?_
          unfold GZ; rw [if_neg hc, if_neg hf, if_neg (by omega), if_neg (by omega), if_pos hk]; exact enda5 h
        · refine (specGetA_6 a n cap zs w hn hs hr hl hp hcap hk).mono fun e w' h => ?_
          unfold GZ; rw [if_neg hc, if_neg hf, if_neg (by omega), if_neg (by omega), if_neg (by omega), if_pos (by omega), hk]; exact h
        · refine (specGetA_15 a n cap zs w hn hs hr hl hp hcap hk).mono fun e w' h => ?_
          unfold GZ; rw [if_neg hc, if_neg hf, if_neg (by omega), if_neg (by omega), if_neg (by omega), if_neg (by omega), hk]; exact h
        · refine (specGetA_16 a n cap zs w hn hs hr hl hp hcap hk).mono fun e w' h => ?_
          unfold GZ; rw [if_neg hc, if_neg hf, if_neg (by omega), if_neg (by omega), if_neg (by omega), if_neg (by omega), hk]; exact h
        · refine (specGetA_22 a n cap zs w hn hs hr hl hp hcap hk).mono fun e w' h => ?_
          unfold GZ; rw [if_neg hc, if_neg hf, if_neg (by omega), if_neg (by omega), if_neg (by omega), if_pos (by omega), hk]; exact h
        · refine (specGetA_23 a n cap zs w hn hs hr hl hp hcap hk).mono fun e w' h => ?_
          unfold GZ; rw [if_neg hc, if_neg hf, if_neg (by omega), if_pos (by omega), hk]; exact h

/-- The program's test of an answer that may have many bits. -/
theorem checkAnswer_w (kd fl pl nn : Int) (a1 a2 : Option Addr) (l1 l2 c1 c2 : Nat) (ws : List Int) (bs : List Bool) (w : World) (h1 : l1 = ws.length) (h2 : l2 = bs.length) (s1 : SlI w a1 ws) (s2 : SlB w a2 bs) (hl1 : ws.length ≤ 2000000) (hl2 : bs.length ≤ 20000000) (hw : bs.length ≤ 2000000 ∨ (fl = 0 ∧ (kd = 1 ∨ kd = 2))) :
    Calls Tryd.prog 27 #[rp kd fl pl nn a1 a2 l1 l2 c1 c2] w fun e w' => e = .returned (chk kd (okA kd fl pl nn ws l1 l2)) ∧ Below w.heap.size w w' := by
  by_cases hs : bs.length ≤ 2000000
  · exact checkAnswer_q kd fl pl nn a1 a2 l1 l2 c1 c2 ws bs w h1 h2 s1 s2 hl1 hs
  · obtain ⟨rfl, hk⟩ : fl = 0 ∧ (kd = 1 ∨ kd = 2) := hw.resolve_left hs
    have hkb : kindB kd = true := decide_eq_true (by omega)
    have hT : tB kd 0 pl nn ws l1 l2 = false := by
      have e : inB (l2 : Int) 1 2000 = false := decide_eq_false (by omega)
      rcases hk with rfl | rfl <;> simp [tB, e]
    have e : chk kd (okA kd 0 pl nn ws l1 l2) = ansE 3 := by rw [okA_told kd 0 pl nn ws l1 l2 h1 hkb, hT]; simp [chk, hkb]
    rw [e]
    exact checkAnswer_f kd 0 pl nn a1 a2 l1 l2 c1 c2 ws w h1 s1 hl1 (by omega) hkb hT

end Go.Proofs.YtigcjiipoidmfaaDoor
