/- GetResp of the program. -/
import Derived.Test.YtoofkikenfgbpaaDoorGD
import Derived.Test.YtoofkikenfgbpaaDoorGC
import Derived.Test.YtoofkikenfgbpaaDoorGE
namespace Go.Proofs.YtoofkikenfgbpaaDoor
open Go.RowKit

set_option linter.unusedVariables false

set_option linter.unusedSimpArgs false

theorem neqE_if (T : TypeId) (v : Value) (w : World) : (binOp .neq 70 (.iface T v) .nilIface).run Tryd.prog w = .ok (.bool true) w := by kernel_rfl

theorem neqE_nil (w : World) : (binOp .neq 70 .nilIface .nilIface).run Tryd.prog w = .ok (.bool false) w := by kernel_rfl

theorem okA_kind {k fl pl nn : Int} {ws : List Int} {l1 l2 : Nat} (h : okA k fl pl nn ws l1 l2 = true) : kindB k = true := by
  unfold okA at h; simp only [Bool.and_eq_true] at h; exact h.1

theorem okA_fl {k fl pl nn : Int} {ws : List Int} {l1 l2 : Nat} (h : okA k fl pl nn ws l1 l2 = true) : 0 ≤ fl ∧ fl ≤ 255 := by
  unfold okA at h; simp only [Bool.and_eq_true] at h; have := inB_yes h.2.1; omega

theorem okA_small {k fl pl nn : Int} {ws : List Int} {bs : List Bool} (h : okA k fl pl nn ws ws.length bs.length = true) : ws.length ≤ 2000 ∧ bs.length ≤ 2000 :=
  isA_small (zs := putA k fl pl nn ws bs) (by unfold isA; rw [h, decide_eq_true rfl]; rfl)

theorem putA_pos (k fl pl nn : Int) (ws : List Int) (bs : List Bool) : 0 < (putA k fl pl nn ws bs).length := by
  unfold putA
  split
  · split
    · simp
    · split
      · simp
      · split
        · simp
        · split
          · simp
          · simp
  · simp

theorem putA_rg (k fl pl nn : Int) (ws : List Int) (bs : List Bool) (hb : okA k fl pl nn ws ws.length bs.length = true) : ∀ z ∈ putA k fl pl nn ws bs, 0 ≤ z ∧ z ≤ 255 := by
  have hk := of_decide_eq_true (okA_kind hb)
  have hf := okA_fl hb
  intro z hz
  unfold putA at hz
  have hw := wbs_rg
  have hp := packL_rg bs
  split at hz
  · split at hz
    · rcases List.mem_append.mp hz with h | h
      · simp at h; omega
      · exact hp z h
    · split at hz
      · rcases List.mem_append.mp hz with h | h
        · simp at h; omega
        · exact hw _ z h
      · split at hz
        · rcases List.mem_cons.mp hz with h | h
          · omega
          · exact hw _ z h
        · split at hz
          · rcases List.mem_cons.mp hz with h | h
            · omega
            · exact hw _ z h
          · rcases List.mem_cons.mp hz with h | h
            · omega
            · exact hw _ z h
  · simp at hz; omega

set_option maxRecDepth 20000 in
set_option maxHeartbeats 4000000 in
theorem toldIn_f (a : Option Addr) (n cap : Nat) (zs : List Int) (w : World) (hn : n = zs.length) (hs : Sl w a zs) (hr : ∀ z ∈ zs, 0 ≤ z ∧ z ≤ 255) (hl : n ≤ 1048576) (hp : 0 < zs.length) (k y : Int) (h0 : 0 ≤ k) (hk : zs.getD 0 0 = k + 128)
    (hf : ∀ u, Below w.heap.size w u → Calls Tryd.prog 85 #[.slice a n cap] u fun e u' => TR u u' e k y 0 0 [] []) :
    Calls Tryd.prog 64 #[.slice a n cap] w fun e w' => TR w w' e k y 0 0 [] [] := by
  have hk0 : 0 ≤ k ∧ k < 128 := by have := get_range hr 0; omega
  obtain ⟨W0, hW0⟩ : ∃ W0, W0 = w.alloc (.cells #[.int .i64 0, .int .i64 0, .int .i64 0, .int .i64 0, .slice none 0 0, .slice none 0 0] 46) := ⟨_, rfl⟩
  have HW : Hid (W0 = _) := hW0
  have b0 : Below w.heap.size w W0 := by rw [hW0]; exact bel_alloc _ _
  have R0 : Blk W0 w.heap.size 46 #[.int .i64 0, .int .i64 0, .int .i64 0, .int .i64 0, .slice none 0 0, .slice none 0 0] := by rw [hW0]; exact Blk.new _ _ _
  obtain ⟨bk, off, ea, hbk, hc⟩ := cell_at hs hp
  rw [hk] at hc
  have hc0 : (w.alloc (.cells #[.int .i64 0, .int .i64 0, .int .i64 0, .int .i64 0, .slice none 0 0, .slice none 0 0] 46)).cell? ⟨bk, off, none⟩ = some (.int .u8 (k + 128)) := ((bel_alloc w _).cell (p := ⟨bk, off, none⟩) hbk).trans (by simpa using hc)
  have hz0 : (0 : Int) < (n : Int) := by omega
  have hz1 : 0 < n := by omega
  have g128 : (128 : Int) ≤ k + 128 := by omega
  have hF : Hid (∀ u, Below w.heap.size w u → Calls Tryd.prog 85 #[.slice a n cap] u fun e u' => TR u u' e k y 0 0 [] []) := hf
  subst ea
  clear hn hs hr hc hW0 hk hp hf
  go_enter Tryd.func64, Tryd.ntmps64
  go_wp2_with fail
  rw [← HW.out]
  refine (hF.out W0 b0).mono ?_
  rintro e w1 ⟨a1, a2, l1, l2, c1, c2, rfl, e1, e2, i1, j1, b'⟩
  have HE : Hid (l1 = ([] : List Int).length ∧ l2 = ([] : List Bool).length) := ⟨e1, e2⟩
  have R1 := R0.below b'
  have HB : Hid (Below w.heap.size w w1 ∧ OwnI w1 W0.heap.size (.slice a1 l1 c1) [] ∧ OwnB w1 W0.heap.size (.slice a2 l2 c2) [] ∧ Blk w1 w.heap.size 46 #[.int .i64 0, .int .i64 0, .int .i64 0, .int .i64 0, .slice none 0 0, .slice none 0 0]) := ⟨bel_next b0 b', i1, j1, R1⟩
  have hz' : w.heap.size ≤ W0.heap.size := b0.size
  obtain ⟨y0, y1, y2, y3, y4, y5⟩ := R1.six
  have fy := R1.fro
  clear hc0 e1 e2 i1 j1 b' R0 R1 b0
  go_wp2
  refine bodyPost_ret (v := rp k y 0 0 a1 a2 l1 l2 c1 c2) (by simp [results, Tryd.results64, go_sem, y0, y1, y2, y3, y4, y5]) rfl ?_
  obtain ⟨BE, OI, OB, RE⟩ := HB.out
  exact ⟨_, _, _, _, _, _, rfl, HE.out.1, HE.out.2, rowp_set6 (OwnI.mono OI hz') ⟨_, RE⟩ (by decide), rowp_set6 (OwnB.mono OB hz') ⟨_, RE⟩ (by decide), belp_set6 BE (Nat.le_refl _)⟩

/-- What answerIn ends with. -/
def AY (w w' : World) (e : Ending) (k fl pl nn : Int) (ws : List Int) (bs : List Bool) : Prop :=
  ∃ a1 a2 l1 l2 c1 c2, e = .returned (.tuple #[rp k fl pl nn a1 a2 l1 l2 c1 c2, .nilIface]) ∧ l1 = ws.length ∧ l2 = bs.length ∧ OwnI w' w.heap.size (.slice a1 l1 c1) ws ∧ OwnB w' w.heap.size (.slice a2 l2 c2) bs ∧ Below w.heap.size w w'

def AN (w w' : World) (e : Ending) (c : Int) : Prop := e = .returned (.tuple #[rp 0 0 0 0 none none 0 0 0 0, ansE c]) ∧ Below w.heap.size w w'

def AE (k fl pl nn : Int) (ws : List Int) (bs : List Bool) (zs : List Int) (w w' : World) (e : Ending) : Prop := if isA k fl pl nn ws bs zs = true then AY w w' e k fl pl nn ws bs else AN w w' e (bif kindB k then 3 else 1)

set_option maxRecDepth 20000 in
set_option maxHeartbeats 4000000 in
theorem answerIn_0 (a : Option Addr) (cap : Nat) (w : World) :
    Calls Tryd.prog 43 #[.slice a 0 cap] w fun e w' => AN w w' e 1 := by
  go_enter Tryd.func43, Tryd.ntmps43
  go_wp2
  refine bodyPost_ret (v := .tuple #[rp 0 0 0 0 none none 0 0 0 0, ansE 1]) (by simp [results, Tryd.results43, go_sem]) rfl ?_
  exact ⟨rfl, bel_alloc _ _⟩

set_option maxRecDepth 20000 in
set_option maxHeartbeats 4000000 in
theorem answerIn_of (a : Option Addr) (n cap : Nat) (zs : List Int) (w : World) (hn : n = zs.length) (hs : Sl w a zs) (hr : ∀ z ∈ zs, 0 ≤ z ∧ z ≤ 255) (hl : n ≤ 1048576) (hp : 0 < zs.length) (k fl pl nn : Int) (ws : List Int) (bs : List Bool) (hl1 : ws.length ≤ 2000000) (hl2 : bs.length ≤ 20000000) (hw : bs.length ≤ 2000000 ∨ (fl = 0 ∧ (k = 1 ∨ k = 2)))
    (hf : ∀ u, Below w.heap.size w u → Calls Tryd.prog 64 #[.slice a n cap] u fun e u' => TR u u' e k fl pl nn ws bs) :
    Calls Tryd.prog 43 #[.slice a n cap] w fun e w' => AE k fl pl nn ws bs zs w w' e := by
  obtain ⟨W0, hW0⟩ : ∃ W0, W0 = w.alloc (.cells #[.int .i64 0, .int .i64 0, .int .i64 0, .int .i64 0, .slice none 0 0, .slice none 0 0] 46) := ⟨_, rfl⟩
  have HW : Hid (W0 = _) := hW0
  have b0 : Below w.heap.size w W0 := by rw [hW0]; exact bel_alloc _ _
  have R0 : Blk W0 w.heap.size 46 #[.int .i64 0, .int .i64 0, .int .i64 0, .int .i64 0, .slice none 0 0, .slice none 0 0] := by rw [hW0]; exact Blk.new _ _ _
  have hF : Hid (∀ u, Below w.heap.size w u → Calls Tryd.prog 64 #[.slice a n cap] u fun e u' => TR u u' e k fl pl nn ws bs) := hf
  have HS : Hid (n = zs.length ∧ Sl w a zs ∧ (∀ z ∈ zs, 0 ≤ z ∧ z ≤ 255) ∧ 0 < zs.length) := ⟨hn, hs, hr, hp⟩
  have HL : Hid (ws.length ≤ 2000000 ∧ bs.length ≤ 20000000 ∧ (bs.length ≤ 2000000 ∨ (fl = 0 ∧ (k = 1 ∨ k = 2)))) := ⟨hl1, hl2, hw⟩
  have hn0 : ((n : Int) == 0) = false := by simp; omega
  have hn1 : ¬ n = 0 := by omega
  clear hn hs hr hp hl1 hl2 hw hf hW0
  go_enter Tryd.func43, Tryd.ntmps43
  go_wp2_with fail
  rw [← HW.out]
  refine (hF.out W0 b0).mono ?_
  rintro e w1 ⟨a1, a2, l1, l2, c1, c2, rfl, e1, e2, i1, j1, b'⟩
  have HE : Hid (l1 = ws.length ∧ l2 = bs.length) := ⟨e1, e2⟩
  have b1 := bel_next b0 b'
  have R1 := R0.below b'
  have hz0 : w.heap.size ≤ W0.heap.size := b0.size
  have i1' := OwnI.mono i1 hz0
  have j1' := OwnB.mono j1 hz0
  clear e1 e2 b' b0 R0 i1 j1
  have q := bel_alloc w1 (.cells #[.int .i64 k, .int .i64 fl, .int .i64 pl, .int .i64 nn, .slice a1 l1 c1, .slice a2 l2 c2] 46)
  have X2 := Blk.new w1 #[.int .i64 k, .int .i64 fl, .int .i64 pl, .int .i64 nn, .slice a1 l1 c1, .slice a2 l2 c2] 46
  obtain ⟨x0, x1, x2, x3, x4, x5⟩ := X2.six
  obtain ⟨w2, hw2⟩ : ∃ x, x = w1.alloc (.cells #[.int .i64 k, .int .i64 fl, .int .i64 pl, .int .i64 nn, .slice a1 l1 c1, .slice a2 l2 c2] 46) := ⟨_, rfl⟩
  obtain ⟨gX, hgX⟩ : ∃ x, x = w1.heap.size := ⟨_, rfl⟩
  have HW2 : Hid (w2 = _) := hw2
  have HGX : Hid (gX = w1.heap.size) := hgX
  rw [← hw2] at q X2
  rw [← hgX] at X2
  have hRX : w.heap.size < gX := by have := R1.lt; omega
  have b2 := bel_next b1 q
  have R2 := R1.below q
  have i2 := i1'.below q
  have j2 := j1'.below q
  clear hw2 hgX q b1 R1 i1' j1'
  go_wp2_with fail
  rw [← HW2.out]
  simp only [← HGX.out]
  refine (checkAnswer_w k fl pl nn a1 a2 l1 l2 c1 c2 ws bs _ HE.out.1 HE.out.2 i2.sl.2 j2.sl.2 HL.out.1 HL.out.2.1 HL.out.2.2).mono ?_
  rintro e w3 ⟨rfl, b'⟩
  have b3 := bel_next b2 b'
  have R3 := R2.below b'
  have X3 := X2.below b'
  have i3 := i2.below b'
  have j3 := j2.below b'
  clear b' b2 R2 X2 i2 j2 x0 x1 x2 x3 x4 x5
  obtain ⟨x0, x1, x2, x3, x4, x5⟩ := X3.six
  obtain ⟨r0, r1, r2, r3, r4, r5⟩ := R3.six
  have fr := R3.fro
  have q1 := neqE_if
  have q2 := neqE_nil
  cases hok : okA k fl pl nn ws l1 l2
  · have hA : isA k fl pl nn ws bs zs = false := by unfold isA; rw [← HE.out.1, ← HE.out.2, hok]; rfl
    have hC : chk k false = ansE (bif kindB k then 3 else 1) := by unfold chk; cases kindB k <;> rfl
    have HA : Hid (isA k fl pl nn ws bs zs = false) := hA
    rw [hC]
    obtain ⟨cd, hcd⟩ : ∃ cd, cd = (bif kindB k then (3 : Int) else 1) := ⟨_, rfl⟩
    have HCD : Hid (cd = (bif kindB k then (3 : Int) else 1)) := hcd
    rw [← hcd]
    have HB : Hid (Below w.heap.size w w3) := b3
    clear b3 X3 R3 i3 j3 hok hA hC hcd
    go_wp2
    refine bodyPost_ret (v := .tuple #[rp 0 0 0 0 none none 0 0 0 0, ansE cd]) (by simp [results, Tryd.results43, go_sem, r0, r1, r2, r3, r4, r5]) rfl ?_
    unfold AE
    rw [HA.out, ← HCD.out, if_neg (by simp)]
    exact ⟨rfl, belp_set6 HB.out (Nat.le_refl _)⟩
  · have hC : chk k true = .nilIface := rfl
    rw [hC]
    have hok' : okA k fl pl nn ws ws.length bs.length = true := by rw [← HE.out.1, ← HE.out.2]; exact hok
    have hsm := okA_small hok'
    have HP : Hid (0 < (putA k fl pl nn ws bs).length ∧ (∀ z ∈ putA k fl pl nn ws bs, 0 ≤ z ∧ z ≤ 255)) := ⟨putA_pos _ _ _ _ _ _, putA_rg _ _ _ _ _ _ hok'⟩
    have HOK : Hid (okA k fl pl nn ws l1 l2 = true ∧ okA k fl pl nn ws ws.length bs.length = true) := ⟨hok, hok'⟩
    have HSm : Hid (ws.length ≤ 2000000 ∧ bs.length ≤ 2000000) := by show _ ∧ _; omega
    clear hsm hok hok' hC
    go_wp2_with fail
    refine (putAns_q k fl pl nn a1 a2 l1 l2 c1 c2 ws bs _ HE.out.1 HE.out.2 i3.sl.2 j3.sl.2 HSm.out.1 HSm.out.2 HOK.out.1).mono ?_
    rintro e w4 ⟨gP, cP, nP, rfl, hnP, oP, b'⟩
    have HNP : Hid (nP = (putA k fl pl nn ws bs).length) := hnP
    have b4 := bel_next b3 b'
    have R4 := R3.below b'
    have X4 := X3.below b'
    have i4 := i3.below b'
    have j4 := j3.below b'
    have S4 : Hid (Sl w4 a zs) := HS.out.2.1.below b4
    clear b' b3 R3 X3 i3 j3 hnP x0 x1 x2 x3 x4 x5 r0 r1 r2 r3 r4 r5 fr
    obtain ⟨x0, x1, x2, x3, x4, x5⟩ := X4.six
    obtain ⟨r0, r1, r2, r3, r4, r5⟩ := R4.six
    have fr := R4.fro
    go_wp2_with fail
    refine (bytesEqual_any _ _ _ _ _ _ (putA k fl pl nn ws bs) zs _ HNP.out HS.out.1 oP.sl.2 S4.out HP.out.1 HS.out.2.2.2 HP.out.2 HS.out.2.2.1 _ rfl).mono ?_
    rintro e w5 ⟨rfl, e5⟩
    have e5 := e5.symm
    subst e5
    have HB : Hid (Below w.heap.size w w4 ∧ OwnI w4 w.heap.size (.slice a1 l1 c1) ws ∧ OwnB w4 w.heap.size (.slice a2 l2 c2) bs ∧ Blk w4 w.heap.size 46 #[.int .i64 0, .int .i64 0, .int .i64 0, .int .i64 0, .slice none 0 0, .slice none 0 0]) := ⟨b4, i4, j4, R4⟩
    clear b4 i4 j4 R4 X4 oP S4
    cases hq : decide (putA k fl pl nn ws bs = zs)
    · have HA : Hid (isA k fl pl nn ws bs zs = false) := by show _ = _; unfold isA; rw [hq, Bool.and_false]
      have HKK : Hid (kindB k = true) := okA_kind HOK.out.1
      clear hq
      go_wp2
      refine bodyPost_ret (v := .tuple #[rp 0 0 0 0 none none 0 0 0 0, ansE 3]) (by simp [results, Tryd.results43, go_sem, r0, r1, r2, r3, r4, r5]) rfl ?_
      unfold AE
      rw [HA.out, HKK.out, if_neg (by simp)]
      exact ⟨rfl, belp_set6 HB.out.1 (Nat.le_refl _)⟩
    · have HA : Hid (isA k fl pl nn ws bs zs = true) := by show _ = _; unfold isA; rw [hq, HOK.out.2]; rfl
      clear hq
      go_wp2
      refine bodyPost_ret (v := .tuple #[rp k fl pl nn a1 a2 l1 l2 c1 c2, .nilIface]) (by simp [results, Tryd.results43, go_sem, r0, r1, r2, r3, r4, r5]) rfl ?_
      unfold AE
      rw [HA.out, if_pos rfl]
      obtain ⟨BE, OI, OB, RE⟩ := HB.out
      exact ⟨_, _, _, _, _, _, rfl, HE.out.1, HE.out.2, rowp_set6 OI ⟨_, RE⟩ (by decide), rowp_set6 OB ⟨_, RE⟩ (by decide), belp_set6 BE (Nat.le_refl _)⟩

set_option maxRecDepth 20000 in
set_option maxHeartbeats 4000000 in
theorem getA_yes (a : Option Addr) (n cap : Nat) (w : World) (k fl pl nn : Int) (ws : List Int) (bs : List Bool) (hf : ∀ u, Below w.heap.size w u → Calls Tryd.prog 43 #[.slice a n cap] u fun e u' => AY u u' e k fl pl nn ws bs) :
    Calls Tryd.prog 20 #[.slice a n cap] w fun e w' => GPA w w' e k fl pl nn ws bs 0 := by
  have hF : Hid (∀ u, Below w.heap.size w u → Calls Tryd.prog 43 #[.slice a n cap] u fun e u' => AY u u' e k fl pl nn ws bs) := hf
  clear hf
  obtain ⟨W0, hW0⟩ : ∃ W0, W0 = w.alloc (.cells #[.int .i64 0, .int .i64 0, .int .i64 0, .int .i64 0, .slice none 0 0, .slice none 0 0] 46) := ⟨_, rfl⟩
  have HW : Hid (W0 = _) := hW0
  have b0 : Below w.heap.size w W0 := by rw [hW0]; exact bel_alloc _ _
  have R0 : Blk W0 w.heap.size 46 #[.int .i64 0, .int .i64 0, .int .i64 0, .int .i64 0, .slice none 0 0, .slice none 0 0] := by rw [hW0]; exact Blk.new _ _ _
  clear hW0
  go_enter Tryd.func20, Tryd.ntmps20
  go_wp2_with fail
  rw [← HW.out]
  refine (hF.out W0 b0).mono ?_
  rintro e w1 ⟨a1, a2, l1, l2, c1, c2, rfl, e1, e2, i1, j1, b'⟩
  have HE : Hid (l1 = ws.length ∧ l2 = bs.length) := ⟨e1, e2⟩
  have b1 := bel_next b0 b'
  have R1 := R0.below b'
  have hz0 : w.heap.size ≤ W0.heap.size := b0.size
  obtain ⟨w2, hw2⟩ : ∃ x, x = (w1.alloc (.cells #[.int .i64 k, .int .i64 fl, .int .i64 pl, .int .i64 nn, .slice a1 l1 c1, .slice a2 l2 c2] 46)).alloc (.cells #[.int .i64 0] 75) := ⟨_, rfl⟩
  have HW2 : Hid (w2 = _) := hw2
  have q : Below w1.heap.size w1 w2 := by rw [hw2]; exact bel_next (bel_alloc _ _) (bel_alloc _ _)
  have X2 : Blk w2 w1.heap.size 46 #[.int .i64 k, .int .i64 fl, .int .i64 pl, .int .i64 nn, .slice a1 l1 c1, .slice a2 l2 c2] := by rw [hw2]; exact (Blk.new w1 _ _).below (bel_alloc _ _)
  have T2 : Blk w2 (w1.heap.size + 1) 75 #[.int .i64 0] := by rw [hw2]; have := Blk.new (w1.alloc (.cells #[.int .i64 k, .int .i64 fl, .int .i64 pl, .int .i64 nn, .slice a1 l1 c1, .slice a2 l2 c2] 46)) #[.int .i64 0] 75; simpa using this
  have b2 := bel_next b1 q
  have R2 := R1.below q
  have hRl := R1.lt
  have i2 := (OwnI.mono i1 hz0).below q
  have j2 := (OwnB.mono j1 hz0).below q
  clear hw2 q b1 R1 e1 e2 i1 j1 b' b0 R0
  go_wp2_with fail
  rw [← HW2.out]
  refine (as_nil _ _).mono ?_
  rintro e w3 ⟨rfl, e3⟩
  have e3 := e3.symm
  subst e3
  have HB : Hid (Below w.heap.size w w2 ∧ OwnI w2 w.heap.size (.slice a1 l1 c1) ws ∧ OwnB w2 w.heap.size (.slice a2 l2 c2) bs ∧ Blk w2 w.heap.size 46 #[.int .i64 0, .int .i64 0, .int .i64 0, .int .i64 0, .slice none 0 0, .slice none 0 0]) := ⟨b2, i2, j2, R2⟩
  obtain ⟨x0, x1, x2, x3, x4, x5⟩ := X2.six
  obtain ⟨r0, r1, r2, r3, r4, r5⟩ := R2.six
  have fr := R2.fro
  have d1 : ¬ w1.heap.size = w.heap.size := by omega
  have d2 : ¬ w.heap.size = w1.heap.size := by omega
  clear b2 i2 j2 R2 X2 T2
  go_wp2
  refine bodyPost_ret (v := .tuple #[rp k fl pl nn a1 a2 l1 l2 c1 c2, .int .i64 0]) (by simp [results, Tryd.results20, go_sem, r0, r1, r2, r3, r4, r5]) rfl ?_
  obtain ⟨BE, OI, OB, RE⟩ := HB.out
  exact ⟨_, _, _, _, _, _, rfl, HE.out.1, HE.out.2, rowp_set6 OI ⟨_, RE⟩ (by decide), rowp_set6 OB ⟨_, RE⟩ (by decide), belp_set6 BE (Nat.le_refl _)⟩

set_option maxRecDepth 20000 in
set_option maxHeartbeats 4000000 in
theorem getA_no (a : Option Addr) (n cap : Nat) (w : World) (cd : Int) (hE : Eh w) (hf : ∀ u, Below w.heap.size w u → Calls Tryd.prog 43 #[.slice a n cap] u fun e u' => AN u u' e cd) :
    Calls Tryd.prog 20 #[.slice a n cap] w fun e w' => GPA w w' e 0 0 0 0 [] [] cd := by
  have hF : Hid (∀ u, Below w.heap.size w u → Calls Tryd.prog 43 #[.slice a n cap] u fun e u' => AN u u' e cd) := hf
  clear hf
  obtain ⟨W0, hW0⟩ : ∃ W0, W0 = w.alloc (.cells #[.int .i64 0, .int .i64 0, .int .i64 0, .int .i64 0, .slice none 0 0, .slice none 0 0] 46) := ⟨_, rfl⟩
  have HW : Hid (W0 = _) := hW0
  have b0 : Below w.heap.size w W0 := by rw [hW0]; exact bel_alloc _ _
  have R0 : Blk W0 w.heap.size 46 #[.int .i64 0, .int .i64 0, .int .i64 0, .int .i64 0, .slice none 0 0, .slice none 0 0] := by rw [hW0]; exact Blk.new _ _ _
  clear hW0
  go_enter Tryd.func20, Tryd.ntmps20
  go_wp2_with fail
  rw [← HW.out]
  refine (hF.out W0 b0).mono ?_
  rintro e w1 ⟨rfl, b'⟩
  have b1 := bel_next b0 b'
  have R1 := R0.below b'
  have hz0 : w.heap.size ≤ W0.heap.size := b0.size
  obtain ⟨w2, hw2⟩ : ∃ x, x = (w1.alloc (.cells #[.int .i64 0, .int .i64 0, .int .i64 0, .int .i64 0, .slice none 0 0, .slice none 0 0] 46)).alloc (.cells #[.int .i64 0] 75) := ⟨_, rfl⟩
  have HW2 : Hid (w2 = _) := hw2
  have q : Below w1.heap.size w1 w2 := by rw [hw2]; exact bel_next (bel_alloc _ _) (bel_alloc _ _)
  have X2 : Blk w2 w1.heap.size 46 #[.int .i64 0, .int .i64 0, .int .i64 0, .int .i64 0, .slice none 0 0, .slice none 0 0] := by rw [hw2]; exact (Blk.new w1 _ _).below (bel_alloc _ _)
  have T2 : Blk w2 (w1.heap.size + 1) 75 #[.int .i64 0] := by rw [hw2]; have := Blk.new (w1.alloc (.cells #[.int .i64 0, .int .i64 0, .int .i64 0, .int .i64 0, .slice none 0 0, .slice none 0 0] 46)) #[.int .i64 0] 75; simpa using this
  have b2 := bel_next b1 q
  have R2 := R1.below q
  have hRl := R1.lt
  have E2 : Hid (Eh w2) := (hE.below b2)
  clear hw2 q b1 R1 b' b0 R0 hE
  go_wp2_with fail
  rw [← HW2.out]
  have t0 : w2.cell? ⟨w1.heap.size + 1, 0, none⟩ = some (.int .i64 0) := T2.cell 0 rfl
  refine (as_hit cd ⟨w1.heap.size + 1, 0, none⟩ (.int .i64 0) _ E2.out t0 (T2.fro 0)).mono ?_
  rintro e w3 ⟨rfl, e3⟩
  obtain ⟨V, hV⟩ : ∃ V, V = (((w2.alloc (.cells #[.pointer (some ⟨w1.heap.size + 1, 0, none⟩)] 77)).alloc (.cells #[.pointer (some ⟨2, 77, none⟩), .pointer (some ⟨w2.heap.size, 0, none⟩), .int .u64 150] 101)).alloc (.cells #[.pointer (some ⟨2, 77, none⟩), .pointer (some ⟨w2.heap.size, 0, none⟩), .int .u64 150] 101)).alloc (.cells #[.int .i64 cd] 75) := ⟨_, rfl⟩
  rw [← hV] at e3
  have qv : Below w2.heap.size w2 V := by rw [hV]; exact bel_next (bel_next (bel_next (bel_alloc _ _) (bel_alloc _ _)) (bel_alloc _ _)) (bel_alloc _ _)
  have R3 : Blk w3 w.heap.size 46 #[.int .i64 0, .int .i64 0, .int .i64 0, .int .i64 0, .slice none 0 0, .slice none 0 0] := by rw [e3]; exact (R2.below qv).setNe (by omega)
  have T3 : Blk w3 (w1.heap.size + 1) 75 #[.int .i64 cd] := by rw [e3]; have := (T2.below qv).set 0 (.int .i64 cd); simpa using this
  have b3 : Below w.heap.size w w3 := by rw [e3]; exact (bel_next b2 qv).setCell (p := ⟨w1.heap.size + 1, 0, none⟩) (by show w.heap.size ≤ w1.heap.size + 1; omega) _
  have HB : Hid (Below w.heap.size w w3 ∧ Blk w3 w.heap.size 46 #[.int .i64 0, .int .i64 0, .int .i64 0, .int .i64 0, .slice none 0 0, .slice none 0 0]) := ⟨b3, R3⟩
  have t3 : w3.cell? ⟨w1.heap.size + 1, 0, none⟩ = some (.int .i64 cd) := T3.cell 0 rfl
  obtain ⟨r0, r1, r2, r3, r4, r5⟩ := R3.six
  have fr := R3.fro
  have d1 : ¬ w1.heap.size + 1 = w.heap.size := by omega
  have d2 : ¬ w.heap.size = w1.heap.size + 1 := by omega
  clear b3 R3 T3 e3 hV qv b2 R2 T2 X2 t0
  go_wp2_with fail
  go_region
  all_goals (
    go_wp2
    refine bodyPost_ret (v := .tuple #[rp 0 0 0 0 none none 0 0 0 0, .int .i64 cd]) (by simp [results, Tryd.results20, go_sem, r0, r1, r2, r3, r4, r5]) rfl ?_
    first
      | exact gpa_zero (belp_set6 HB.out.1 (Nat.le_refl _)).drew
      | exact gpa_zero (belp_set6 HB.out.1.drew (Nat.le_refl _)))

theorem gz_of_end {k fl pl nn : Int} {ws : List Int} {bs : List Bool} {zs : List Int} {w w' : World} {e : Ending} (hk : kindB k = true) (h : (isA k fl pl nn ws bs zs = true → GPA w w' e k fl pl nn ws bs 0) ∧ (isA k fl pl nn ws bs zs = false → GPA w w' e 0 0 0 0 [] [] (bif kindB k then 3 else 1))) : EndA k fl pl nn ws bs zs w w' e := by
  unfold EndA
  cases hA : isA k fl pl nn ws bs zs
  · rw [if_neg (by simp)]; have := h.2 hA; rw [hk] at this; exact this
  · rw [if_pos rfl]; exact h.1 hA

/-- GetResp where what toldIn looks at is known. -/
theorem getA_of (a : Option Addr) (n cap : Nat) (zs : List Int) (w : World) (hn : n = zs.length) (hs : Sl w a zs) (hr : ∀ z ∈ zs, 0 ≤ z ∧ z ≤ 255) (hl : n ≤ 1048576) (hp : 0 < zs.length) (hE : Eh w) (k fl pl nn : Int) (ws : List Int) (bs : List Bool) (hl1 : ws.length ≤ 2000000) (hl2 : bs.length ≤ 20000000) (hw : bs.length ≤ 2000000 ∨ (fl = 0 ∧ (k = 1 ∨ k = 2)))
    (hf : ∀ u, Below w.heap.size w u → Calls Tryd.prog 64 #[.slice a n cap] u fun e u' => TR u u' e k fl pl nn ws bs) :
    Calls Tryd.prog 20 #[.slice a n cap] w fun e w' => (isA k fl pl nn ws bs zs = true → GPA w w' e k fl pl nn ws bs 0) ∧ (isA k fl pl nn ws bs zs = false → GPA w w' e 0 0 0 0 [] [] (bif kindB k then 3 else 1)) := by
  have hA : ∀ u, Below w.heap.size w u → Calls Tryd.prog 43 #[.slice a n cap] u fun e u' => AE k fl pl nn ws bs zs u u' e := fun u hu =>
    answerIn_of a n cap zs u hn (hs.below hu) hr hl hp k fl pl nn ws bs hl1 hl2 hw (fun v hv => hf v (bel_next hu hv))
  cases h : isA k fl pl nn ws bs zs
  · refine (getA_no a n cap w (bif kindB k then 3 else 1) hE (fun u hu => (hA u hu).mono fun e u' h' => ?_)).mono fun e w' h' => ⟨fun hh => by simp at hh, fun _ => h'⟩
    unfold AE at h'
    rw [h, if_neg (by simp)] at h'
    exact h'
  · refine (getA_yes a n cap w k fl pl nn ws bs (fun u hu => (hA u hu).mono fun e u' h' => ?_)).mono fun e w' h' => ⟨fun _ => h', fun hh => by simp at hh⟩
    unfold AE at h'
    rw [h, if_pos rfl] at h'
    exact h'

theorem isA_noK {k fl pl nn : Int} {ws : List Int} {bs : List Bool} {zs : List Int} (h : kindB k = false) : isA k fl pl nn ws bs zs = false := by
  unfold isA okA; rw [h]; simp

theorem wsF_le (zs : List Int) (k : Nat) (hl : zs.length ≤ 1048576) : (wsF zs k).length ≤ 2000000 := by
  rw [wsF_length]; omega

theorem implGetA_q (a : Option Addr) (n cap : Nat) (zs : List Int) (w : World) (hn : n = zs.length) (hs : Sl w a zs) (hr : ∀ z ∈ zs, 0 ≤ z ∧ z ≤ 255) (hl : n ≤ 1048576) (hcap : n ≤ cap) (hE : Eh w) :
    Calls Tryd.prog 20 #[.slice a n cap] w fun e w' => GZ zs w w' e := by
  subst hn
  by_cases h0 : zs.length = 0
  · rw [h0]
    refine (getA_no a 0 cap w 1 hE (fun u hu => answerIn_0 a cap u)).mono fun e w' h => ?_
    unfold GZ; rw [if_pos (.inl h0)]; exact h
  have hp : 0 < zs.length := by omega
  have rg := get_range hr 0
  by_cases hf : 128 ≤ zs.getD 0 0
  · obtain ⟨k, hk⟩ : ∃ k, zs.getD 0 0 = k + 128 := ⟨zs.getD 0 0 - 128, by omega⟩
    have hk0 : 0 ≤ k := by omega
    have hT : ∀ u, Below w.heap.size w u → Calls Tryd.prog 64 #[.slice a zs.length cap] u fun e u' => TR u u' e k (zs.getD 1 0) 0 0 [] [] := by
      intro u hu
      by_cases h1 : 1 < zs.length
      · exact toldIn_f a zs.length cap zs u rfl (hs.below hu) hr hl hp k (zs.getD 1 0) hk0 hk (fun v hv => faultIn_1 a zs.length cap zs v rfl ((hs.below hu).below hv) hr hl hp hcap k (zs.getD 1 0) hk0 hk h1 rfl)
      · have e1 : zs.getD 1 0 = 0 := by rw [List.getD_eq_getElem?_getD, List.getElem?_eq_none (by omega)]; rfl
        rw [e1]
        exact toldIn_f a zs.length cap zs u rfl (hs.below hu) hr hl hp k 0 hk0 hk (fun v hv => faultIn_0 a zs.length cap zs v rfl ((hs.below hu).below hv) hr hl hp hcap k hk0 hk h1)
    refine (getA_of a zs.length cap zs w rfl hs hr hl hp hE k (zs.getD 1 0) 0 0 [] [] (by simp) (by simp) (.inl (by simp)) hT).mono fun e w' h => ?_
    have em : zs.getD 0 0 % 128 = k := by omega
    have es : zs.getD 0 0 - 128 = k := by omega
    unfold GZ
    cases hkk : kindB k
    · rw [if_pos (.inr (by rw [em]; exact hkk))]
      have := h.2 (isA_noK hkk)
      rw [hkk] at this
      exact this
    · rw [if_neg (fun hh => by rcases hh with hh | hh; exact h0 hh; rw [em, hkk] at hh; cases hh), if_pos hf, es]
      exact gz_of_end hkk h
  · have em : zs.getD 0 0 % 128 = zs.getD 0 0 := by omega
    cases hkk : kindB (zs.getD 0 0)
    · refine (getA_of a zs.length cap zs w rfl hs hr hl hp hE (zs.getD 0 0) 0 0 0 [] [] (by simp) (by simp) (.inl (by simp)) (fun u hu => toldIn_no a zs.length cap zs u rfl (hs.below hu) hr hl hp hcap (zs.getD 0 0) rfl (by omega) hkk)).mono fun e w' h => ?_
      unfold GZ
      rw [if_pos (.inr (by rw [em]; exact hkk))]
      have := h.2 (isA_noK hkk)
      rw [hkk] at this
      exact this
    · have hg : ¬ (zs.length = 0 ∨ kindB (zs.getD 0 0 % 128) = false) := fun hh => by rcases hh with hh | hh; exact h0 hh; rw [em, hkk] at hh; cases hh
      have hkd := of_decide_eq_true hkk
      have hU : (outU (zs.drop 2) (8 * ((zs.length : Int) - 2))).length ≤ 20000000 := outU_le8 _ _ (by omega)
      have hW2 := wsF_le zs 2 (by omega)
      have hW3 := wsF_le zs 3 (by omega)
      rcases hkd with h | h | h | h | h | h | h | h | h | h
      · refine (getA_of a zs.length cap zs w rfl hs hr hl hp hE 1 0 0 0 [] (outU (zs.drop 2) (8 * ((zs.length : Int) - 2))) (by simp) hU (.inr ⟨rfl, .inl rfl⟩) (fun u hu => toldIn_1 a zs.length cap zs u rfl (hs.below hu) hr hl hp hcap h)).mono fun e w' hh => ?_
        unfold GZ
        rw [if_neg hg, if_neg hf, h, if_pos (by decide)]
        exact gz_of_end (by decide) hh
      · refine (getA_of a zs.length cap zs w rfl hs hr hl hp hE 2 0 0 0 [] (outU (zs.drop 2) (8 * ((zs.length : Int) - 2))) (by simp) hU (.inr ⟨rfl, .inr rfl⟩) (fun u hu => toldIn_2 a zs.length cap zs u rfl (hs.below hu) hr hl hp hcap h)).mono fun e w' hh => ?_
        unfold GZ
        rw [if_neg hg, if_neg hf, h, if_pos (by decide)]
        exact gz_of_end (by decide) hh
      · refine (getA_of a zs.length cap zs w rfl hs hr hl hp hE 3 0 0 0 (wsF zs 2) [] hW2 (by simp) (.inl (by simp)) (fun u hu => toldIn_3 a zs.length cap zs u rfl (hs.below hu) hr hl hp hcap h)).mono fun e w' hh => ?_
        unfold GZ
        rw [if_neg hg, if_neg hf, h, if_neg (by decide), if_pos (by decide)]
        exact gz_of_end (by decide) hh
      · refine (getA_of a zs.length cap zs w rfl hs hr hl hp hE 4 0 0 0 (wsF zs 2) [] hW2 (by simp) (.inl (by simp)) (fun u hu => toldIn_4 a zs.length cap zs u rfl (hs.below hu) hr hl hp hcap h)).mono fun e w' hh => ?_
        unfold GZ
        rw [if_neg hg, if_neg hf, h, if_neg (by decide), if_pos (by decide)]
        exact gz_of_end (by decide) hh
      · refine (getA_of a zs.length cap zs w rfl hs hr hl hp hE 5 0 (wAt zs 1) 0 [] [wAt zs 3 == 65280] (by simp) (by simp) (.inl (by simp)) (fun u hu => toldIn_5 a zs.length cap zs u rfl (hs.below hu) hr hl hp hcap h)).mono fun e w' hh => ?_
        unfold GZ
        rw [if_neg hg, if_neg hf, h, if_neg (by decide), if_neg (by decide), if_pos (by decide)]
        exact gz_of_end (by decide) hh
      · refine (getA_of a zs.length cap zs w rfl hs hr hl hp hE 6 0 (wAt zs 1) 0 (wsF zs 3) [] hW3 (by simp) (.inl (by simp)) (fun u hu => toldIn_6 a zs.length cap zs u rfl (hs.below hu) hr hl hp hcap h)).mono fun e w' hh => ?_
        unfold GZ
        rw [if_neg hg, if_neg hf, h, if_neg (by decide), if_neg (by decide), if_neg (by decide), if_pos (by decide)]
        exact gz_of_end (by decide) hh
      · refine (getA_of a zs.length cap zs w rfl hs hr hl hp hE 15 0 (wAt zs 1) (wAt zs 3) [] [] (by simp) (by simp) (.inl (by simp)) (fun u hu => toldIn_15 a zs.length cap zs u rfl (hs.below hu) hr hl hp hcap h)).mono fun e w' hh => ?_
        unfold GZ
        rw [if_neg hg, if_neg hf, h, if_neg (by decide), if_neg (by decide), if_neg (by decide), if_neg (by decide)]
        exact gz_of_end (by decide) hh
      · refine (getA_of a zs.length cap zs w rfl hs hr hl hp hE 16 0 (wAt zs 1) (wAt zs 3) [] [] (by simp) (by simp) (.inl (by simp)) (fun u hu => toldIn_16 a zs.length cap zs u rfl (hs.below hu) hr hl hp hcap h)).mono fun e w' hh => ?_
        unfold GZ
        rw [if_neg hg, if_neg hf, h, if_neg (by decide), if_neg (by decide), if_neg (by decide), if_neg (by decide)]
        exact gz_of_end (by decide) hh
      · refine (getA_of a zs.length cap zs w rfl hs hr hl hp hE 22 0 (wAt zs 1) 0 (wsF zs 3) [] hW3 (by simp) (.inl (by simp)) (fun u hu => toldIn_22 a zs.length cap zs u rfl (hs.below hu) hr hl hp hcap h)).mono fun e w' hh => ?_
        unfold GZ
        rw [if_neg hg, if_neg hf, h, if_neg (by decide), if_neg (by decide), if_neg (by decide), if_pos (by decide)]
        exact gz_of_end (by decide) hh
      · refine (getA_of a zs.length cap zs w rfl hs hr hl hp hE 23 0 0 0 (wsF zs 2) [] hW2 (by simp) (.inl (by simp)) (fun u hu => toldIn_23 a zs.length cap zs u rfl (hs.below hu) hr hl hp hcap h)).mono fun e w' hh => ?_
        unfold GZ
        rw [if_neg hg, if_neg hf, h, if_neg (by decide), if_pos (by decide)]
        exact gz_of_end (by decide) hh

end Go.Proofs.YtoofkikenfgbpaaDoor
