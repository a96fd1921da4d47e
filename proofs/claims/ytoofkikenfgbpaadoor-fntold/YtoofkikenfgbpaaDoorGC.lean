/- Answers out of bytes: what the program looks at. -/
import Derived.Test.YtoofkikenfgbpaaDoorGA
import Derived.Test.YtoofkikenfgbpaaDoorG4
namespace Go.Proofs.YtoofkikenfgbpaaDoor
open Go.RowKit

set_option linter.unusedVariables false

set_option linter.unusedSimpArgs false

/-- What toldIn ends with. -/
def TR (w w' : World) (e : Ending) (k fl pl nn : Int) (ws : List Int) (bs : List Bool) : Prop :=
  ∃ a1 a2 l1 l2 c1 c2, e = .returned (rp k fl pl nn a1 a2 l1 l2 c1 c2) ∧ l1 = ws.length ∧ l2 = bs.length ∧ OwnI w' w.heap.size (.slice a1 l1 c1) ws ∧ OwnB w' w.heap.size (.slice a2 l2 c2) bs ∧ Below w.heap.size w w'

set_option maxRecDepth 20000 in
set_option maxHeartbeats 2000000 in
theorem bitsFrom_2 (a : Option Addr) (n cap : Nat) (zs : List Int) (x : Int) (w : World) (hn : n = zs.length) (hs : Sl w a zs) (hr : ∀ z ∈ zs, 0 ≤ z ∧ z ≤ 255) (hl : n ≤ 1048576) (hp : 0 < zs.length) (hcap : n ≤ cap) (hx : x ≤ 16777216) :
    Calls Tryd.prog 87 #[.slice a n cap, .int .i64 2, .int .i64 x] w fun e w' => NwB w w' e (outU (zs.drop 2) x) := by
  obtain ⟨b, off, rfl, _, _⟩ := cell_at hs hp
  have HS : Hid (n = zs.length ∧ Sl w (some ⟨b, off, none⟩) zs ∧ (∀ z ∈ zs, 0 ≤ z ∧ z ≤ 255)) := ⟨hn, hs, hr⟩
  by_cases h6 : 2 < n
  · have g1 : (2 : Int) < (n : Int) := by omega
    have hmin : (min 2 (n : Int)).toNat = 2 := by omega
    have HD : Hid ((zs.drop 2).length = n - 2) := by show (zs.drop 2).length = n - 2; simp; omega
    clear hn hs hr hp
    go_enter Tryd.func87, Tryd.ntmps87
    go_wp2_with fail
    refine (implUnpack_any _ _ _ (zs.drop 2) x _ (by rw [HD.out]) (sl_drop HS.out.2.1 2) (drop_rg HS.out.2.2 2) (by omega) (by omega)).mono ?_
    rintro e w1 ⟨a', c', rfl, ho, hb⟩
    have R : NwB w w1 (.returned (.slice a' (outU (zs.drop 2) x).length c')) (outU (zs.drop 2) x) := ⟨a', c', _, rfl, rfl, ho, hb⟩
    clear ho hb
    generalize (outU (zs.drop 2) x).length = m at *
    go_wp2
    go_ret
    exact R
  · have g1 : ¬ (2 : Int) < (n : Int) := by omega
    have hmin : (min 2 (n : Int)).toNat = n := by omega
    have HD : Hid (zs.drop 2 = []) := by show zs.drop 2 = []; exact List.drop_eq_nil_of_le (by omega)
    clear hn hs hr hp
    go_enter Tryd.func87, Tryd.ntmps87
    go_wp2_with (go_at_call 95; refine (implUnpack_any _ _ _ (zs.drop 2) x _ (by simp [HD.out]) (by rw [HD.out]; exact .inl rfl) (drop_rg HS.out.2.2 2) (by omega) (by omega)).mono ?_; rintro e w1 ⟨a', c', rfl, ho, hb⟩; have R : NwB w w1 (.returned (.slice a' (outU (zs.drop 2) x).length c')) (outU (zs.drop 2) x) := ⟨a', c', _, rfl, rfl, ho, hb⟩; clear ho hb; generalize (outU (zs.drop 2) x).length = m at *)
    all_goals (go_ret; exact R)

set_option maxRecDepth 20000 in
set_option maxHeartbeats 8000000 in
theorem toldIn_1 (a : Option Addr) (n cap : Nat) (zs : List Int) (w : World) (hn : n = zs.length) (hs : Sl w a zs) (hr : ∀ z ∈ zs, 0 ≤ z ∧ z ≤ 255) (hl : n ≤ 1048576) (hp : 0 < zs.length) (hcap : n ≤ cap) (hk : zs.getD 0 0 = 1) :
    Calls Tryd.prog 64 #[.slice a n cap] w fun e w' => TR w w' e 1 0 0 0 [] (outU (zs.drop 2) (8 * ((n : Int) - 2))) := by
  obtain ⟨W0, hW0⟩ : ∃ W0, W0 = w.alloc (.cells #[.int .i64 0, .int .i64 0, .int .i64 0, .int .i64 0, .slice none 0 0, .slice none 0 0] 46) := ⟨_, rfl⟩
  obtain ⟨W1, hW1⟩ : ∃ W1, W1 = W0.alloc (.cells #[.int .i64 1, .int .i64 0, .int .i64 0, .int .i64 0, .slice none 0 0, .slice none 0 0] 46) := ⟨_, rfl⟩
  have HW : Hid (W0 = _) := hW0
  have HW1 : Hid (W1 = W0.alloc (.cells #[.int .i64 1, .int .i64 0, .int .i64 0, .int .i64 0, .slice none 0 0, .slice none 0 0] 46)) := hW1
  have b0 : Below w.heap.size w W0 := by rw [hW0]; exact bel_alloc _ _
  have b1 : Below W0.heap.size W0 W1 := by rw [hW1]; exact bel_alloc _ _
  have R0 : Blk W0 w.heap.size 46 #[.int .i64 0, .int .i64 0, .int .i64 0, .int .i64 0, .slice none 0 0, .slice none 0 0] := by rw [hW0]; exact Blk.new _ _ _
  have hg : W0.heap.size = w.heap.size + 1 := by rw [hW0]; simp
  obtain ⟨G, hG⟩ : ∃ G, G = W0.heap.size := ⟨_, rfl⟩
  have HG : Hid (w.heap.size < G) := by show w.heap.size < G; omega
  have HGe : Hid (G = W0.heap.size) := hG
  have Q1 : Blk W1 G 46 #[.int .i64 1, .int .i64 0, .int .i64 0, .int .i64 0, .slice none 0 0, .slice none 0 0] := by rw [hW1, hG]; exact Blk.new _ _ _
  have R1 := R0.below b1
  have B1 := bel_next b0 b1
  obtain ⟨bk, off, ea, hbk, hc⟩ := cell_at hs hp
  rw [hk] at hc
  have hc0 : W0.cell? ⟨bk, off, none⟩ = some (.int .u8 1) := (b0.cell (p := ⟨bk, off, none⟩) hbk).trans (by simpa using hc)
  have hc1 : W1.cell? ⟨bk, off, none⟩ = some (.int .u8 1) := (B1.cell (p := ⟨bk, off, none⟩) hbk).trans (by simpa using hc)
  have hz0 : (0 : Int) < (n : Int) := by omega
  have HS : Hid (n = zs.length ∧ Sl w a zs ∧ (∀ z ∈ zs, 0 ≤ z ∧ z ≤ 255)) := ⟨hn, hs, hr⟩
  have HP : Hid (0 < zs.length) := hp
  have hl2 : n ≤ 2000000 := by omega
  subst ea
  clear hn hs hr hc hW0 hW1 hg hG R0 hk hp
  go_enter Tryd.func64, Tryd.ntmps64
  go_upto_region 1 with fail
  rw [← HW.out]
  go_upto_region 4 with fail
  rw [← HW1.out]
  simp only [← HGe.out]
  clear hc0 b0 b1 hc1
  go_wp2_with fail
  refine (implWordAt_q _ n cap zs _ 1 _ rfl HS.out.1 (HS.out.2.1.below B1) HS.out.2.2 hl2).mono ?_
  rintro e w2 ⟨rfl, b'⟩
  have B2 := bel_next B1 b'
  have Q2 := Q1.below b'
  have R2 := R1.below b'
  clear B1 Q1 R1  b'
  go_wp2_with fail
  refine (implWordAt_q _ n cap zs _ 3 _ rfl HS.out.1 (HS.out.2.1.below B2) HS.out.2.2 hl2).mono ?_
  rintro e w3 ⟨rfl, b'⟩
  have B3 := bel_next B2 b'
  have Q3 := Q2.below b'
  have R3 := R2.below b'
  clear B2 Q2 R2  b'
  have k0 := Q3.cell 0 rfl
  go_upto_region 9 with fail
  go_wp2_with fail
  refine (bitsFrom_2 _ n cap zs (8 * ((n : Int) - 2)) _ HS.out.1 (HS.out.2.1.below B3) HS.out.2.2 hl HP.out hcap (by omega)).mono ?_
  rintro e w4 ⟨a', c', n', rfl, hn', oj, b'⟩
  have J := OwnB.mono oj B3.size
  have HN' : Hid (n' = _) := hn'
  clear hn' oj
  have B4 := bel_next B3 b'
  have Q4 := Q3.below b'
  have R4 := R3.below b'
  clear B3 Q3 R3  b'
  have J4 := J
  clear J
  have qc5 := Q4.cell 5 rfl
  have qf5 := Q4.fro 5
  have Q5 := (Q4.set 5 (.slice a' n' c'))
  have R5 := (R4.setNe (g' := G) (j := 5) (y := .slice a' n' c') (by have := HG.out; omega))
  have B5 := (B4.setCell (p := ⟨G, 5, none⟩) (by show w.heap.size ≤ G; have := HG.out; omega) (.slice a' n' c'))
  have J5 : OwnB _ _ _ _ := (row_setE (j := 5) (y := .slice a' n' c') J4 ⟨_, Q4⟩ (by decide))
  go_upto_region 22 with fail
  obtain ⟨w5, hw5⟩ : ∃ w5, w5 = (w4.setCell ⟨G, 5, none⟩ (.slice a' n' c')) := ⟨_, rfl⟩
  rw [← hw5] at Q5 R5 B5 J5 ⊢
  clear hw5 qc5 qf5 Q4 R4 B4 J4
  have OI : OwnI w5 w.heap.size (.slice none 0 0) [] := (ownI_nil _ _)
  have OB : OwnB w5 w.heap.size (.slice a' n' c') (outU (zs.drop 2) (8 * ((n : Int) - 2))) := J5
  obtain ⟨q0, q1, q2, q3, q4, q5⟩ := Q5.six
  obtain ⟨y0, y1, y2, y3, y4, y5⟩ := R5.six
  have fy := R5.fro
  have HH : Hid (OwnI w5 w.heap.size (.slice none 0 0) [] ∧ OwnB w5 w.heap.size (.slice a' n' c') (outU (zs.drop 2) (8 * ((n : Int) - 2))) ∧ Below w.heap.size w w5 ∧ Blk w5 w.heap.size 46 #[.int .i64 0, .int .i64 0, .int .i64 0, .int .i64 0, .slice none 0 0, .slice none 0 0]) := ⟨OI, OB, B5, R5⟩
  clear OI OB B5 Q5 R5 J5
  go_wp2
  refine bodyPost_ret (v := rp (1) (0) (0) (0) none a' 0 n' 0 c') (by simp [results, Tryd.results64, go_sem, y0, y1, y2, y3, y4, y5]) rfl ?_
  obtain ⟨OI, OB, BE, RE⟩ := HH.out
  exact ⟨_, _, _, _, _, _, rfl, rfl, HN'.out, rowp_set6 OI ⟨_, RE⟩ (by decide), rowp_set6 OB ⟨_, RE⟩ (by decide), belp_set6 BE (Nat.le_refl _)⟩

set_option maxRecDepth 20000 in
set_option maxHeartbeats 8000000 in
theorem toldIn_2 (a : Option Addr) (n cap : Nat) (zs : List Int) (w : World) (hn : n = zs.length) (hs : Sl w a zs) (hr : ∀ z ∈ zs, 0 ≤ z ∧ z ≤ 255) (hl : n ≤ 1048576) (hp : 0 < zs.length) (hcap : n ≤ cap) (hk : zs.getD 0 0 = 2) :
    Calls Tryd.prog 64 #[.slice a n cap] w fun e w' => TR w w' e 2 0 0 0 [] (outU (zs.drop 2) (8 * ((n : Int) - 2))) := by
  obtain ⟨W0, hW0⟩ : ∃ W0, W0 = w.alloc (.cells #[.int .i64 0, .int .i64 0, .int .i64 0, .int .i64 0, .slice none 0 0, .slice none 0 0] 46) := ⟨_, rfl⟩
  obtain ⟨W1, hW1⟩ : ∃ W1, W1 = W0.alloc (.cells #[.int .i64 2, .int .i64 0, .int .i64 0, .int .i64 0, .slice none 0 0, .slice none 0 0] 46) := ⟨_, rfl⟩
  have HW : Hid (W0 = _) := hW0
  have HW1 : Hid (W1 = W0.alloc (.cells #[.int .i64 2, .int .i64 0, .int .i64 0, .int .i64 0, .slice none 0 0, .slice none 0 0] 46)) := hW1
  have b0 : Below w.heap.size w W0 := by rw [hW0]; exact bel_alloc _ _
  have b1 : Below W0.heap.size W0 W1 := by rw [hW1]; exact bel_alloc _ _
  have R0 : Blk W0 w.heap.size 46 #[.int .i64 0, .int .i64 0, .int .i64 0, .int .i64 0, .slice none 0 0, .slice none 0 0] := by rw [hW0]; exact Blk.new _ _ _
  have hg : W0.heap.size = w.heap.size + 1 := by rw [hW0]; simp
  obtain ⟨G, hG⟩ : ∃ G, G = W0.heap.size := ⟨_, rfl⟩
  have HG : Hid (w.heap.size < G) := by show w.heap.size < G; omega
  have HGe : Hid (G = W0.heap.size) := hG
  have Q1 : Blk W1 G 46 #[.int .i64 2, .int .i64 0, .int .i64 0, .int .i64 0, .slice none 0 0, .slice none 0 0] := by rw [hW1, hG]; exact Blk.new _ _ _
  have R1 := R0.below b1
  have B1 := bel_next b0 b1
  obtain ⟨bk, off, ea, hbk, hc⟩ := cell_at hs hp
  rw [hk] at hc
  have hc0 : W0.cell? ⟨bk, off, none⟩ = some (.int .u8 2) := (b0.cell (p := ⟨bk, off, none⟩) hbk).trans (by simpa using hc)
  have hc1 : W1.cell? ⟨bk, off, none⟩ = some (.int .u8 2) := (B1.cell (p := ⟨bk, off, none⟩) hbk).trans (by simpa using hc)
  have hz0 : (0 : Int) < (n : Int) := by omega
  have HS : Hid (n = zs.length ∧ Sl w a zs ∧ (∀ z ∈ zs, 0 ≤ z ∧ z ≤ 255)) := ⟨hn, hs, hr⟩
  have HP : Hid (0 < zs.length) := hp
  have hl2 : n ≤ 2000000 := by omega
  subst ea
  clear hn hs hr hc hW0 hW1 hg hG R0 hk hp
  go_enter Tryd.func64, Tryd.ntmps64
  go_upto_region 1 with fail
  rw [← HW.out]
  go_upto_region 4 with fail
  rw [← HW1.out]
  simp only [← HGe.out]
  clear hc0 b0 b1 hc1
  go_wp2_with fail
  refine (implWordAt_q _ n cap zs _ 1 _ rfl HS.out.1 (HS.out.2.1.below B1) HS.out.2.2 hl2).mono ?_
  rintro e w2 ⟨rfl, b'⟩
  have B2 := bel_next B1 b'
  have Q2 := Q1.below b'
  have R2 := R1.below b'
  clear B1 Q1 R1  b'
  go_wp2_with fail
  refine (implWordAt_q _ n cap zs _ 3 _ rfl HS.out.1 (HS.out.2.1.below B2) HS.out.2.2 hl2).mono ?_
  rintro e w3 ⟨rfl, b'⟩
  have B3 := bel_next B2 b'
  have Q3 := Q2.below b'
  have R3 := R2.below b'
  clear B2 Q2 R2  b'
  have k0 := Q3.cell 0 rfl
  go_upto_region 9 with fail
  go_wp2_with fail
  refine (bitsFrom_2 _ n cap zs (8 * ((n : Int) - 2)) _ HS.out.1 (HS.out.2.1.below B3) HS.out.2.2 hl HP.out hcap (by omega)).mono ?_
  rintro e w4 ⟨a', c', n', rfl, hn', oj, b'⟩
  have J := OwnB.mono oj B3.size
  have HN' : Hid (n' = _) := hn'
  clear hn' oj
  have B4 := bel_next B3 b'
  have Q4 := Q3.below b'
  have R4 := R3.below b'
  clear B3 Q3 R3  b'
  have J4 := J
  clear J
  have qc5 := Q4.cell 5 rfl
  have qf5 := Q4.fro 5
  have Q5 := (Q4.set 5 (.slice a' n' c'))
  have R5 := (R4.setNe (g' := G) (j := 5) (y := .slice a' n' c') (by have := HG.out; omega))
  have B5 := (B4.setCell (p := ⟨G, 5, none⟩) (by show w.heap.size ≤ G; have := HG.out; omega) (.slice a' n' c'))
  have J5 : OwnB _ _ _ _ := (row_setE (j := 5) (y := .slice a' n' c') J4 ⟨_, Q4⟩ (by decide))
  go_upto_region 22 with fail
  obtain ⟨w5, hw5⟩ : ∃ w5, w5 = (w4.setCell ⟨G, 5, none⟩ (.slice a' n' c')) := ⟨_, rfl⟩
  rw [← hw5] at Q5 R5 B5 J5 ⊢
  clear hw5 qc5 qf5 Q4 R4 B4 J4
  have OI : OwnI w5 w.heap.size (.slice none 0 0) [] := (ownI_nil _ _)
  have OB : OwnB w5 w.heap.size (.slice a' n' c') (outU (zs.drop 2) (8 * ((n : Int) - 2))) := J5
  obtain ⟨q0, q1, q2, q3, q4, q5⟩ := Q5.six
  obtain ⟨y0, y1, y2, y3, y4, y5⟩ := R5.six
  have fy := R5.fro
  have HH : Hid (OwnI w5 w.heap.size (.slice none 0 0) [] ∧ OwnB w5 w.heap.size (.slice a' n' c') (outU (zs.drop 2) (8 * ((n : Int) - 2))) ∧ Below w.heap.size w w5 ∧ Blk w5 w.heap.size 46 #[.int .i64 0, .int .i64 0, .int .i64 0, .int .i64 0, .slice none 0 0, .slice none 0 0]) := ⟨OI, OB, B5, R5⟩
  clear OI OB B5 Q5 R5 J5
  go_wp2
  refine bodyPost_ret (v := rp (2) (0) (0) (0) none a' 0 n' 0 c') (by simp [results, Tryd.results64, go_sem, y0, y1, y2, y3, y4, y5]) rfl ?_
  obtain ⟨OI, OB, BE, RE⟩ := HH.out
  exact ⟨_, _, _, _, _, _, rfl, rfl, HN'.out, rowp_set6 OI ⟨_, RE⟩ (by decide), rowp_set6 OB ⟨_, RE⟩ (by decide), belp_set6 BE (Nat.le_refl _)⟩

set_option maxRecDepth 20000 in
set_option maxHeartbeats 8000000 in
theorem toldIn_3 (a : Option Addr) (n cap : Nat) (zs : List Int) (w : World) (hn : n = zs.length) (hs : Sl w a zs) (hr : ∀ z ∈ zs, 0 ≤ z ∧ z ≤ 255) (hl : n ≤ 1048576) (hp : 0 < zs.length) (hcap : n ≤ cap) (hk : zs.getD 0 0 = 3) :
    Calls Tryd.prog 64 #[.slice a n cap] w fun e w' => TR w w' e 3 0 0 0 (wsF zs 2) [] := by
  obtain ⟨W0, hW0⟩ : ∃ W0, W0 = w.alloc (.cells #[.int .i64 0, .int .i64 0, .int .i64 0, .int .i64 0, .slice none 0 0, .slice none 0 0] 46) := ⟨_, rfl⟩
  obtain ⟨W1, hW1⟩ : ∃ W1, W1 = W0.alloc (.cells #[.int .i64 3, .int .i64 0, .int .i64 0, .int .i64 0, .slice none 0 0, .slice none 0 0] 46) := ⟨_, rfl⟩
  have HW : Hid (W0 = _) := hW0
  have HW1 : Hid (W1 = W0.alloc (.cells #[.int .i64 3, .int .i64 0, .int .i64 0, .int .i64 0, .slice none 0 0, .slice none 0 0] 46)) := hW1
  have b0 : Below w.heap.size w W0 := by rw [hW0]; exact bel_alloc _ _
  have b1 : Below W0.heap.size W0 W1 := by rw [hW1]; exact bel_alloc _ _
  have R0 : Blk W0 w.heap.size 46 #[.int .i64 0, .int .i64 0, .int .i64 0, .int .i64 0, .slice none 0 0, .slice none 0 0] := by rw [hW0]; exact Blk.new _ _ _
  have hg : W0.heap.size = w.heap.size + 1 := by rw [hW0]; simp
  obtain ⟨G, hG⟩ : ∃ G, G = W0.heap.size := ⟨_, rfl⟩
  have HG : Hid (w.heap.size < G) := by show w.heap.size < G; omega
  have HGe : Hid (G = W0.heap.size) := hG
  have Q1 : Blk W1 G 46 #[.int .i64 3, .int .i64 0, .int .i64 0, .int .i64 0, .slice none 0 0, .slice none 0 0] := by rw [hW1, hG]; exact Blk.new _ _ _
  have R1 := R0.below b1
  have B1 := bel_next b0 b1
  obtain ⟨bk, off, ea, hbk, hc⟩ := cell_at hs hp
  rw [hk] at hc
  have hc0 : W0.cell? ⟨bk, off, none⟩ = some (.int .u8 3) := (b0.cell (p := ⟨bk, off, none⟩) hbk).trans (by simpa using hc)
  have hc1 : W1.cell? ⟨bk, off, none⟩ = some (.int .u8 3) := (B1.cell (p := ⟨bk, off, none⟩) hbk).trans (by simpa using hc)
  have hz0 : (0 : Int) < (n : Int) := by omega
  have HS : Hid (n = zs.length ∧ Sl w a zs ∧ (∀ z ∈ zs, 0 ≤ z ∧ z ≤ 255)) := ⟨hn, hs, hr⟩
  have HP : Hid (0 < zs.length) := hp
  have hl2 : n ≤ 2000000 := by omega
  subst ea
  clear hn hs hr hc hW0 hW1 hg hG R0 hk hp
  go_enter Tryd.func64, Tryd.ntmps64
  go_upto_region 1 with fail
  rw [← HW.out]
  go_upto_region 4 with fail
  rw [← HW1.out]
  simp only [← HGe.out]
  clear hc0 b0 b1 hc1
  go_wp2_with fail
  refine (implWordAt_q _ n cap zs _ 1 _ rfl HS.out.1 (HS.out.2.1.below B1) HS.out.2.2 hl2).mono ?_
  rintro e w2 ⟨rfl, b'⟩
  have B2 := bel_next B1 b'
  have Q2 := Q1.below b'
  have R2 := R1.below b'
  clear B1 Q1 R1  b'
  go_wp2_with fail
  refine (implWordAt_q _ n cap zs _ 3 _ rfl HS.out.1 (HS.out.2.1.below B2) HS.out.2.2 hl2).mono ?_
  rintro e w3 ⟨rfl, b'⟩
  have B3 := bel_next B2 b'
  have Q3 := Q2.below b'
  have R3 := R2.below b'
  clear B2 Q2 R2  b'
  have k0 := Q3.cell 0 rfl
  go_upto_region 13 with fail
  go_wp2_with fail
  refine (wordsFrom_any _ n cap zs _ 2 _ rfl HS.out.1 (HS.out.2.1.below B3) HS.out.2.2 hl2 (by omega)).mono ?_
  rintro e w4 ⟨a', c', n', rfl, hn', oi, b'⟩
  have I := OwnI.mono oi B3.size
  have HN' : Hid (n' = _) := hn'
  clear hn' oi
  have B4 := bel_next B3 b'
  have Q4 := Q3.below b'
  have R4 := R3.below b'
  clear B3 Q3 R3  b'
  have I4 := I
  clear I
  have qc4 := Q4.cell 4 rfl
  have qf4 := Q4.fro 4
  have Q5 := (Q4.set 4 (.slice a' n' c'))
  have R5 := (R4.setNe (g' := G) (j := 4) (y := .slice a' n' c') (by have := HG.out; omega))
  have B5 := (B4.setCell (p := ⟨G, 4, none⟩) (by show w.heap.size ≤ G; have := HG.out; omega) (.slice a' n' c'))
  have I5 : OwnI _ _ _ _ := (row_setE (j := 4) (y := .slice a' n' c') I4 ⟨_, Q4⟩ (by decide))
  go_upto_region 22 with fail
  obtain ⟨w5, hw5⟩ : ∃ w5, w5 = (w4.setCell ⟨G, 4, none⟩ (.slice a' n' c')) := ⟨_, rfl⟩
  rw [← hw5] at Q5 R5 B5 I5 ⊢
  clear hw5 qc4 qf4 Q4 R4 B4 I4
  have OI : OwnI w5 w.heap.size (.slice a' n' c') (wsF zs 2) := I5
  have OB : OwnB w5 w.heap.size (.slice none 0 0) [] := (ownB_nil _ _)
  obtain ⟨q0, q1, q2, q3, q4, q5⟩ := Q5.six
  obtain ⟨y0, y1, y2, y3, y4, y5⟩ := R5.six
  have fy := R5.fro
  have HH : Hid (OwnI w5 w.heap.size (.slice a' n' c') (wsF zs 2) ∧ OwnB w5 w.heap.size (.slice none 0 0) [] ∧ Below w.heap.size w w5 ∧ Blk w5 w.heap.size 46 #[.int .i64 0, .int .i64 0, .int .i64 0, .int .i64 0, .slice none 0 0, .slice none 0 0]) := ⟨OI, OB, B5, R5⟩
  clear OI OB B5 Q5 R5 I5
  go_wp2
  refine bodyPost_ret (v := rp (3) (0) (0) (0) a' none n' 0 c' 0) (by simp [results, Tryd.results64, go_sem, y0, y1, y2, y3, y4, y5]) rfl ?_
  obtain ⟨OI, OB, BE, RE⟩ := HH.out
  exact ⟨_, _, _, _, _, _, rfl, HN'.out, rfl, rowp_set6 OI ⟨_, RE⟩ (by decide), rowp_set6 OB ⟨_, RE⟩ (by decide), belp_set6 BE (Nat.le_refl _)⟩

set_option maxRecDepth 20000 in
set_option maxHeartbeats 8000000 in
theorem toldIn_4 (a : Option Addr) (n cap : Nat) (zs : List Int) (w : World) (hn : n = zs.length) (hs : Sl w a zs) (hr : ∀ z ∈ zs, 0 ≤ z ∧ z ≤ 255) (hl : n ≤ 1048576) (hp : 0 < zs.length) (hcap : n ≤ cap) (hk : zs.getD 0 0 = 4) :
    Calls Tryd.prog 64 #[.slice a n cap] w fun e w' => TR w w' e 4 0 0 0 (wsF zs 2) [] := by
  obtain ⟨W0, hW0⟩ : ∃ W0, W0 = w.alloc (.cells #[.int .i64 0, .int .i64 0, .int .i64 0, .int .i64 0, .slice none 0 0, .slice none 0 0] 46) := ⟨_, rfl⟩
  obtain ⟨W1, hW1⟩ : ∃ W1, W1 = W0.alloc (.cells #[.int .i64 4, .int .i64 0, .int .i64 0, .int .i64 0, .slice none 0 0, .slice none 0 0] 46) := ⟨_, rfl⟩
  have HW : Hid (W0 = _) := hW0
  have HW1 : Hid (W1 = W0.alloc (.cells #[.int .i64 4, .int .i64 0, .int .i64 0, .int .i64 0, .slice none 0 0, .slice none 0 0] 46)) := hW1
  have b0 : Below w.heap.size w W0 := by rw [hW0]; exact bel_alloc _ _
  have b1 : Below W0.heap.size W0 W1 := by rw [hW1]; exact bel_alloc _ _
  have R0 : Blk W0 w.heap.size 46 #[.int .i64 0, .int .i64 0, .int .i64 0, .int .i64 0, .slice none 0 0, .slice none 0 0] := by rw [hW0]; exact Blk.new _ _ _
  have hg : W0.heap.size = w.heap.size + 1 := by rw [hW0]; simp
  obtain ⟨G, hG⟩ : ∃ G, G = W0.heap.size := ⟨_, rfl⟩
  have HG : Hid (w.heap.size < G) := by show w.heap.size < G; omega
  have HGe : Hid (G = W0.heap.size) := hG
  have Q1 : Blk W1 G 46 #[.int .i64 4, .int .i64 0, .int .i64 0, .int .i64 0, .slice none 0 0, .slice none 0 0] := by rw [hW1, hG]; exact Blk.new _ _ _
  have R1 := R0.below b1
  have B1 := bel_next b0 b1
  obtain ⟨bk, off, ea, hbk, hc⟩ := cell_at hs hp
  rw [hk] at hc
  have hc0 : W0.cell? ⟨bk, off, none⟩ = some (.int .u8 4) := (b0.cell (p := ⟨bk, off, none⟩) hbk).trans (by simpa using hc)
  have hc1 : W1.cell? ⟨bk, off, none⟩ = some (.int .u8 4) := (B1.cell (p := ⟨bk, off, none⟩) hbk).trans (by simpa using hc)
  have hz0 : (0 : Int) < (n : Int) := by omega
  have HS : Hid (n = zs.length ∧ Sl w a zs ∧ (∀ z ∈ zs, 0 ≤ z ∧ z ≤ 255)) := ⟨hn, hs, hr⟩
  have HP : Hid (0 < zs.length) := hp
  have hl2 : n ≤ 2000000 := by omega
  subst ea
  clear hn hs hr hc hW0 hW1 hg hG R0 hk hp
  go_enter Tryd.func64, Tryd.ntmps64
  go_upto_region 1 with fail
  rw [← HW.out]
  go_upto_region 4 with fail
  rw [← HW1.out]
  simp only [← HGe.out]
  clear hc0 b0 b1 hc1
  go_wp2_with fail
  refine (implWordAt_q _ n cap zs _ 1 _ rfl HS.out.1 (HS.out.2.1.below B1) HS.out.2.2 hl2).mono ?_
  rintro e w2 ⟨rfl, b'⟩
  have B2 := bel_next B1 b'
  have Q2 := Q1.below b'
  have R2 := R1.below b'
  clear B1 Q1 R1  b'
  go_wp2_with fail
  refine (implWordAt_q _ n cap zs _ 3 _ rfl HS.out.1 (HS.out.2.1.below B2) HS.out.2.2 hl2).mono ?_
  rintro e w3 ⟨rfl, b'⟩
  have B3 := bel_next B2 b'
  have Q3 := Q2.below b'
  have R3 := R2.below b'
  clear B2 Q2 R2  b'
  have k0 := Q3.cell 0 rfl
  go_upto_region 13 with fail
  go_wp2_with fail
  refine (wordsFrom_any _ n cap zs _ 2 _ rfl HS.out.1 (HS.out.2.1.below B3) HS.out.2.2 hl2 (by omega)).mono ?_
  rintro e w4 ⟨a', c', n', rfl, hn', oi, b'⟩
  have I := OwnI.mono oi B3.size
  have HN' : Hid (n' = _) := hn'
  clear hn' oi
  have B4 := bel_next B3 b'
  have Q4 := Q3.below b'
  have R4 := R3.below b'
  clear B3 Q3 R3  b'
  have I4 := I
  clear I
  have qc4 := Q4.cell 4 rfl
  have qf4 := Q4.fro 4
  have Q5 := (Q4.set 4 (.slice a' n' c'))
  have R5 := (R4.setNe (g' := G) (j := 4) (y := .slice a' n' c') (by have := HG.out; omega))
  have B5 := (B4.setCell (p := ⟨G, 4, none⟩) (by show w.heap.size ≤ G; have := HG.out; omega) (.slice a' n' c'))
  have I5 : OwnI _ _ _ _ := (row_setE (j := 4) (y := .slice a' n' c') I4 ⟨_, Q4⟩ (by decide))
  go_upto_region 22 with fail
  obtain ⟨w5, hw5⟩ : ∃ w5, w5 = (w4.setCell ⟨G, 4, none⟩ (.slice a' n' c')) := ⟨_, rfl⟩
  rw [← hw5] at Q5 R5 B5 I5 ⊢
  clear hw5 qc4 qf4 Q4 R4 B4 I4
  have OI : OwnI w5 w.heap.size (.slice a' n' c') (wsF zs 2) := I5
  have OB : OwnB w5 w.heap.size (.slice none 0 0) [] := (ownB_nil _ _)
  obtain ⟨q0, q1, q2, q3, q4, q5⟩ := Q5.six
  obtain ⟨y0, y1, y2, y3, y4, y5⟩ := R5.six
  have fy := R5.fro
  have HH : Hid (OwnI w5 w.heap.size (.slice a' n' c') (wsF zs 2) ∧ OwnB w5 w.heap.size (.slice none 0 0) [] ∧ Below w.heap.size w w5 ∧ Blk w5 w.heap.size 46 #[.int .i64 0, .int .i64 0, .int .i64 0, .int .i64 0, .slice none 0 0, .slice none 0 0]) := ⟨OI, OB, B5, R5⟩
  clear OI OB B5 Q5 R5 I5
  go_wp2
  refine bodyPost_ret (v := rp (4) (0) (0) (0) a' none n' 0 c' 0) (by simp [results, Tryd.results64, go_sem, y0, y1, y2, y3, y4, y5]) rfl ?_
  obtain ⟨OI, OB, BE, RE⟩ := HH.out
  exact ⟨_, _, _, _, _, _, rfl, HN'.out, rfl, rowp_set6 OI ⟨_, RE⟩ (by decide), rowp_set6 OB ⟨_, RE⟩ (by decide), belp_set6 BE (Nat.le_refl _)⟩

set_option maxRecDepth 20000 in
set_option maxHeartbeats 8000000 in
theorem toldIn_23 (a : Option Addr) (n cap : Nat) (zs : List Int) (w : World) (hn : n = zs.length) (hs : Sl w a zs) (hr : ∀ z ∈ zs, 0 ≤ z ∧ z ≤ 255) (hl : n ≤ 1048576) (hp : 0 < zs.length) (hcap : n ≤ cap) (hk : zs.getD 0 0 = 23) :
    Calls Tryd.prog 64 #[.slice a n cap] w fun e w' => TR w w' e 23 0 0 0 (wsF zs 2) [] := by
  obtain ⟨W0, hW0⟩ : ∃ W0, W0 = w.alloc (.cells #[.int .i64 0, .int .i64 0, .int .i64 0, .int .i64 0, .slice none 0 0, .slice none 0 0] 46) := ⟨_, rfl⟩
  obtain ⟨W1, hW1⟩ : ∃ W1, W1 = W0.alloc (.cells #[.int .i64 23, .int .i64 0, .int .i64 0, .int .i64 0, .slice none 0 0, .slice none 0 0] 46) := ⟨_, rfl⟩
  have HW : Hid (W0 = _) := hW0
  have HW1 : Hid (W1 = W0.alloc (.cells #[.int .i64 23, .int .i64 0, .int .i64 0, .int .i64 0, .slice none 0 0, .slice none 0 0] 46)) := hW1
  have b0 : Below w.heap.size w W0 := by rw [hW0]; exact bel_alloc _ _
  have b1 : Below W0.heap.size W0 W1 := by rw [hW1]; exact bel_alloc _ _
  have R0 : Blk W0 w.heap.size 46 #[.int .i64 0, .int .i64 0, .int .i64 0, .int .i64 0, .slice none 0 0, .slice none 0 0] := by rw [hW0]; exact Blk.new _ _ _
  have hg : W0.heap.size = w.heap.size + 1 := by rw [hW0]; simp
  obtain ⟨G, hG⟩ : ∃ G, G = W0.heap.size := ⟨_, rfl⟩
  have HG : Hid (w.heap.size < G) := by show w.heap.size < G; omega
  have HGe : Hid (G = W0.heap.size) := hG
  have Q1 : Blk W1 G 46 #[.int .i64 23, .int .i64 0, .int .i64 0, .int .i64 0, .slice none 0 0, .slice none 0 0] := by rw [hW1, hG]; exact Blk.new _ _ _
  have R1 := R0.below b1
  have B1 := bel_next b0 b1
  obtain ⟨bk, off, ea, hbk, hc⟩ := cell_at hs hp
  rw [hk] at hc
  have hc0 : W0.cell? ⟨bk, off, none⟩ = some (.int .u8 23) := (b0.cell (p := ⟨bk, off, none⟩) hbk).trans (by simpa using hc)
  have hc1 : W1.cell? ⟨bk, off, none⟩ = some (.int .u8 23) := (B1.cell (p := ⟨bk, off, none⟩) hbk).trans (by simpa using hc)
  have hz0 : (0 : Int) < (n : Int) := by omega
  have HS : Hid (n = zs.length ∧ Sl w a zs ∧ (∀ z ∈ zs, 0 ≤ z ∧ z ≤ 255)) := ⟨hn, hs, hr⟩
  have HP : Hid (0 < zs.length) := hp
  have hl2 : n ≤ 2000000 := by omega
  subst ea
  clear hn hs hr hc hW0 hW1 hg hG R0 hk hp
  go_enter Tryd.func64, Tryd.ntmps64
  go_upto_region 1 with fail
  rw [← HW.out]
  go_upto_region 4 with fail
  rw [← HW1.out]
  simp only [← HGe.out]
  clear hc0 b0 b1 hc1
  go_wp2_with fail
  refine (implWordAt_q _ n cap zs _ 1 _ rfl HS.out.1 (HS.out.2.1.below B1) HS.out.2.2 hl2).mono ?_
  rintro e w2 ⟨rfl, b'⟩
  have B2 := bel_next B1 b'
  have Q2 := Q1.below b'
  have R2 := R1.below b'
  clear B1 Q1 R1  b'
  go_wp2_with fail
  refine (implWordAt_q _ n cap zs _ 3 _ rfl HS.out.1 (HS.out.2.1.below B2) HS.out.2.2 hl2).mono ?_
  rintro e w3 ⟨rfl, b'⟩
  have B3 := bel_next B2 b'
  have Q3 := Q2.below b'
  have R3 := R2.below b'
  clear B2 Q2 R2  b'
  have k0 := Q3.cell 0 rfl
  go_upto_region 13 with fail
  go_wp2_with fail
  refine (wordsFrom_any _ n cap zs _ 2 _ rfl HS.out.1 (HS.out.2.1.below B3) HS.out.2.2 hl2 (by omega)).mono ?_
  rintro e w4 ⟨a', c', n', rfl, hn', oi, b'⟩
  have I := OwnI.mono oi B3.size
  have HN' : Hid (n' = _) := hn'
  clear hn' oi
  have B4 := bel_next B3 b'
  have Q4 := Q3.below b'
  have R4 := R3.below b'
  clear B3 Q3 R3  b'
  have I4 := I
  clear I
  have qc4 := Q4.cell 4 rfl
  have qf4 := Q4.fro 4
  have Q5 := (Q4.set 4 (.slice a' n' c'))
  have R5 := (R4.setNe (g' := G) (j := 4) (y := .slice a' n' c') (by have := HG.out; omega))
  have B5 := (B4.setCell (p := ⟨G, 4, none⟩) (by show w.heap.size ≤ G; have := HG.out; omega) (.slice a' n' c'))
  have I5 : OwnI _ _ _ _ := (row_setE (j := 4) (y := .slice a' n' c') I4 ⟨_, Q4⟩ (by decide))
  go_upto_region 22 with fail
  obtain ⟨w5, hw5⟩ : ∃ w5, w5 = (w4.setCell ⟨G, 4, none⟩ (.slice a' n' c')) := ⟨_, rfl⟩
  rw [← hw5] at Q5 R5 B5 I5 ⊢
  clear hw5 qc4 qf4 Q4 R4 B4 I4
  have OI : OwnI w5 w.heap.size (.slice a' n' c') (wsF zs 2) := I5
  have OB : OwnB w5 w.heap.size (.slice none 0 0) [] := (ownB_nil _ _)
  obtain ⟨q0, q1, q2, q3, q4, q5⟩ := Q5.six
  obtain ⟨y0, y1, y2, y3, y4, y5⟩ := R5.six
  have fy := R5.fro
  have HH : Hid (OwnI w5 w.heap.size (.slice a' n' c') (wsF zs 2) ∧ OwnB w5 w.heap.size (.slice none 0 0) [] ∧ Below w.heap.size w w5 ∧ Blk w5 w.heap.size 46 #[.int .i64 0, .int .i64 0, .int .i64 0, .int .i64 0, .slice none 0 0, .slice none 0 0]) := ⟨OI, OB, B5, R5⟩
  clear OI OB B5 Q5 R5 I5
  go_wp2
  refine bodyPost_ret (v := rp (23) (0) (0) (0) a' none n' 0 c' 0) (by simp [results, Tryd.results64, go_sem, y0, y1, y2, y3, y4, y5]) rfl ?_
  obtain ⟨OI, OB, BE, RE⟩ := HH.out
  exact ⟨_, _, _, _, _, _, rfl, HN'.out, rfl, rowp_set6 OI ⟨_, RE⟩ (by decide), rowp_set6 OB ⟨_, RE⟩ (by decide), belp_set6 BE (Nat.le_refl _)⟩

set_option maxRecDepth 20000 in
set_option maxHeartbeats 8000000 in
theorem toldIn_5 (a : Option Addr) (n cap : Nat) (zs : List Int) (w : World) (hn : n = zs.length) (hs : Sl w a zs) (hr : ∀ z ∈ zs, 0 ≤ z ∧ z ≤ 255) (hl : n ≤ 1048576) (hp : 0 < zs.length) (hcap : n ≤ cap) (hk : zs.getD 0 0 = 5) :
    Calls Tryd.prog 64 #[.slice a n cap] w fun e w' => TR w w' e 5 0 (wAt zs 1) 0 [] [wAt zs 3 == 65280] := by
  obtain ⟨W0, hW0⟩ : ∃ W0, W0 = w.alloc (.cells #[.int .i64 0, .int .i64 0, .int .i64 0, .int .i64 0, .slice none 0 0, .slice none 0 0] 46) := ⟨_, rfl⟩
  obtain ⟨W1, hW1⟩ : ∃ W1, W1 = W0.alloc (.cells #[.int .i64 5, .int .i64 0, .int .i64 0, .int .i64 0, .slice none 0 0, .slice none 0 0] 46) := ⟨_, rfl⟩
  have HW : Hid (W0 = _) := hW0
  have HW1 : Hid (W1 = W0.alloc (.cells #[.int .i64 5, .int .i64 0, .int .i64 0, .int .i64 0, .slice none 0 0, .slice none 0 0] 46)) := hW1
  have b0 : Below w.heap.size w W0 := by rw [hW0]; exact bel_alloc _ _
  have b1 : Below W0.heap.size W0 W1 := by rw [hW1]; exact bel_alloc _ _
  have R0 : Blk W0 w.heap.size 46 #[.int .i64 0, .int .i64 0, .int .i64 0, .int .i64 0, .slice none 0 0, .slice none 0 0] := by rw [hW0]; exact Blk.new _ _ _
  have hg : W0.heap.size = w.heap.size + 1 := by rw [hW0]; simp
  obtain ⟨G, hG⟩ : ∃ G, G = W0.heap.size := ⟨_, rfl⟩
  have HG : Hid (w.heap.size < G) := by show w.heap.size < G; omega
  have HGe : Hid (G = W0.heap.size) := hG
  have Q1 : Blk W1 G 46 #[.int .i64 5, .int .i64 0, .int .i64 0, .int .i64 0, .slice none 0 0, .slice none 0 0] := by rw [hW1, hG]; exact Blk.new _ _ _
  have R1 := R0.below b1
  have B1 := bel_next b0 b1
  obtain ⟨bk, off, ea, hbk, hc⟩ := cell_at hs hp
  rw [hk] at hc
  have hc0 : W0.cell? ⟨bk, off, none⟩ = some (.int .u8 5) := (b0.cell (p := ⟨bk, off, none⟩) hbk).trans (by simpa using hc)
  have hc1 : W1.cell? ⟨bk, off, none⟩ = some (.int .u8 5) := (B1.cell (p := ⟨bk, off, none⟩) hbk).trans (by simpa using hc)
  have hz0 : (0 : Int) < (n : Int) := by omega
  have HS : Hid (n = zs.length ∧ Sl w a zs ∧ (∀ z ∈ zs, 0 ≤ z ∧ z ≤ 255)) := ⟨hn, hs, hr⟩
  have HP : Hid (0 < zs.length) := hp
  have hl2 : n ≤ 2000000 := by omega
  subst ea
  clear hn hs hr hc hW0 hW1 hg hG R0 hk hp
  go_enter Tryd.func64, Tryd.ntmps64
  go_upto_region 1 with fail
  rw [← HW.out]
  go_upto_region 4 with fail
  rw [← HW1.out]
  simp only [← HGe.out]
  clear hc0 b0 b1 hc1
  go_wp2_with fail
  refine (implWordAt_q _ n cap zs _ 1 _ rfl HS.out.1 (HS.out.2.1.below B1) HS.out.2.2 hl2).mono ?_
  rintro e w2 ⟨rfl, b'⟩
  have B2 := bel_next B1 b'
  have Q2 := Q1.below b'
  have R2 := R1.below b'
  clear B1 Q1 R1  b'
  go_wp2_with fail
  refine (implWordAt_q _ n cap zs _ 3 _ rfl HS.out.1 (HS.out.2.1.below B2) HS.out.2.2 hl2).mono ?_
  rintro e w3 ⟨rfl, b'⟩
  have B3 := bel_next B2 b'
  have Q3 := Q2.below b'
  have R3 := R2.below b'
  clear B2 Q2 R2  b'
  have k0 := Q3.cell 0 rfl
  go_upto_region 15 with fail
  have b' := bel_alloc w3 (.cells #[.bool (wAt zs 3 == 65280)] 4)
  have J := ownB_lit1 w3 (wAt zs 3 == 65280) w.heap.size w3.heap.size B3.size rfl
  have B4 := bel_next B3 b'
  have Q4 := Q3.below b'
  have R4 := R3.below b'
  clear B3 Q3 R3  b'
  have J4 := J
  clear J
  have qc2 := Q4.cell 2 rfl
  have qf2 := Q4.fro 2
  have qc5 := Q4.cell 5 rfl
  have qf5 := Q4.fro 5
  have Q5 := ((Q4.set 2 (.int .i64 (wAt zs 1))).set 5 (.slice (some ⟨w3.heap.size, 0, none⟩) 1 1))
  have R5 := ((R4.setNe (g' := G) (j := 2) (y := .int .i64 (wAt zs 1)) (by have := HG.out; omega)).setNe (g' := G) (j := 5) (y := .slice (some ⟨w3.heap.size, 0, none⟩) 1 1) (by have := HG.out; omega))
  have B5 := ((B4.setCell (p := ⟨G, 2, none⟩) (by show w.heap.size ≤ G; have := HG.out; omega) (.int .i64 (wAt zs 1))).setCell (p := ⟨G, 5, none⟩) (by show w.heap.size ≤ G; have := HG.out; omega) (.slice (some ⟨w3.heap.size, 0, none⟩) 1 1))
  have J5 : OwnB _ _ _ _ := (row_setE (j := 5) (y := .slice (some ⟨w3.heap.size, 0, none⟩) 1 1) (row_setE (j := 2) (y := .int .i64 (wAt zs 1)) J4 ⟨_, Q4⟩ (by decide)) (ExB.set ⟨_, Q4⟩) (by decide))
  go_upto_region 22 with fail
  obtain ⟨w5, hw5⟩ : ∃ w5, w5 = (((w3.alloc (.cells #[.bool (wAt zs 3 == 65280)] 4)).setCell ⟨G, 2, none⟩ (.int .i64 (wAt zs 1))).setCell ⟨G, 5, none⟩ (.slice (some ⟨w3.heap.size, 0, none⟩) 1 1)) := ⟨_, rfl⟩
  rw [← hw5] at Q5 R5 B5 J5 ⊢
  clear hw5 qc2 qf2 qc5 qf5 Q4 R4 B4 J4
  have OI : OwnI w5 w.heap.size (.slice none 0 0) [] := (ownI_nil _ _)
  have OB : OwnB w5 w.heap.size (.slice (some ⟨w3.heap.size, 0, none⟩) 1 1) [wAt zs 3 == 65280] := J5
  obtain ⟨q0, q1, q2, q3, q4, q5⟩ := Q5.six
  obtain ⟨y0, y1, y2, y3, y4, y5⟩ := R5.six
  have fy := R5.fro
  have HH : Hid (OwnI w5 w.heap.size (.slice none 0 0) [] ∧ OwnB w5 w.heap.size (.slice (some ⟨w3.heap.size, 0, none⟩) 1 1) [wAt zs 3 == 65280] ∧ Below w.heap.size w w5 ∧ Blk w5 w.heap.size 46 #[.int .i64 0, .int .i64 0, .int .i64 0, .int .i64 0, .slice none 0 0, .slice none 0 0]) := ⟨OI, OB, B5, R5⟩
  clear OI OB B5 Q5 R5 J5
  go_wp2
  refine bodyPost_ret (v := rp (5) (0) ((wAt zs 1)) (0) none (some ⟨w3.heap.size, 0, none⟩) 0 1 0 1) (by simp [results, Tryd.results64, go_sem, y0, y1, y2, y3, y4, y5]) rfl ?_
  obtain ⟨OI, OB, BE, RE⟩ := HH.out
  exact ⟨_, _, _, _, _, _, rfl, rfl, rfl, rowp_set6 OI ⟨_, RE⟩ (by decide), rowp_set6 OB ⟨_, RE⟩ (by decide), belp_set6 BE (Nat.le_refl _)⟩

set_option maxRecDepth 20000 in
set_option maxHeartbeats 8000000 in
theorem toldIn_6 (a : Option Addr) (n cap : Nat) (zs : List Int) (w : World) (hn : n = zs.length) (hs : Sl w a zs) (hr : ∀ z ∈ zs, 0 ≤ z ∧ z ≤ 255) (hl : n ≤ 1048576) (hp : 0 < zs.length) (hcap : n ≤ cap) (hk : zs.getD 0 0 = 6) :
    Calls Tryd.prog 64 #[.slice a n cap] w fun e w' => TR w w' e 6 0 (wAt zs 1) 0 (wsF zs 3) [] := by
  obtain ⟨W0, hW0⟩ : ∃ W0, W0 = w.alloc (.cells #[.int .i64 0, .int .i64 0, .int .i64 0, .int .i64 0, .slice none 0 0, .slice none 0 0] 46) := ⟨_, rfl⟩
  obtain ⟨W1, hW1⟩ : ∃ W1, W1 = W0.alloc (.cells #[.int .i64 6, .int .i64 0, .int .i64 0, .int .i64 0, .slice none 0 0, .slice none 0 0] 46) := ⟨_, rfl⟩
  have HW : Hid (W0 = _) := hW0
  have HW1 : Hid (W1 = W0.alloc (.cells #[.int .i64 6, .int .i64 0, .int .i64 0, .int .i64 0, .slice none 0 0, .slice none 0 0] 46)) := hW1
  have b0 : Below w.heap.size w W0 := by rw [hW0]; exact bel_alloc _ _
  have b1 : Below W0.heap.size W0 W1 := by rw [hW1]; exact bel_alloc _ _
  have R0 : Blk W0 w.heap.size 46 #[.int .i64 0, .int .i64 0, .int .i64 0, .int .i64 0, .slice none 0 0, .slice none 0 0] := by rw [hW0]; exact Blk.new _ _ _
  have hg : W0.heap.size = w.heap.size + 1 := by rw [hW0]; simp
  obtain ⟨G, hG⟩ : ∃ G, G = W0.heap.size := ⟨_, rfl⟩
  have HG : Hid (w.heap.size < G) := by show w.heap.size < G; omega
  have HGe : Hid (G = W0.heap.size) := hG
  have Q1 : Blk W1 G 46 #[.int .i64 6, .int .i64 0, .int .i64 0, .int .i64 0, .slice none 0 0, .slice none 0 0] := by rw [hW1, hG]; exact Blk.new _ _ _
  have R1 := R0.below b1
  have B1 := bel_next b0 b1
  obtain ⟨bk, off, ea, hbk, hc⟩ := cell_at hs hp
  rw [hk] at hc
  have hc0 : W0.cell? ⟨bk, off, none⟩ = some (.int .u8 6) := (b0.cell (p := ⟨bk, off, none⟩) hbk).trans (by simpa using hc)
  have hc1 : W1.cell? ⟨bk, off, none⟩ = some (.int .u8 6) := (B1.cell (p := ⟨bk, off, none⟩) hbk).trans (by simpa using hc)
  have hz0 : (0 : Int) < (n : Int) := by omega
  have HS : Hid (n = zs.length ∧ Sl w a zs ∧ (∀ z ∈ zs, 0 ≤ z ∧ z ≤ 255)) := ⟨hn, hs, hr⟩
  have HP : Hid (0 < zs.length) := hp
  have hl2 : n ≤ 2000000 := by omega
  subst ea
  clear hn hs hr hc hW0 hW1 hg hG R0 hk hp
  go_enter Tryd.func64, Tryd.ntmps64
  go_upto_region 1 with fail
  rw [← HW.out]
  go_upto_region 4 with fail
  rw [← HW1.out]
  simp only [← HGe.out]
  clear hc0 b0 b1 hc1
  go_wp2_with fail
  refine (implWordAt_q _ n cap zs _ 1 _ rfl HS.out.1 (HS.out.2.1.below B1) HS.out.2.2 hl2).mono ?_
  rintro e w2 ⟨rfl, b'⟩
  have B2 := bel_next B1 b'
  have Q2 := Q1.below b'
  have R2 := R1.below b'
  clear B1 Q1 R1  b'
  go_wp2_with fail
  refine (implWordAt_q _ n cap zs _ 3 _ rfl HS.out.1 (HS.out.2.1.below B2) HS.out.2.2 hl2).mono ?_
  rintro e w3 ⟨rfl, b'⟩
  have B3 := bel_next B2 b'
  have Q3 := Q2.below b'
  have R3 := R2.below b'
  clear B2 Q2 R2  b'
  have k0 := Q3.cell 0 rfl
  go_upto_region 18 with fail
  go_wp2_with fail
  refine (wordsFrom_any _ n cap zs _ 3 _ rfl HS.out.1 (HS.out.2.1.below B3) HS.out.2.2 hl2 (by omega)).mono ?_
  rintro e w4 ⟨a', c', n', rfl, hn', oi, b'⟩
  have I := OwnI.mono oi B3.size
  have HN' : Hid (n' = _) := hn'
  clear hn' oi
  have B4 := bel_next B3 b'
  have Q4 := Q3.below b'
  have R4 := R3.below b'
  clear B3 Q3 R3  b'
  have I4 := I
  clear I
  have qc2 := Q4.cell 2 rfl
  have qf2 := Q4.fro 2
  have qc4 := Q4.cell 4 rfl
  have qf4 := Q4.fro 4
  have Q5 := ((Q4.set 2 (.int .i64 (wAt zs 1))).set 4 (.slice a' n' c'))
  have R5 := ((R4.setNe (g' := G) (j := 2) (y := .int .i64 (wAt zs 1)) (by have := HG.out; omega)).setNe (g' := G) (j := 4) (y := .slice a' n' c') (by have := HG.out; omega))
  have B5 := ((B4.setCell (p := ⟨G, 2, none⟩) (by show w.heap.size ≤ G; have := HG.out; omega) (.int .i64 (wAt zs 1))).setCell (p := ⟨G, 4, none⟩) (by show w.heap.size ≤ G; have := HG.out; omega) (.slice a' n' c'))
  have I5 : OwnI _ _ _ _ := (row_setE (j := 4) (y := .slice a' n' c') (row_setE (j := 2) (y := .int .i64 (wAt zs 1)) I4 ⟨_, Q4⟩ (by decide)) (ExB.set ⟨_, Q4⟩) (by decide))
  go_upto_region 22 with fail
  obtain ⟨w5, hw5⟩ : ∃ w5, w5 = ((w4.setCell ⟨G, 2, none⟩ (.int .i64 (wAt zs 1))).setCell ⟨G, 4, none⟩ (.slice a' n' c')) := ⟨_, rfl⟩
  rw [← hw5] at Q5 R5 B5 I5 ⊢
  clear hw5 qc2 qf2 qc4 qf4 Q4 R4 B4 I4
  have OI : OwnI w5 w.heap.size (.slice a' n' c') (wsF zs 3) := I5
  have OB : OwnB w5 w.heap.size (.slice none 0 0) [] := (ownB_nil _ _)
  obtain ⟨q0, q1, q2, q3, q4, q5⟩ := Q5.six
  obtain ⟨y0, y1, y2, y3, y4, y5⟩ := R5.six
  have fy := R5.fro
  have HH : Hid (OwnI w5 w.heap.size (.slice a' n' c') (wsF zs 3) ∧ OwnB w5 w.heap.size (.slice none 0 0) [] ∧ Below w.heap.size w w5 ∧ Blk w5 w.heap.size 46 #[.int .i64 0, .int .i64 0, .int .i64 0, .int .i64 0, .slice none 0 0, .slice none 0 0]) := ⟨OI, OB, B5, R5⟩
  clear OI OB B5 Q5 R5 I5
  go_wp2
  refine bodyPost_ret (v := rp (6) (0) ((wAt zs 1)) (0) a' none n' 0 c' 0) (by simp [results, Tryd.results64, go_sem, y0, y1, y2, y3, y4, y5]) rfl ?_
  obtain ⟨OI, OB, BE, RE⟩ := HH.out
  exact ⟨_, _, _, _, _, _, rfl, HN'.out, rfl, rowp_set6 OI ⟨_, RE⟩ (by decide), rowp_set6 OB ⟨_, RE⟩ (by decide), belp_set6 BE (Nat.le_refl _)⟩

set_option maxRecDepth 20000 in
set_option maxHeartbeats 8000000 in
theorem toldIn_22 (a : Option Addr) (n cap : Nat) (zs : List Int) (w : World) (hn : n = zs.length) (hs : Sl w a zs) (hr : ∀ z ∈ zs, 0 ≤ z ∧ z ≤ 255) (hl : n ≤ 1048576) (hp : 0 < zs.length) (hcap : n ≤ cap) (hk : zs.getD 0 0 = 22) :
    Calls Tryd.prog 64 #[.slice a n cap] w fun e w' => TR w w' e 22 0 (wAt zs 1) 0 (wsF zs 3) [] := by
  obtain ⟨W0, hW0⟩ : ∃ W0, W0 = w.alloc (.cells #[.int .i64 0, .int .i64 0, .int .i64 0, .int .i64 0, .slice none 0 0, .slice none 0 0] 46) := ⟨_, rfl⟩
  obtain ⟨W1, hW1⟩ : ∃ W1, W1 = W0.alloc (.cells #[.int .i64 22, .int .i64 0, .int .i64 0, .int .i64 0, .slice none 0 0, .slice none 0 0] 46) := ⟨_, rfl⟩
  have HW : Hid (W0 = _) := hW0
  have HW1 : Hid (W1 = W0.alloc (.cells #[.int .i64 22, .int .i64 0, .int .i64 0, .int .i64 0, .slice none 0 0, .slice none 0 0] 46)) := hW1
  have b0 : Below w.heap.size w W0 := by rw [hW0]; exact bel_alloc _ _
  have b1 : Below W0.heap.size W0 W1 := by rw [hW1]; exact bel_alloc _ _
  have R0 : Blk W0 w.heap.size 46 #[.int .i64 0, .int .i64 0, .int .i64 0, .int .i64 0, .slice none 0 0, .slice none 0 0] := by rw [hW0]; exact Blk.new _ _ _
  have hg : W0.heap.size = w.heap.size + 1 := by rw [hW0]; simp
  obtain ⟨G, hG⟩ : ∃ G, G = W0.heap.size := ⟨_, rfl⟩
  have HG : Hid (w.heap.size < G) := by show w.heap.size < G; omega
  have HGe : Hid (G = W0.heap.size) := hG
  have Q1 : Blk W1 G 46 #[.int .i64 22, .int .i64 0, .int .i64 0, .int .i64 0, .slice none 0 0, .slice none 0 0] := by rw [hW1, hG]; exact Blk.new _ _ _
  have R1 := R0.below b1
  have B1 := bel_next b0 b1
  obtain ⟨bk, off, ea, hbk, hc⟩ := cell_at hs hp
  rw [hk] at hc
  have hc0 : W0.cell? ⟨bk, off, none⟩ = some (.int .u8 22) := (b0.cell (p := ⟨bk, off, none⟩) hbk).trans (by simpa using hc)
  have hc1 : W1.cell? ⟨bk, off, none⟩ = some (.int .u8 22) := (B1.cell (p := ⟨bk, off, none⟩) hbk).trans (by simpa using hc)
  have hz0 : (0 : Int) < (n : Int) := by omega
  have HS : Hid (n = zs.length ∧ Sl w a zs ∧ (∀ z ∈ zs, 0 ≤ z ∧ z ≤ 255)) := ⟨hn, hs, hr⟩
  have HP : Hid (0 < zs.length) := hp
  have hl2 : n ≤ 2000000 := by omega
  subst ea
  clear hn hs hr hc hW0 hW1 hg hG R0 hk hp
  go_enter Tryd.func64, Tryd.ntmps64
  go_upto_region 1 with fail
  rw [← HW.out]
  go_upto_region 4 with fail
  rw [← HW1.out]
  simp only [← HGe.out]
  clear hc0 b0 b1 hc1
  go_wp2_with fail
  refine (implWordAt_q _ n cap zs _ 1 _ rfl HS.out.1 (HS.out.2.1.below B1) HS.out.2.2 hl2).mono ?_
  rintro e w2 ⟨rfl, b'⟩
  have B2 := bel_next B1 b'
  have Q2 := Q1.below b'
  have R2 := R1.below b'
  clear B1 Q1 R1  b'
  go_wp2_with fail
  refine (implWordAt_q _ n cap zs _ 3 _ rfl HS.out.1 (HS.out.2.1.below B2) HS.out.2.2 hl2).mono ?_
  rintro e w3 ⟨rfl, b'⟩
  have B3 := bel_next B2 b'
  have Q3 := Q2.below b'
  have R3 := R2.below b'
  clear B2 Q2 R2  b'
  have k0 := Q3.cell 0 rfl
  go_upto_region 18 with fail
  go_wp2_with fail
  refine (wordsFrom_any _ n cap zs _ 3 _ rfl HS.out.1 (HS.out.2.1.below B3) HS.out.2.2 hl2 (by omega)).mono ?_
  rintro e w4 ⟨a', c', n', rfl, hn', oi, b'⟩
  have I := OwnI.mono oi B3.size
  have HN' : Hid (n' = _) := hn'
  clear hn' oi
  have B4 := bel_next B3 b'
  have Q4 := Q3.below b'
  have R4 := R3.below b'
  clear B3 Q3 R3  b'
  have I4 := I
  clear I
  have qc2 := Q4.cell 2 rfl
  have qf2 := Q4.fro 2
  have qc4 := Q4.cell 4 rfl
  have qf4 := Q4.fro 4
  have Q5 := ((Q4.set 2 (.int .i64 (wAt zs 1))).set 4 (.slice a' n' c'))
  have R5 := ((R4.setNe (g' := G) (j := 2) (y := .int .i64 (wAt zs 1)) (by have := HG.out; omega)).setNe (g' := G) (j := 4) (y := .slice a' n' c') (by have := HG.out; omega))
  have B5 := ((B4.setCell (p := ⟨G, 2, none⟩) (by show w.heap.size ≤ G; have := HG.out; omega) (.int .i64 (wAt zs 1))).setCell (p := ⟨G, 4, none⟩) (by show w.heap.size ≤ G; have := HG.out; omega) (.slice a' n' c'))
  have I5 : OwnI _ _ _ _ := (row_setE (j := 4) (y := .slice a' n' c') (row_setE (j := 2) (y := .int .i64 (wAt zs 1)) I4 ⟨_, Q4⟩ (by decide)) (ExB.set ⟨_, Q4⟩) (by decide))
  go_upto_region 22 with fail
  obtain ⟨w5, hw5⟩ : ∃ w5, w5 = ((w4.setCell ⟨G, 2, none⟩ (.int .i64 (wAt zs 1))).setCell ⟨G, 4, none⟩ (.slice a' n' c')) := ⟨_, rfl⟩
  rw [← hw5] at Q5 R5 B5 I5 ⊢
  clear hw5 qc2 qf2 qc4 qf4 Q4 R4 B4 I4
  have OI : OwnI w5 w.heap.size (.slice a' n' c') (wsF zs 3) := I5
  have OB : OwnB w5 w.heap.size (.slice none 0 0) [] := (ownB_nil _ _)
  obtain ⟨q0, q1, q2, q3, q4, q5⟩ := Q5.six
  obtain ⟨y0, y1, y2, y3, y4, y5⟩ := R5.six
  have fy := R5.fro
  have HH : Hid (OwnI w5 w.heap.size (.slice a' n' c') (wsF zs 3) ∧ OwnB w5 w.heap.size (.slice none 0 0) [] ∧ Below w.heap.size w w5 ∧ Blk w5 w.heap.size 46 #[.int .i64 0, .int .i64 0, .int .i64 0, .int .i64 0, .slice none 0 0, .slice none 0 0]) := ⟨OI, OB, B5, R5⟩
  clear OI OB B5 Q5 R5 I5
  go_wp2
  refine bodyPost_ret (v := rp (22) (0) ((wAt zs 1)) (0) a' none n' 0 c' 0) (by simp [results, Tryd.results64, go_sem, y0, y1, y2, y3, y4, y5]) rfl ?_
  obtain ⟨OI, OB, BE, RE⟩ := HH.out
  exact ⟨_, _, _, _, _, _, rfl, HN'.out, rfl, rowp_set6 OI ⟨_, RE⟩ (by decide), rowp_set6 OB ⟨_, RE⟩ (by decide), belp_set6 BE (Nat.le_refl _)⟩

set_option maxRecDepth 20000 in
set_option maxHeartbeats 8000000 in
theorem toldIn_15 (a : Option Addr) (n cap : Nat) (zs : List Int) (w : World) (hn : n = zs.length) (hs : Sl w a zs) (hr : ∀ z ∈ zs, 0 ≤ z ∧ z ≤ 255) (hl : n ≤ 1048576) (hp : 0 < zs.length) (hcap : n ≤ cap) (hk : zs.getD 0 0 = 15) :
    Calls Tryd.prog 64 #[.slice a n cap] w fun e w' => TR w w' e 15 0 (wAt zs 1) (wAt zs 3) [] [] := by
  obtain ⟨W0, hW0⟩ : ∃ W0, W0 = w.alloc (.cells #[.int .i64 0, .int .i64 0, .int .i64 0, .int .i64 0, .slice none 0 0, .slice none 0 0] 46) := ⟨_, rfl⟩
  obtain ⟨W1, hW1⟩ : ∃ W1, W1 = W0.alloc (.cells #[.int .i64 15, .int .i64 0, .int .i64 0, .int .i64 0, .slice none 0 0, .slice none 0 0] 46) := ⟨_, rfl⟩
  have HW : Hid (W0 = _) := hW0
  have HW1 : Hid (W1 = W0.alloc (.cells #[.int .i64 15, .int .i64 0, .int .i64 0, .int .i64 0, .slice none 0 0, .slice none 0 0] 46)) := hW1
  have b0 : Below w.heap.size w W0 := by rw [hW0]; exact bel_alloc _ _
  have b1 : Below W0.heap.size W0 W1 := by rw [hW1]; exact bel_alloc _ _
  have R0 : Blk W0 w.heap.size 46 #[.int .i64 0, .int .i64 0, .int .i64 0, .int .i64 0, .slice none 0 0, .slice none 0 0] := by rw [hW0]; exact Blk.new _ _ _
  have hg : W0.heap.size = w.heap.size + 1 := by rw [hW0]; simp
  obtain ⟨G, hG⟩ : ∃ G, G = W0.heap.size := ⟨_, rfl⟩
  have HG : Hid (w.heap.size < G) := by show w.heap.size < G; omega
  have HGe : Hid (G = W0.heap.size) := hG
  have Q1 : Blk W1 G 46 #[.int .i64 15, .int .i64 0, .int .i64 0, .int .i64 0, .slice none 0 0, .slice none 0 0] := by rw [hW1, hG]; exact Blk.new _ _ _
  have R1 := R0.below b1
  have B1 := bel_next b0 b1
  obtain ⟨bk, off, ea, hbk, hc⟩ := cell_at hs hp
  rw [hk] at hc
  have hc0 : W0.cell? ⟨bk, off, none⟩ = some (.int .u8 15) := (b0.cell (p := ⟨bk, off, none⟩) hbk).trans (by simpa using hc)
  have hc1 : W1.cell? ⟨bk, off, none⟩ = some (.int .u8 15) := (B1.cell (p := ⟨bk, off, none⟩) hbk).trans (by simpa using hc)
  have hz0 : (0 : Int) < (n : Int) := by omega
  have HS : Hid (n = zs.length ∧ Sl w a zs ∧ (∀ z ∈ zs, 0 ≤ z ∧ z ≤ 255)) := ⟨hn, hs, hr⟩
  have HP : Hid (0 < zs.length) := hp
  have hl2 : n ≤ 2000000 := by omega
  subst ea
  clear hn hs hr hc hW0 hW1 hg hG R0 hk hp
  go_enter Tryd.func64, Tryd.ntmps64
  go_upto_region 1 with fail
  rw [← HW.out]
  go_upto_region 4 with fail
  rw [← HW1.out]
  simp only [← HGe.out]
  clear hc0 b0 b1 hc1
  go_wp2_with fail
  refine (implWordAt_q _ n cap zs _ 1 _ rfl HS.out.1 (HS.out.2.1.below B1) HS.out.2.2 hl2).mono ?_
  rintro e w2 ⟨rfl, b'⟩
  have B2 := bel_next B1 b'
  have Q2 := Q1.below b'
  have R2 := R1.below b'
  clear B1 Q1 R1  b'
  go_wp2_with fail
  refine (implWordAt_q _ n cap zs _ 3 _ rfl HS.out.1 (HS.out.2.1.below B2) HS.out.2.2 hl2).mono ?_
  rintro e w3 ⟨rfl, b'⟩
  have B3 := bel_next B2 b'
  have Q3 := Q2.below b'
  have R3 := R2.below b'
  clear B2 Q2 R2  b'
  have k0 := Q3.cell 0 rfl
  go_upto_region 21 with fail
  have qc2 := Q3.cell 2 rfl
  have qf2 := Q3.fro 2
  have qc3 := Q3.cell 3 rfl
  have qf3 := Q3.fro 3
  have Q4 := ((Q3.set 2 (.int .i64 (wAt zs 1))).set 3 (.int .i64 (wAt zs 3)))
  have R4 := ((R3.setNe (g' := G) (j := 2) (y := .int .i64 (wAt zs 1)) (by have := HG.out; omega)).setNe (g' := G) (j := 3) (y := .int .i64 (wAt zs 3)) (by have := HG.out; omega))
  have B4 := ((B3.setCell (p := ⟨G, 2, none⟩) (by show w.heap.size ≤ G; have := HG.out; omega) (.int .i64 (wAt zs 1))).setCell (p := ⟨G, 3, none⟩) (by show w.heap.size ≤ G; have := HG.out; omega) (.int .i64 (wAt zs 3)))
  go_upto_region 22 with fail
  obtain ⟨w4, hw4⟩ : ∃ w4, w4 = ((w3.setCell ⟨G, 2, none⟩ (.int .i64 (wAt zs 1))).setCell ⟨G, 3, none⟩ (.int .i64 (wAt zs 3))) := ⟨_, rfl⟩
  rw [← hw4] at Q4 R4 B4 ⊢
  clear hw4 qc2 qf2 qc3 qf3 Q3 R3 B3 
  have OI : OwnI w4 w.heap.size (.slice none 0 0) [] := (ownI_nil _ _)
  have OB : OwnB w4 w.heap.size (.slice none 0 0) [] := (ownB_nil _ _)
  obtain ⟨q0, q1, q2, q3, q4, q5⟩ := Q4.six
  obtain ⟨y0, y1, y2, y3, y4, y5⟩ := R4.six
  have fy := R4.fro
  have HH : Hid (OwnI w4 w.heap.size (.slice none 0 0) [] ∧ OwnB w4 w.heap.size (.slice none 0 0) [] ∧ Below w.heap.size w w4 ∧ Blk w4 w.heap.size 46 #[.int .i64 0, .int .i64 0, .int .i64 0, .int .i64 0, .slice none 0 0, .slice none 0 0]) := ⟨OI, OB, B4, R4⟩
  clear OI OB B4 Q4 R4 
  go_wp2
  refine bodyPost_ret (v := rp (15) (0) ((wAt zs 1)) ((wAt zs 3)) none none 0 0 0 0) (by simp [results, Tryd.results64, go_sem, y0, y1, y2, y3, y4, y5]) rfl ?_
  obtain ⟨OI, OB, BE, RE⟩ := HH.out
  exact ⟨_, _, _, _, _, _, rfl, rfl, rfl, rowp_set6 OI ⟨_, RE⟩ (by decide), rowp_set6 OB ⟨_, RE⟩ (by decide), belp_set6 BE (Nat.le_refl _)⟩

set_option maxRecDepth 20000 in
set_option maxHeartbeats 8000000 in
theorem toldIn_16 (a : Option Addr) (n cap : Nat) (zs : List Int) (w : World) (hn : n = zs.length) (hs : Sl w a zs) (hr : ∀ z ∈ zs, 0 ≤ z ∧ z ≤ 255) (hl : n ≤ 1048576) (hp : 0 < zs.length) (hcap : n ≤ cap) (hk : zs.getD 0 0 = 16) :
    Calls Tryd.prog 64 #[.slice a n cap] w fun e w' => TR w w' e 16 0 (wAt zs 1) (wAt zs 3) [] [] := by
  obtain ⟨W0, hW0⟩ : ∃ W0, W0 = w.alloc (.cells #[.int .i64 0, .int .i64 0, .int .i64 0, .int .i64 0, .slice none 0 0, .slice none 0 0] 46) := ⟨_, rfl⟩
  obtain ⟨W1, hW1⟩ : ∃ W1, W1 = W0.alloc (.cells #[.int .i64 16, .int .i64 0, .int .i64 0, .int .i64 0, .slice none 0 0, .slice none 0 0] 46) := ⟨_, rfl⟩
  have HW : Hid (W0 = _) := hW0
  have HW1 : Hid (W1 = W0.alloc (.cells #[.int .i64 16, .int .i64 0, .int .i64 0, .int .i64 0, .slice none 0 0, .slice none 0 0] 46)) := hW1
  have b0 : Below w.heap.size w W0 := by rw [hW0]; exact bel_alloc _ _
  have b1 : Below W0.heap.size W0 W1 := by rw [hW1]; exact bel_alloc _ _
  have R0 : Blk W0 w.heap.size 46 #[.int .i64 0, .int .i64 0, .int .i64 0, .int .i64 0, .slice none 0 0, .slice none 0 0] := by rw [hW0]; exact Blk.new _ _ _
  have hg : W0.heap.size = w.heap.size + 1 := by rw [hW0]; simp
  obtain ⟨G, hG⟩ : ∃ G, G = W0.heap.size := ⟨_, rfl⟩
  have HG : Hid (w.heap.size < G) := by show w.heap.size < G; omega
  have HGe : Hid (G = W0.heap.size) := hG
  have Q1 : Blk W1 G 46 #[.int .i64 16, .int .i64 0, .int .i64 0, .int .i64 0, .slice none 0 0, .slice none 0 0] := by rw [hW1, hG]; exact Blk.new _ _ _
  have R1 := R0.below b1
  have B1 := bel_next b0 b1
  obtain ⟨bk, off, ea, hbk, hc⟩ := cell_at hs hp
  rw [hk] at hc
  have hc0 : W0.cell? ⟨bk, off, none⟩ = some (.int .u8 16) := (b0.cell (p := ⟨bk, off, none⟩) hbk).trans (by simpa using hc)
  have hc1 : W1.cell? ⟨bk, off, none⟩ = some (.int .u8 16) := (B1.cell (p := ⟨bk, off, none⟩) hbk).trans (by simpa using hc)
  have hz0 : (0 : Int) < (n : Int) := by omega
  have HS : Hid (n = zs.length ∧ Sl w a zs ∧ (∀ z ∈ zs, 0 ≤ z ∧ z ≤ 255)) := ⟨hn, hs, hr⟩
  have HP : Hid (0 < zs.length) := hp
  have hl2 : n ≤ 2000000 := by omega
  subst ea
  clear hn hs hr hc hW0 hW1 hg hG R0 hk hp
  go_enter Tryd.func64, Tryd.ntmps64
  go_upto_region 1 with fail
  rw [← HW.out]
  go_upto_region 4 with fail
  rw [← HW1.out]
  simp only [← HGe.out]
  clear hc0 b0 b1 hc1
  go_wp2_with fail
  refine (implWordAt_q _ n cap zs _ 1 _ rfl HS.out.1 (HS.out.2.1.below B1) HS.out.2.2 hl2).mono ?_
  rintro e w2 ⟨rfl, b'⟩
  have B2 := bel_next B1 b'
  have Q2 := Q1.below b'
  have R2 := R1.below b'
  clear B1 Q1 R1  b'
  go_wp2_with fail
  refine (implWordAt_q _ n cap zs _ 3 _ rfl HS.out.1 (HS.out.2.1.below B2) HS.out.2.2 hl2).mono ?_
  rintro e w3 ⟨rfl, b'⟩
  have B3 := bel_next B2 b'
  have Q3 := Q2.below b'
  have R3 := R2.below b'
  clear B2 Q2 R2  b'
  have k0 := Q3.cell 0 rfl
  go_upto_region 21 with fail
  have qc2 := Q3.cell 2 rfl
  have qf2 := Q3.fro 2
  have qc3 := Q3.cell 3 rfl
  have qf3 := Q3.fro 3
  have Q4 := ((Q3.set 2 (.int .i64 (wAt zs 1))).set 3 (.int .i64 (wAt zs 3)))
  have R4 := ((R3.setNe (g' := G) (j := 2) (y := .int .i64 (wAt zs 1)) (by have := HG.out; omega)).setNe (g' := G) (j := 3) (y := .int .i64 (wAt zs 3)) (by have := HG.out; omega))
  have B4 := ((B3.setCell (p := ⟨G, 2, none⟩) (by show w.heap.size ≤ G; have := HG.out; omega) (.int .i64 (wAt zs 1))).setCell (p := ⟨G, 3, none⟩) (by show w.heap.size ≤ G; have := HG.out; omega) (.int .i64 (wAt zs 3)))
  go_upto_region 22 with fail
  obtain ⟨w4, hw4⟩ : ∃ w4, w4 = ((w3.setCell ⟨G, 2, none⟩ (.int .i64 (wAt zs 1))).setCell ⟨G, 3, none⟩ (.int .i64 (wAt zs 3))) := ⟨_, rfl⟩
  rw [← hw4] at Q4 R4 B4 ⊢
  clear hw4 qc2 qf2 qc3 qf3 Q3 R3 B3 
  have OI : OwnI w4 w.heap.size (.slice none 0 0) [] := (ownI_nil _ _)
  have OB : OwnB w4 w.heap.size (.slice none 0 0) [] := (ownB_nil _ _)
  obtain ⟨q0, q1, q2, q3, q4, q5⟩ := Q4.six
  obtain ⟨y0, y1, y2, y3, y4, y5⟩ := R4.six
  have fy := R4.fro
  have HH : Hid (OwnI w4 w.heap.size (.slice none 0 0) [] ∧ OwnB w4 w.heap.size (.slice none 0 0) [] ∧ Below w.heap.size w w4 ∧ Blk w4 w.heap.size 46 #[.int .i64 0, .int .i64 0, .int .i64 0, .int .i64 0, .slice none 0 0, .slice none 0 0]) := ⟨OI, OB, B4, R4⟩
  clear OI OB B4 Q4 R4 
  go_wp2
  refine bodyPost_ret (v := rp (16) (0) ((wAt zs 1)) ((wAt zs 3)) none none 0 0 0 0) (by simp [results, Tryd.results64, go_sem, y0, y1, y2, y3, y4, y5]) rfl ?_
  obtain ⟨OI, OB, BE, RE⟩ := HH.out
  exact ⟨_, _, _, _, _, _, rfl, rfl, rfl, rowp_set6 OI ⟨_, RE⟩ (by decide), rowp_set6 OB ⟨_, RE⟩ (by decide), belp_set6 BE (Nat.le_refl _)⟩

set_option maxRecDepth 20000 in
set_option maxHeartbeats 8000000 in
theorem toldIn_no (a : Option Addr) (n cap : Nat) (zs : List Int) (w : World) (hn : n = zs.length) (hs : Sl w a zs) (hr : ∀ z ∈ zs, 0 ≤ z ∧ z ≤ 255) (hl : n ≤ 1048576) (hp : 0 < zs.length) (hcap : n ≤ cap) (k : Int) (hk : zs.getD 0 0 = k) (hk2 : k < 128) (hkk : kindB k = false) :
    Calls Tryd.prog 64 #[.slice a n cap] w fun e w' => TR w w' e k 0 0 0 [] [] := by
  have hkn := of_decide_eq_false hkk
  have n1 : ¬ k = 1 := by omega
  have n2 : ¬ k = 2 := by omega
  have n3 : ¬ k = 3 := by omega
  have n4 : ¬ k = 4 := by omega
  have n5 : ¬ k = 5 := by omega
  have n6 : ¬ k = 6 := by omega
  have n15 : ¬ k = 15 := by omega
  have n16 : ¬ k = 16 := by omega
  have n22 : ¬ k = 22 := by omega
  have n23 : ¬ k = 23 := by omega
  have hk0 : 0 ≤ k := by have := get_range hr 0; omega
  have h128 : ¬ k ≥ 128 := by omega
  clear hkn
  obtain ⟨W0, hW0⟩ : ∃ W0, W0 = w.alloc (.cells #[.int .i64 0, .int .i64 0, .int .i64 0, .int .i64 0, .slice none 0 0, .slice none 0 0] 46) := ⟨_, rfl⟩
  obtain ⟨W1, hW1⟩ : ∃ W1, W1 = W0.alloc (.cells #[.int .i64 k, .int .i64 0, .int .i64 0, .int .i64 0, .slice none 0 0, .slice none 0 0] 46) := ⟨_, rfl⟩
  have HW : Hid (W0 = _) := hW0
  have HW1 : Hid (W1 = W0.alloc (.cells #[.int .i64 k, .int .i64 0, .int .i64 0, .int .i64 0, .slice none 0 0, .slice none 0 0] 46)) := hW1
  have b0 : Below w.heap.size w W0 := by rw [hW0]; exact bel_alloc _ _
  have b1 : Below W0.heap.size W0 W1 := by rw [hW1]; exact bel_alloc _ _
  have R0 : Blk W0 w.heap.size 46 #[.int .i64 0, .int .i64 0, .int .i64 0, .int .i64 0, .slice none 0 0, .slice none 0 0] := by rw [hW0]; exact Blk.new _ _ _
  have hg : W0.heap.size = w.heap.size + 1 := by rw [hW0]; simp
  obtain ⟨G, hG⟩ : ∃ G, G = W0.heap.size := ⟨_, rfl⟩
  have HG : Hid (w.heap.size < G) := by show w.heap.size < G; omega
  have HGe : Hid (G = W0.heap.size) := hG
  have Q1 : Blk W1 G 46 #[.int .i64 k, .int .i64 0, .int .i64 0, .int .i64 0, .slice none 0 0, .slice none 0 0] := by rw [hW1, hG]; exact Blk.new _ _ _
  have R1 := R0.below b1
  have B1 := bel_next b0 b1
  obtain ⟨bk, off, ea, hbk, hc⟩ := cell_at hs hp
  rw [hk] at hc
  have hc0 : W0.cell? ⟨bk, off, none⟩ = some (.int .u8 k) := (b0.cell (p := ⟨bk, off, none⟩) hbk).trans (by simpa using hc)
  have hc1 : W1.cell? ⟨bk, off, none⟩ = some (.int .u8 k) := (B1.cell (p := ⟨bk, off, none⟩) hbk).trans (by simpa using hc)
  have hz0 : (0 : Int) < (n : Int) := by omega
  have HS : Hid (n = zs.length ∧ Sl w a zs ∧ (∀ z ∈ zs, 0 ≤ z ∧ z ≤ 255)) := ⟨hn, hs, hr⟩
  have HP : Hid (0 < zs.length) := hp
  have hl2 : n ≤ 2000000 := by omega
  subst ea
  clear hn hs hr hc hW0 hW1 hg hG R0 hk hp
  go_enter Tryd.func64, Tryd.ntmps64
  go_upto_region 1 with fail
  rw [← HW.out]
  go_upto_region 4 with fail
  rw [← HW1.out]
  simp only [← HGe.out]
  clear hc0 b0 b1 hc1
  go_wp2_with fail
  refine (implWordAt_q _ n cap zs _ 1 _ rfl HS.out.1 (HS.out.2.1.below B1) HS.out.2.2 hl2).mono ?_
  rintro e w2 ⟨rfl, b'⟩
  have B2 := bel_next B1 b'
  have Q2 := Q1.below b'
  have R2 := R1.below b'
  clear B1 Q1 R1  b'
  go_wp2_with fail
  refine (implWordAt_q _ n cap zs _ 3 _ rfl HS.out.1 (HS.out.2.1.below B2) HS.out.2.2 hl2).mono ?_
  rintro e w3 ⟨rfl, b'⟩
  have B3 := bel_next B2 b'
  have Q3 := Q2.below b'
  have R3 := R2.below b'
  clear B2 Q2 R2  b'
  have k0 := Q3.cell 0 rfl
  go_upto_region 22 with fail
  have OI : OwnI w3 w.heap.size (.slice none 0 0) [] := (ownI_nil _ _)
  have OB : OwnB w3 w.heap.size (.slice none 0 0) [] := (ownB_nil _ _)
  obtain ⟨q0, q1, q2, q3, q4, q5⟩ := Q3.six
  obtain ⟨y0, y1, y2, y3, y4, y5⟩ := R3.six
  have fy := R3.fro
  have HH : Hid (OwnI w3 w.heap.size (.slice none 0 0) [] ∧ OwnB w3 w.heap.size (.slice none 0 0) [] ∧ Below w.heap.size w w3 ∧ Blk w3 w.heap.size 46 #[.int .i64 0, .int .i64 0, .int .i64 0, .int .i64 0, .slice none 0 0, .slice none 0 0]) := ⟨OI, OB, B3, R3⟩
  clear OI OB B3 Q3 R3 
  go_wp2
  refine bodyPost_ret (v := rp (k) (0) (0) (0) none none 0 0 0 0) (by simp [results, Tryd.results64, go_sem, y0, y1, y2, y3, y4, y5]) rfl ?_
  obtain ⟨OI, OB, BE, RE⟩ := HH.out
  exact ⟨_, _, _, _, _, _, rfl, rfl, rfl, rowp_set6 OI ⟨_, RE⟩ (by decide), rowp_set6 OB ⟨_, RE⟩ (by decide), belp_set6 BE (Nat.le_refl _)⟩

set_option maxRecDepth 20000 in
set_option maxHeartbeats 8000000 in
theorem faultIn_1 (a : Option Addr) (n cap : Nat) (zs : List Int) (w : World) (hn : n = zs.length) (hs : Sl w a zs) (hr : ∀ z ∈ zs, 0 ≤ z ∧ z ≤ 255) (hl : n ≤ 1048576) (hp : 0 < zs.length) (hcap : n ≤ cap) (k y : Int) (h0 : 0 ≤ k) (hk : zs.getD 0 0 = k + 128) (h1 : 1 < n) (hy : zs.getD 1 0 = y) :
    Calls Tryd.prog 85 #[.slice a n cap] w fun e w' => TR w w' e k y 0 0 [] [] := by
  have hk0 : 0 ≤ k ∧ k < 128 := by have := get_range hr 0; omega
  have hs128 : k + 128 - 128 = k := by omega
  obtain ⟨W0, hW0⟩ : ∃ W0, W0 = w.alloc (.cells #[.int .i64 0, .int .i64 0, .int .i64 0, .int .i64 0, .slice none 0 0, .slice none 0 0] 46) := ⟨_, rfl⟩
  obtain ⟨W1, hW1⟩ : ∃ W1, W1 = W0.alloc (.cells #[.int .i64 k, .int .i64 0, .int .i64 0, .int .i64 0, .slice none 0 0, .slice none 0 0] 46) := ⟨_, rfl⟩
  have HW : Hid (W0 = _) := hW0
  have HW1 : Hid (W1 = W0.alloc (.cells #[.int .i64 k, .int .i64 0, .int .i64 0, .int .i64 0, .slice none 0 0, .slice none 0 0] 46)) := hW1
  have b0 : Below w.heap.size w W0 := by rw [hW0]; exact bel_alloc _ _
  have b1 : Below W0.heap.size W0 W1 := by rw [hW1]; exact bel_alloc _ _
  have R0 : Blk W0 w.heap.size 46 #[.int .i64 0, .int .i64 0, .int .i64 0, .int .i64 0, .slice none 0 0, .slice none 0 0] := by rw [hW0]; exact Blk.new _ _ _
  have hg : W0.heap.size = w.heap.size + 1 := by rw [hW0]; simp
  obtain ⟨G, hG⟩ : ∃ G, G = W0.heap.size := ⟨_, rfl⟩
  have HG : Hid (w.heap.size < G) := by show w.heap.size < G; omega
  have HGe : Hid (G = W0.heap.size) := hG
  have Q1 : Blk W1 G 46 #[.int .i64 k, .int .i64 0, .int .i64 0, .int .i64 0, .slice none 0 0, .slice none 0 0] := by rw [hW1, hG]; exact Blk.new _ _ _
  have R1 := R0.below b1
  have B1 := bel_next b0 b1
  obtain ⟨bk, off, ea, hbk, hc⟩ := cell_at hs hp
  rw [hk] at hc
  have hc0 : W0.cell? ⟨bk, off, none⟩ = some (.int .u8 (k + 128)) := (b0.cell (p := ⟨bk, off, none⟩) hbk).trans (by simpa using hc)
  have hc1 : W1.cell? ⟨bk, off, none⟩ = some (.int .u8 (k + 128)) := (B1.cell (p := ⟨bk, off, none⟩) hbk).trans (by simpa using hc)
  have hz0 : (0 : Int) < (n : Int) := by omega
  have HS : Hid (n = zs.length ∧ Sl w a zs ∧ (∀ z ∈ zs, 0 ≤ z ∧ z ≤ 255)) := ⟨hn, hs, hr⟩
  have HP : Hid (0 < zs.length) := hp
  have hl2 : n ≤ 2000000 := by omega
  subst ea
  clear hn hs hr hc hW0 hW1 hg hG R0 hk hp
  go_enter Tryd.func85, Tryd.ntmps85
  go_upto_region 1 with fail
  rw [← HW.out]
  go_upto_region 2 with fail
  rw [← HW1.out]
  simp only [← HGe.out]
  clear hc0 b0 b1 hc1
  obtain ⟨_, _, e2, hbk2, hc2⟩ := cell_at HS.out.2.1 (show 1 < zs.length by have := HS.out; omega)
  simp at e2
  obtain ⟨rfl, rfl⟩ := e2
  have hc3 : W1.cell? ⟨bk, off + 1, none⟩ = some (.int .u8 (zs.getD 1 0)) := (B1.cell (p := ⟨bk, off + 1, none⟩) hbk2).trans hc2
  have hrg := get_range HS.out.2.2 1
  rw [hy] at hc3 hrg
  clear hy hc2 hbk2
  have g1 : (1 : Int) < (n : Int) := by omega
  go_upto_region 3 with fail
  have qc1 := Q1.cell 1 rfl
  have qf1 := Q1.fro 1
  have Q2 := (Q1.set 1 (.int .i64 y))
  have R2 := (R1.setNe (g' := G) (j := 1) (y := .int .i64 y) (by have := HG.out; omega))
  have B2 := (B1.setCell (p := ⟨G, 1, none⟩) (by show w.heap.size ≤ G; have := HG.out; omega) (.int .i64 y))
  go_upto_region 4 with fail
  obtain ⟨w2, hw2⟩ : ∃ w2, w2 = (W1.setCell ⟨G, 1, none⟩ (.int .i64 y)) := ⟨_, rfl⟩
  rw [← hw2] at Q2 R2 B2 ⊢
  clear hw2 qc1 qf1 Q1 R1 B1 
  have OI : OwnI w2 w.heap.size (.slice none 0 0) [] := (ownI_nil _ _)
  have OB : OwnB w2 w.heap.size (.slice none 0 0) [] := (ownB_nil _ _)
  obtain ⟨q0, q1, q2, q3, q4, q5⟩ := Q2.six
  obtain ⟨y0, y1, y2, y3, y4, y5⟩ := R2.six
  have fy := R2.fro
  have HH : Hid (OwnI w2 w.heap.size (.slice none 0 0) [] ∧ OwnB w2 w.heap.size (.slice none 0 0) [] ∧ Below w.heap.size w w2 ∧ Blk w2 w.heap.size 46 #[.int .i64 0, .int .i64 0, .int .i64 0, .int .i64 0, .slice none 0 0, .slice none 0 0]) := ⟨OI, OB, B2, R2⟩
  clear OI OB B2 Q2 R2 
  go_wp2
  refine bodyPost_ret (v := rp (k) (y) (0) (0) none none 0 0 0 0) (by simp [results, Tryd.results85, go_sem, y0, y1, y2, y3, y4, y5]) rfl ?_
  obtain ⟨OI, OB, BE, RE⟩ := HH.out
  exact ⟨_, _, _, _, _, _, rfl, rfl, rfl, rowp_set6 OI ⟨_, RE⟩ (by decide), rowp_set6 OB ⟨_, RE⟩ (by decide), belp_set6 BE (Nat.le_refl _)⟩

set_option maxRecDepth 20000 in
set_option maxHeartbeats 8000000 in
theorem faultIn_0 (a : Option Addr) (n cap : Nat) (zs : List Int) (w : World) (hn : n = zs.length) (hs : Sl w a zs) (hr : ∀ z ∈ zs, 0 ≤ z ∧ z ≤ 255) (hl : n ≤ 1048576) (hp : 0 < zs.length) (hcap : n ≤ cap) (k : Int) (h0 : 0 ≤ k) (hk : zs.getD 0 0 = k + 128) (h1 : ¬ 1 < n) :
    Calls Tryd.prog 85 #[.slice a n cap] w fun e w' => TR w w' e k 0 0 0 [] [] := by
  have hk0 : 0 ≤ k ∧ k < 128 := by have := get_range hr 0; omega
  have hs128 : k + 128 - 128 = k := by omega
  obtain ⟨W0, hW0⟩ : ∃ W0, W0 = w.alloc (.cells #[.int .i64 0, .int .i64 0, .int .i64 0, .int .i64 0, .slice none 0 0, .slice none 0 0] 46) := ⟨_, rfl⟩
  obtain ⟨W1, hW1⟩ : ∃ W1, W1 = W0.alloc (.cells #[.int .i64 k, .int .i64 0, .int .i64 0, .int .i64 0, .slice none 0 0, .slice none 0 0] 46) := ⟨_, rfl⟩
  have HW : Hid (W0 = _) := hW0
  have HW1 : Hid (W1 = W0.alloc (.cells #[.int .i64 k, .int .i64 0, .int .i64 0, .int .i64 0, .slice none 0 0, .slice none 0 0] 46)) := hW1
  have b0 : Below w.heap.size w W0 := by rw [hW0]; exact bel_alloc _ _
  have b1 : Below W0.heap.size W0 W1 := by rw [hW1]; exact bel_alloc _ _
  have R0 : Blk W0 w.heap.size 46 #[.int .i64 0, .int .i64 0, .int .i64 0, .int .i64 0, .slice none 0 0, .slice none 0 0] := by rw [hW0]; exact Blk.new _ _ _
  have hg : W0.heap.size = w.heap.size + 1 := by rw [hW0]; simp
  obtain ⟨G, hG⟩ : ∃ G, G = W0.heap.size := ⟨_, rfl⟩
  have HG : Hid (w.heap.size < G) := by show w.heap.size < G; omega
  have HGe : Hid (G = W0.heap.size) := hG
  have Q1 : Blk W1 G 46 #[.int .i64 k, .int .i64 0, .int .i64 0, .int .i64 0, .slice none 0 0, .slice none 0 0] := by rw [hW1, hG]; exact Blk.new _ _ _
  have R1 := R0.below b1
  have B1 := bel_next b0 b1
  obtain ⟨bk, off, ea, hbk, hc⟩ := cell_at hs hp
  rw [hk] at hc
  have hc0 : W0.cell? ⟨bk, off, none⟩ = some (.int .u8 (k + 128)) := (b0.cell (p := ⟨bk, off, none⟩) hbk).trans (by simpa using hc)
  have hc1 : W1.cell? ⟨bk, off, none⟩ = some (.int .u8 (k + 128)) := (B1.cell (p := ⟨bk, off, none⟩) hbk).trans (by simpa using hc)
  have hz0 : (0 : Int) < (n : Int) := by omega
  have HS : Hid (n = zs.length ∧ Sl w a zs ∧ (∀ z ∈ zs, 0 ≤ z ∧ z ≤ 255)) := ⟨hn, hs, hr⟩
  have HP : Hid (0 < zs.length) := hp
  have hl2 : n ≤ 2000000 := by omega
  subst ea
  clear hn hs hr hc hW0 hW1 hg hG R0 hk hp
  go_enter Tryd.func85, Tryd.ntmps85
  go_upto_region 1 with fail
  rw [← HW.out]
  go_upto_region 2 with fail
  rw [← HW1.out]
  simp only [← HGe.out]
  clear hc0 b0 b1 hc1
  have g1 : ¬ (1 : Int) < (n : Int) := by omega
  go_upto_region 4 with fail
  have OI : OwnI W1 w.heap.size (.slice none 0 0) [] := (ownI_nil _ _)
  have OB : OwnB W1 w.heap.size (.slice none 0 0) [] := (ownB_nil _ _)
  obtain ⟨q0, q1, q2, q3, q4, q5⟩ := Q1.six
  obtain ⟨y0, y1, y2, y3, y4, y5⟩ := R1.six
  have fy := R1.fro
  have HH : Hid (OwnI W1 w.heap.size (.slice none 0 0) [] ∧ OwnB W1 w.heap.size (.slice none 0 0) [] ∧ Below w.heap.size w W1 ∧ Blk W1 w.heap.size 46 #[.int .i64 0, .int .i64 0, .int .i64 0, .int .i64 0, .slice none 0 0, .slice none 0 0]) := ⟨OI, OB, B1, R1⟩
  clear OI OB B1 Q1 R1 
  go_wp2
  refine bodyPost_ret (v := rp (k) (0) (0) (0) none none 0 0 0 0) (by simp [results, Tryd.results85, go_sem, y0, y1, y2, y3, y4, y5]) rfl ?_
  obtain ⟨OI, OB, BE, RE⟩ := HH.out
  exact ⟨_, _, _, _, _, _, rfl, rfl, rfl, rowp_set6 OI ⟨_, RE⟩ (by decide), rowp_set6 OB ⟨_, RE⟩ (by decide), belp_set6 BE (Nat.le_refl _)⟩

end Go.Proofs.YtoofkikenfgbpaaDoor
