/- Texts that the proof needs, joined: Tx4. -/
import Derived.Test.YtklnfeblkffgiaaDoorV11
namespace Go.Proofs.YtklnfeblkffgiaaDoor
open Go.RowKit
set_option linter.unusedVariables false
set_option linter.unusedSimpArgs false
theorem sl_one {w : World} {g : Nat} {x : Int} (hc : w.cell? ⟨g, 0, none⟩ = some (.int .i64 x)) : SlI w (some ⟨g, 0, none⟩) [x] :=
  .inr ⟨g, 0, rfl, World.block_lt_of_cell? _ _ hc, fun i hi => by
    have e : i = 0 := by simpa using hi
    subst e
    simpa using hc⟩
theorem cell_al (w : World) (v : Value) (t : TypeId) : (w.alloc (.cells #[v] t)).cell? ⟨w.heap.size, 0, none⟩ = some v := by simp [go_sem]
theorem cell_al2 (w : World) (v : Value) (t : TypeId) (o : Obj) : ((w.alloc (.cells #[v] t)).alloc o).cell? ⟨w.heap.size, 0, none⟩ = some v := by
  have h := (bel_alloc (w.alloc (.cells #[v] t)) o).cell (p := ⟨w.heap.size, 0, none⟩) (by simp)
  rw [h]; exact cell_al w v t
theorem cell_al3 (w : World) (v : Value) (t : TypeId) (o : Obj) : ((w.alloc o).alloc (.cells #[v] t)).cell? ⟨w.heap.size + 1, 0, none⟩ = some v := by
  have h := cell_al (w.alloc o) v t
  have e : (w.alloc o).heap.size = w.heap.size + 1 := by simp
  rw [e] at h; exact h
theorem cell_h {u x : World} {p : Addr} {v : Value} (h : x.cell? p = some v) (hu : u.heap = x.heap) : u.cell? p = some v := by
  unfold World.cell? at *
  rw [hu]; exact h
theorem cell_st {u w1 : World} {g : Nat} {v : Value} (b : Below u.heap.size u w1) (hc : u.cell? ⟨g, 0, none⟩ = some v) : w1.cell? ⟨g, 0, none⟩ = some v :=
  (b.cell (p := ⟨g, 0, none⟩) (World.block_lt_of_cell? _ _ hc)).trans hc
set_option maxRecDepth 20000 in
set_option maxHeartbeats 2000000 in
theorem implText_good (wt tr : Int) (a : Option Addr) (n cap : Nat) (f : Nat → Ru) (w : World) (hs : SlU w a n f) (hn : n ≤ 24) (b : Bool) (hb : b = true ↔ OkRs f n) (h64 : ∀ k, k < n → -9223372036854775808 ≤ (f k).sh ∧ (f k).sh ≤ 9223372036854775807) (hok : okC wt tr b = true) (h1 : -1000000 ≤ wt ∧ wt ≤ 1000000) (h2 : -1000000 ≤ tr ∧ tr ≤ 1000000) (hsm : SmR f n) (ht : Pw w) :
    Calls Tryd.prog 8 #[.agg (cfc wt tr a n cap)] w fun e w' => e = .returned (.string (tx (cfT wt tr f n))) ∧ Below w.heap.size w w' := by
  obtain ⟨W, hW⟩ : ∃ W, W = w.alloc (.cells (cfc wt tr a n cap) 26) := ⟨_, rfl⟩
  have bW : Below w.heap.size w W := by rw [hW]; exact bel_alloc _ _
  obtain ⟨B, hB⟩ : ∃ B, B = w.heap.size := ⟨_, rfl⟩
  have HW : Hid (Blk W B 26 (cfc wt tr a n cap) ∧ Below w.heap.size w W) := ⟨by rw [hW, hB]; exact Blk.new w _ _, bW⟩
  have HS : Hid (SlU w a n f ∧ (b = true ↔ OkRs f n) ∧ okC wt tr b = true ∧ SmR f n ∧ w.heap.size = B ∧ Pw w ∧ ∀ k, k < n → -9223372036854775808 ≤ (f k).sh ∧ (f k).sh ≤ 9223372036854775807) := ⟨hs, hb, hok, hsm, hB.symm, ht, h64⟩
  clear hs hb hok hsm bW ht h64
  go_enter Tryd.func8, Tryd.ntmps8
  go_upto_region 1 with fail
  rw [← hW, ← hB]
  clear hW hB
  obtain ⟨⟨y0, y1, y2⟩, _⟩ := HW.out.1.thr
  go_wp2_with fail
  refine (implConfigOk_any wt tr a n cap f _ (SlS.below HS.out.1 HW.out.2) (by omega) HS.out.2.2.2.2.2.2 b HS.out.2.1).mono ?_
  rintro e w1 ⟨rfl, b1⟩
  rw [HS.out.2.2.1]
  have HW1 : Hid (Blk w1 B 26 (cfc wt tr a n cap) ∧ Below w.heap.size w w1) := ⟨HW.out.1.below b1, bel_next HW.out.2 b1⟩
  clear b1 HW y0 y1 y2
  obtain ⟨⟨y0, y1, y2⟩, _⟩ := HW1.out.1.thr
  obtain ⟨LA, hLA⟩ : ∃ LA, LA = lnT [119, 97, 105, 116] [wt] := ⟨_, rfl⟩
  obtain ⟨LB, hLB⟩ : ∃ LB, LB = lnT [116, 114, 105, 101, 115] [tr] := ⟨_, rfl⟩
  have HLA : Hid (LA = lnT [119, 97, 105, 116] [wt] ∧ LB = lnT [116, 114, 105, 101, 115] [tr]) := ⟨hLA, hLB⟩
  have q1 : LA.length ≤ 7000100 := by rw [hLA]; exact lnT_len _ _ (by intro n hn; simp at hn; subst hn; exact h1) (by simp) (by simp)
  have q2 : LB.length ≤ 7000100 := by rw [hLB]; exact lnT_len _ _ (by intro n hn; simp at hn; subst hn; exact h2) (by simp) (by simp)
  have g1 : tx LA ++ tx LB = tx (cfT wt tr f 0) := by rw [tx_append, cfT_zero, hLA, hLB]
  have k1 : ¬ (9223372036854775807 < (tx LA).size + (tx LB).size) := no_big (by rw [tx_size, tx_size]; omega)
  have HCA : Hid (∀ (u : World) (g : Nat), Below w.heap.size w u → u.cell? ⟨g, 0, none⟩ = some (.int .i64 wt) → Calls Tryd.prog 21 #[.string (ByteArray.mk #[119, 97, 105, 116]), .slice (some ⟨g, 0, none⟩) 1 1] u fun e w' => e = .returned (.string (tx LA)) ∧ Below u.heap.size u w') := by
    intro u g hu hc
    rw [hLA]
    exact configLine_any [119, 97, 105, 116] _ rfl (by simp) [wt] _ 1 1 u rfl (sl_one hc) (by simp) (by intro n hn; simp at hn; subst hn; exact h1) (HS.out.2.2.2.2.2.1.below hu)
  have HCB : Hid (∀ (u : World) (g : Nat), Below w.heap.size w u → u.cell? ⟨g, 0, none⟩ = some (.int .i64 tr) → Calls Tryd.prog 21 #[.string (ByteArray.mk #[116, 114, 105, 101, 115]), .slice (some ⟨g, 0, none⟩) 1 1] u fun e w' => e = .returned (.string (tx LB)) ∧ Below u.heap.size u w') := by
    intro u g hu hc
    rw [hLB]
    exact configLine_any [116, 114, 105, 101, 115] _ rfl (by simp) [tr] _ 1 1 u rfl (sl_one hc) (by simp) (by intro n hn; simp at hn; subst hn; exact h2) (HS.out.2.2.2.2.2.1.below hu)
  clear hLA hLB q1 q2
  have n0 : ¬ B = w1.heap.size := by have := HW1.out.1.lt; omega
  have n1 : ¬ B = w1.heap.size + 1 := by have := HW1.out.1.lt; omega
  have n2 : B < w1.heap.size := HW1.out.1.lt
  go_upto_region 3 with fail
  go_cut [3] (fun sX wx => sX = .string (tx (cfT wt tr f 0)) ∧ Blk wx B 26 (cfc wt tr a n cap) ∧ Below w.heap.size w wx)
  case first =>
    go_region_with (go_at_call 21; first | (with_reducible refine (HCA.out _ _ ?_ ?_).mono ?_; (first | exact bel_next HW2.2 (Below.refl _ _) | exact bel_next HW2.2 (bel_alloc _ _) | exact bel_next HW2.2 (bel_next (bel_alloc _ _) (bel_alloc _ _)) | exact bel_next HW2.2 (Below.refl _ _).drew | exact bel_next HW2.2 (bel_alloc _ _).drew | exact bel_next HW2.2 (bel_next (bel_alloc _ _) (bel_alloc _ _)).drew | exact bel_next HW2.2 (Below.refl _ _).drew.drew | exact bel_next HW2.2 (bel_alloc _ _).drew.drew | exact bel_next HW2.2 (bel_next (bel_alloc _ _) (bel_alloc _ _)).drew.drew | exact bel_next HW1.out.2 (Below.refl _ _) | exact bel_next HW1.out.2 (bel_alloc _ _) | exact bel_next HW1.out.2 (bel_next (bel_alloc _ _) (bel_alloc _ _)) | exact bel_next HW1.out.2 (Below.refl _ _).drew | exact bel_next HW1.out.2 (bel_alloc _ _).drew | exact bel_next HW1.out.2 (bel_next (bel_alloc _ _) (bel_alloc _ _)).drew | exact bel_next HW1.out.2 (Below.refl _ _).drew.drew | exact bel_next HW1.out.2 (bel_alloc _ _).drew.drew | exact bel_next HW1.out.2 (bel_next (bel_alloc _ _) (bel_alloc _ _)).drew.drew); (first | exact cell_h cA0 rfl | exact cell_h cA1 rfl | exact cell_h cB0 rfl | exact cell_h cB1 rfl | exact cell_h (cell_al w2 _ _) rfl | exact cell_h (cell_al2 w2 _ _ _) rfl | exact cell_h (cell_al3 w2 _ _ _) rfl | exact cell_h (cell_al w1 _ _) rfl | exact cell_h (cell_al2 w1 _ _ _) rfl | exact cell_h (cell_al3 w1 _ _ _) rfl); rintro e w2 ⟨rfl, b2⟩; (first | (have cA0 : w2.cell? ⟨w1.heap.size, 0, none⟩ = some (.int .i64 wt) := cell_st b2 (by first | exact cell_h (cell_al w2 _ _) rfl | exact cell_h (cell_al2 w2 _ _ _) rfl | exact cell_h (cell_al3 w2 _ _ _) rfl | exact cell_h (cell_al w1 _ _) rfl | exact cell_h (cell_al2 w1 _ _ _) rfl | exact cell_h (cell_al3 w1 _ _ _) rfl| exact cell_h cA0 rfl)) | skip); (first | (have cA1 : w2.cell? ⟨w1.heap.size + 1, 0, none⟩ = some (.int .i64 wt) := cell_st b2 (by first | exact cell_h (cell_al w2 _ _) rfl | exact cell_h (cell_al2 w2 _ _ _) rfl | exact cell_h (cell_al3 w2 _ _ _) rfl | exact cell_h (cell_al w1 _ _) rfl | exact cell_h (cell_al2 w1 _ _ _) rfl | exact cell_h (cell_al3 w1 _ _ _) rfl| exact cell_h cA1 rfl)) | skip); (first | (have cB0 : w2.cell? ⟨w1.heap.size, 0, none⟩ = some (.int .i64 tr) := cell_st b2 (by first | exact cell_h (cell_al w2 _ _) rfl | exact cell_h (cell_al2 w2 _ _ _) rfl | exact cell_h (cell_al3 w2 _ _ _) rfl | exact cell_h (cell_al w1 _ _) rfl | exact cell_h (cell_al2 w1 _ _ _) rfl | exact cell_h (cell_al3 w1 _ _ _) rfl| exact cell_h cB0 rfl)) | skip); (first | (have cB1 : w2.cell? ⟨w1.heap.size + 1, 0, none⟩ = some (.int .i64 tr) := cell_st b2 (by first | exact cell_h (cell_al w2 _ _) rfl | exact cell_h (cell_al2 w2 _ _ _) rfl | exact cell_h (cell_al3 w2 _ _ _) rfl | exact cell_h (cell_al w1 _ _) rfl | exact cell_h (cell_al2 w1 _ _ _) rfl | exact cell_h (cell_al3 w1 _ _ _) rfl| exact cell_h cB1 rfl)) | skip); have HW2 := (show Blk w2 B 26 (cfc wt tr a n cap) ∧ Below w.heap.size w w2 from (by first | exact ⟨HW2.1.below (bel_next (Below.refl _ _) b2), bel_next HW2.2 (bel_next (Below.refl _ _) b2)⟩ | exact ⟨HW2.1.below (bel_next (bel_alloc _ _) b2), bel_next HW2.2 (bel_next (bel_alloc _ _) b2)⟩ | exact ⟨HW2.1.below (bel_next (bel_next (bel_alloc _ _) (bel_alloc _ _)) b2), bel_next HW2.2 (bel_next (bel_next (bel_alloc _ _) (bel_alloc _ _)) b2)⟩ | exact ⟨HW2.1.below (bel_next (Below.refl _ _).drew b2), bel_next HW2.2 (bel_next (Below.refl _ _).drew b2)⟩ | exact ⟨HW2.1.below (bel_next (bel_alloc _ _).drew b2), bel_next HW2.2 (bel_next (bel_alloc _ _).drew b2)⟩ | exact ⟨HW2.1.below (bel_next (bel_next (bel_alloc _ _) (bel_alloc _ _)).drew b2), bel_next HW2.2 (bel_next (bel_next (bel_alloc _ _) (bel_alloc _ _)).drew b2)⟩ | exact ⟨HW2.1.below (bel_next (Below.refl _ _).drew.drew b2), bel_next HW2.2 (bel_next (Below.refl _ _).drew.drew b2)⟩ | exact ⟨HW2.1.below (bel_next (bel_alloc _ _).drew.drew b2), bel_next HW2.2 (bel_next (bel_alloc _ _).drew.drew b2)⟩ | exact ⟨HW2.1.below (bel_next (bel_next (bel_alloc _ _) (bel_alloc _ _)).drew.drew b2), bel_next HW2.2 (bel_next (bel_next (bel_alloc _ _) (bel_alloc _ _)).drew.drew b2)⟩ | exact ⟨HW1.out.1.below (bel_next (Below.refl _ _) b2), bel_next HW1.out.2 (bel_next (Below.refl _ _) b2)⟩ | exact ⟨HW1.out.1.below (bel_next (bel_alloc _ _) b2), bel_next HW1.out.2 (bel_next (bel_alloc _ _) b2)⟩ | exact ⟨HW1.out.1.below (bel_next (bel_next (bel_alloc _ _) (bel_alloc _ _)) b2), bel_next HW1.out.2 (bel_next (bel_next (bel_alloc _ _) (bel_alloc _ _)) b2)⟩ | exact ⟨HW1.out.1.below (bel_next (Below.refl _ _).drew b2), bel_next HW1.out.2 (bel_next (Below.refl _ _).drew b2)⟩ | exact ⟨HW1.out.1.below (bel_next (bel_alloc _ _).drew b2), bel_next HW1.out.2 (bel_next (bel_alloc _ _).drew b2)⟩ | exact ⟨HW1.out.1.below (bel_next (bel_next (bel_alloc _ _) (bel_alloc _ _)).drew b2), bel_next HW1.out.2 (bel_next (bel_next (bel_alloc _ _) (bel_alloc _ _)).drew b2)⟩ | exact ⟨HW1.out.1.below (bel_next (Below.refl _ _).drew.drew b2), bel_next HW1.out.2 (bel_next (Below.refl _ _).drew.drew b2)⟩ | exact ⟨HW1.out.1.below (bel_next (bel_alloc _ _).drew.drew b2), bel_next HW1.out.2 (bel_next (bel_alloc _ _).drew.drew b2)⟩ | exact ⟨HW1.out.1.below (bel_next (bel_next (bel_alloc _ _) (bel_alloc _ _)).drew.drew b2), bel_next HW1.out.2 (bel_next (bel_next (bel_alloc _ _) (bel_alloc _ _)).drew.drew b2)⟩)); clear b2; obtain ⟨⟨y0', y1', y2'⟩, _⟩ := HW2.1.thr; have n0' : ¬ B = w2.heap.size := (by have := HW2.1.lt; omega); have n1' : ¬ B = w2.heap.size + 1 := (by have := HW2.1.lt; omega); have n2' := HW2.1.lt) | (with_reducible refine (HCB.out _ _ ?_ ?_).mono ?_; (first | exact bel_next HW2.2 (Below.refl _ _) | exact bel_next HW2.2 (bel_alloc _ _) | exact bel_next HW2.2 (bel_next (bel_alloc _ _) (bel_alloc _ _)) | exact bel_next HW2.2 (Below.refl _ _).drew | exact bel_next HW2.2 (bel_alloc _ _).drew | exact bel_next HW2.2 (bel_next (bel_alloc _ _) (bel_alloc _ _)).drew | exact bel_next HW2.2 (Below.refl _ _).drew.drew | exact bel_next HW2.2 (bel_alloc _ _).drew.drew | exact bel_next HW2.2 (bel_next (bel_alloc _ _) (bel_alloc _ _)).drew.drew | exact bel_next HW1.out.2 (Below.refl _ _) | exact bel_next HW1.out.2 (bel_alloc _ _) | exact bel_next HW1.out.2 (bel_next (bel_alloc _ _) (bel_alloc _ _)) | exact bel_next HW1.out.2 (Below.refl _ _).drew | exact bel_next HW1.out.2 (bel_alloc _ _).drew | exact bel_next HW1.out.2 (bel_next (bel_alloc _ _) (bel_alloc _ _)).drew | exact bel_next HW1.out.2 (Below.refl _ _).drew.drew | exact bel_next HW1.out.2 (bel_alloc _ _).drew.drew | exact bel_next HW1.out.2 (bel_next (bel_alloc _ _) (bel_alloc _ _)).drew.drew); (first | exact cell_h cA0 rfl | exact cell_h cA1 rfl | exact cell_h cB0 rfl | exact cell_h cB1 rfl | exact cell_h (cell_al w2 _ _) rfl | exact cell_h (cell_al2 w2 _ _ _) rfl | exact cell_h (cell_al3 w2 _ _ _) rfl | exact cell_h (cell_al w1 _ _) rfl | exact cell_h (cell_al2 w1 _ _ _) rfl | exact cell_h (cell_al3 w1 _ _ _) rfl); rintro e w2 ⟨rfl, b2⟩; (first | (have cA0 : w2.cell? ⟨w1.heap.size, 0, none⟩ = some (.int .i64 wt) := cell_st b2 (by first | exact cell_h (cell_al w2 _ _) rfl | exact cell_h (cell_al2 w2 _ _ _) rfl | exact cell_h (cell_al3 w2 _ _ _) rfl | exact cell_h (cell_al w1 _ _) rfl | exact cell_h (cell_al2 w1 _ _ _) rfl | exact cell_h (cell_al3 w1 _ _ _) rfl| exact cell_h cA0 rfl)) | skip); (first | (have cA1 : w2.cell? ⟨w1.heap.size + 1, 0, none⟩ = some (.int .i64 wt) := cell_st b2 (by first | exact cell_h (cell_al w2 _ _) rfl | exact cell_h (cell_al2 w2 _ _ _) rfl | exact cell_h (cell_al3 w2 _ _ _) rfl | exact cell_h (cell_al w1 _ _) rfl | exact cell_h (cell_al2 w1 _ _ _) rfl | exact cell_h (cell_al3 w1 _ _ _) rfl| exact cell_h cA1 rfl)) | skip); (first | (have cB0 : w2.cell? ⟨w1.heap.size, 0, none⟩ = some (.int .i64 tr) := cell_st b2 (by first | exact cell_h (cell_al w2 _ _) rfl | exact cell_h (cell_al2 w2 _ _ _) rfl | exact cell_h (cell_al3 w2 _ _ _) rfl | exact cell_h (cell_al w1 _ _) rfl | exact cell_h (cell_al2 w1 _ _ _) rfl | exact cell_h (cell_al3 w1 _ _ _) rfl| exact cell_h cB0 rfl)) | skip); (first | (have cB1 : w2.cell? ⟨w1.heap.size + 1, 0, none⟩ = some (.int .i64 tr) := cell_st b2 (by first | exact cell_h (cell_al w2 _ _) rfl | exact cell_h (cell_al2 w2 _ _ _) rfl | exact cell_h (cell_al3 w2 _ _ _) rfl | exact cell_h (cell_al w1 _ _) rfl | exact cell_h (cell_al2 w1 _ _ _) rfl | exact cell_h (cell_al3 w1 _ _ _) rfl| exact cell_h cB1 rfl)) | skip); have HW2 := (show Blk w2 B 26 (cfc wt tr a n cap) ∧ Below w.heap.size w w2 from (by first | exact ⟨HW2.1.below (bel_next (Below.refl _ _) b2), bel_next HW2.2 (bel_next (Below.refl _ _) b2)⟩ | exact ⟨HW2.1.below (bel_next (bel_alloc _ _) b2), bel_next HW2.2 (bel_next (bel_alloc _ _) b2)⟩ | exact ⟨HW2.1.below (bel_next (bel_next (bel_alloc _ _) (bel_alloc _ _)) b2), bel_next HW2.2 (bel_next (bel_next (bel_alloc _ _) (bel_alloc _ _)) b2)⟩ | exact ⟨HW2.1.below (bel_next (Below.refl _ _).drew b2), bel_next HW2.2 (bel_next (Below.refl _ _).drew b2)⟩ | exact ⟨HW2.1.below (bel_next (bel_alloc _ _).drew b2), bel_next HW2.2 (bel_next (bel_alloc _ _).drew b2)⟩ | exact ⟨HW2.1.below (bel_next (bel_next (bel_alloc _ _) (bel_alloc _ _)).drew b2), bel_next HW2.2 (bel_next (bel_next (bel_alloc _ _) (bel_alloc _ _)).drew b2)⟩ | exact ⟨HW2.1.below (bel_next (Below.refl _ _).drew.drew b2), bel_next HW2.2 (bel_next (Below.refl _ _).drew.drew b2)⟩ | exact ⟨HW2.1.below (bel_next (bel_alloc _ _).drew.drew b2), bel_next HW2.2 (bel_next (bel_alloc _ _).drew.drew b2)⟩ | exact ⟨HW2.1.below (bel_next (bel_next (bel_alloc _ _) (bel_alloc _ _)).drew.drew b2), bel_next HW2.2 (bel_next (bel_next (bel_alloc _ _) (bel_alloc _ _)).drew.drew b2)⟩ | exact ⟨HW1.out.1.below (bel_next (Below.refl _ _) b2), bel_next HW1.out.2 (bel_next (Below.refl _ _) b2)⟩ | exact ⟨HW1.out.1.below (bel_next (bel_alloc _ _) b2), bel_next HW1.out.2 (bel_next (bel_alloc _ _) b2)⟩ | exact ⟨HW1.out.1.below (bel_next (bel_next (bel_alloc _ _) (bel_alloc _ _)) b2), bel_next HW1.out.2 (bel_next (bel_next (bel_alloc _ _) (bel_alloc _ _)) b2)⟩ | exact ⟨HW1.out.1.below (bel_next (Below.refl _ _).drew b2), bel_next HW1.out.2 (bel_next (Below.refl _ _).drew b2)⟩ | exact ⟨HW1.out.1.below (bel_next (bel_alloc _ _).drew b2), bel_next HW1.out.2 (bel_next (bel_alloc _ _).drew b2)⟩ | exact ⟨HW1.out.1.below (bel_next (bel_next (bel_alloc _ _) (bel_alloc _ _)).drew b2), bel_next HW1.out.2 (bel_next (bel_next (bel_alloc _ _) (bel_alloc _ _)).drew b2)⟩ | exact ⟨HW1.out.1.below (bel_next (Below.refl _ _).drew.drew b2), bel_next HW1.out.2 (bel_next (Below.refl _ _).drew.drew b2)⟩ | exact ⟨HW1.out.1.below (bel_next (bel_alloc _ _).drew.drew b2), bel_next HW1.out.2 (bel_next (bel_alloc _ _).drew.drew b2)⟩ | exact ⟨HW1.out.1.below (bel_next (bel_next (bel_alloc _ _) (bel_alloc _ _)).drew.drew b2), bel_next HW1.out.2 (bel_next (bel_next (bel_alloc _ _) (bel_alloc _ _)).drew.drew b2)⟩)); clear b2; obtain ⟨⟨y0', y1', y2'⟩, _⟩ := HW2.1.thr; have n0' : ¬ B = w2.heap.size := (by have := HW2.1.lt; omega); have n1' : ¬ B = w2.heap.size + 1 := (by have := HW2.1.lt; omega); have n2' := HW2.1.lt))
    all_goals (go_wp2_with fail; go_meet; exact ⟨rfl, HW2.1, HW2.2⟩)
  case rest =>
  obtain ⟨rfl, K3, b3⟩ := hcut
  rename World => w3
  have H3 : Hid (Blk w3 B 26 (cfc wt tr a n cap) ∧ Below w.heap.size w w3) := ⟨K3, b3⟩
  clear K3 b3 HW1 y0 y1 y2 k1 g1 n0 n1 n2 HCA HCB HLA
  obtain ⟨⟨y0, y1, y2⟩, _⟩ := H3.out.1.thr
  go_wp2
  clear y0 y1 y2
  go_loopw [3, 21] (fun s i wr => ∃ k : Nat, k ≤ n ∧ i = .int .i64 k ∧ s = .string (tx (cfT wt tr f k)) ∧ Below w.heap.size w wr) (fun _ i _ => n - (intOf i).toNat)
  case atStart => exact ⟨0, Nat.zero_le _, rfl, rfl, H3.out.2⟩
  case round =>
    obtain ⟨k, hk, rfl, rfl, bk⟩ := hrel
    have HK := hide bk
    clear bk H3
    by_cases hlt : k < n
    · have hi : (k : Int) < (n : Int) := by omega
      obtain ⟨gb, off, rfl, hgb, c0, c1, c2, c3, c4, c5, c6⟩ := SlU.seven (SlS.below HS.out.1 HK.out) hlt
      obtain ⟨r, hr⟩ : ∃ r, r = f k := ⟨_, rfl⟩
      rw [← hr] at c0 c1 c2 c3 c4 c5 c6
      have HR : Hid (r = f k) := hr
      obtain ⟨L, hL⟩ : ∃ L, L = cfT wt tr f k := ⟨_, rfl⟩
      obtain ⟨LB, hLB⟩ : ∃ LB, LB = lnT [114, 117, 108, 101] (ruN r) := ⟨_, rfl⟩
      have hll : L.length ≤ 190000000 := by
        rw [hL]
        have h9 := cfT_len h1 h2 HS.out.2.2.2.1 hn k hk
        have : (k + 2) * 7000100 ≤ 26 * 7000100 := Nat.mul_le_mul_right _ (by omega)
        omega
      have hlb : LB.length ≤ 7000100 := by rw [hLB]; exact lnT_len _ _ (by rw [hr]; exact HS.out.2.2.2.1 k hlt) (by simp) (by simp [ruN])
      have g1 : tx L ++ tx LB = tx (cfT wt tr f (k + 1)) := by rw [tx_append, hL, hLB, cfT_succ, hr]
      have k1 : ¬ (9223372036854775807 < (tx L).size + (tx LB).size) := no_big (by rw [tx_size, tx_size]; omega)
      have HLB := hide hLB
      rw [← hL]
      clear hL hr hLB hll hlb
      obtain ⟨W4, hW4⟩ : ∃ W4, W4 = (wr.alloc (.cells (ruc r) 33)).alloc (.cells (ruc r) 3) := ⟨_, rfl⟩
      obtain ⟨G, hG⟩ : ∃ G, G = wr.heap.size + 1 := ⟨_, rfl⟩
      have HK4 : Hid (Below w.heap.size w W4 ∧ Blk W4 G 3 (ruc r)) := by
        refine ⟨by rw [hW4]; exact bel_next (bel_next HK.out (bel_alloc _ _)) (bel_alloc _ _), ?_⟩
        rw [hW4, hG]
        have h9 := Blk.new (wr.alloc (.cells (ruc r) 33)) (ruc r) 3
        simpa using h9
      have HSL : Hid (SlI W4 (some ⟨G, 0, none⟩) (ruN r)) := .inr ⟨G, 0, rfl, HK4.out.2.lt, fun i hi => by
        have h7 : i < 7 := by simpa [ruN] using hi
        have h9 := HK4.out.2.cell i (v := .int .i64 ((ruN r).getD i 0)) (by
          match i, h7 with
          | 0, _ => rfl
          | 1, _ => rfl
          | 2, _ => rfl
          | 3, _ => rfl
          | 4, _ => rfl
          | 5, _ => rfl
          | 6, _ => rfl)
        simpa using h9⟩
      go_wp2_with fail
      rw [← hW4, ← hG]
      clear hW4 hG c0 c1 c2 c3 c4 c5 c6 HK
      refine (configLine_any [114, 117, 108, 101] _ rfl (by simp) (ruN r) _ 7 7 _ rfl HSL.out (by simp [ruN]) (by rw [HR.out]; exact HS.out.2.2.2.1 k hlt) (HS.out.2.2.2.2.2.1.below HK4.out.1)).mono ?_
      rintro e w5 ⟨rfl, b5⟩
      rw [← HLB.out]
      have HK5 := hide (bel_next HK4.out.1 b5)
      clear b5 HK4 HSL
      go_wp2
      go_roundw
      case rel => exact ⟨k + 1, by omega, by go_num, rfl, HK5.out⟩
      case measure => simp [intOf]; omega
    · have ek : n = k := by omega
      subst ek
      have hi : ¬ (n : Int) < (n : Int) := by omega
      go_wp2
      go_ret
      exact ⟨rfl, HK.out⟩
end Go.Proofs.YtklnfeblkffgiaaDoor
