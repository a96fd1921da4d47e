/- GetReq of the program: its frame, whatever the kind. -/
import Derived.Test.YtgamicfcdkjleaaG1
import Derived.Test.YtgamicfcdkjleaaQ5
namespace Go.Proofs.Ytgamicfcdkjleaa
open Go.RowKit

set_option linter.unusedVariables false

set_option linter.unusedSimpArgs false

def kindB (k : Int) : Bool := decide (k = 1 ∨ k = 2 ∨ k = 3 ∨ k = 4 ∨ k = 5 ∨ k = 6 ∨ k = 15 ∨ k = 16 ∨ k = 22 ∨ k = 23)

set_option maxHeartbeats 2000000 in
theorem isKind_any (k : Int) (w : World) (b : Bool) (hb : kindB k = b) : Calls Try.prog 41 #[.int .i64 k] w fun e w' => e = .returned (.bool b) ∧ w' = w := by
  by_cases hk : k = 1 ∨ k = 2 ∨ k = 3 ∨ k = 4 ∨ k = 5 ∨ k = 6 ∨ k = 15 ∨ k = 16 ∨ k = 22 ∨ k = 23
  · have e : kindB k = true := decide_eq_true hk
    rw [e] at hb
    subst hb
    clear e
    obtain rfl | rfl | rfl | rfl | rfl | rfl | rfl | rfl | rfl | rfl := hk
    all_goals (
      go_enter Try.func41, Try.ntmps41
      go_wp2
      go_ret
      exact ⟨rfl, rfl⟩)
  · have e : kindB k = false := decide_eq_false hk
    rw [e] at hb
    subst hb
    have h1 : ¬ k = 1 := by omega
    have h2 : ¬ k = 2 := by omega
    have h3 : ¬ k = 3 := by omega
    have h4 : ¬ k = 4 := by omega
    have h5 : ¬ k = 5 := by omega
    have h6 : ¬ k = 6 := by omega
    have h15 : ¬ k = 15 := by omega
    have h16 : ¬ k = 16 := by omega
    have h22 : ¬ k = 22 := by omega
    have h23 : ¬ k = 23 := by omega
    clear hk e
    go_enter Try.func41, Try.ntmps41
    go_wp2
    go_ret
    exact ⟨rfl, rfl⟩

set_option maxHeartbeats 2000000 in
theorem l3Kind_any (k : Int) (w : World) (b : Bool) (hb : kindB k = b) : Calls Try.prog 49 #[.int .i64 k] w fun e w' => e = .returned (.bool b) ∧ w' = w := by
  by_cases hk : k = 1 ∨ k = 2 ∨ k = 3 ∨ k = 4 ∨ k = 5 ∨ k = 6 ∨ k = 15 ∨ k = 16 ∨ k = 22 ∨ k = 23
  · have e : kindB k = true := decide_eq_true hk
    rw [e] at hb
    subst hb
    clear e
    obtain rfl | rfl | rfl | rfl | rfl | rfl | rfl | rfl | rfl | rfl := hk
    all_goals (
      go_enter Try.func49, Try.ntmps49
      go_wp2_with (go_at_call 38; go_in)
      go_ret
      exact ⟨rfl, rfl⟩)
  · have e : kindB k = false := decide_eq_false hk
    rw [e] at hb
    subst hb
    have h15 : ¬ k = 15 := by omega
    have h16 : ¬ k = 16 := by omega
    have h22 : ¬ k = 22 := by omega
    have h23 : ¬ k = 23 := by omega
    have hq : (k == 23) = false := by simp [h23]
    have hq1 : (k == 15) = false := by simp [h15]
    have hq2 : (k == 16) = false := by simp [h16]
    have hq3 : (k == 22) = false := by simp [h22]
    by_cases h1 : 1 ≤ k
    · have h6 : ¬ k ≤ 6 := by omega
      clear hk e
      go_enter Try.func49, Try.ntmps49
      go_wp2_with (go_at_call 38; go_in)
      go_ret
      exact ⟨rfl, rfl⟩
    · clear hk e
      go_enter Try.func49, Try.ntmps49
      go_wp2_with (go_at_call 38; go_in)
      go_ret
      exact ⟨rfl, rfl⟩

/-- A question told, with its number. -/
def GP (w w' : World) (e : Ending) (kd pl nn wa : Int) (ws : List Int) (bs : List Bool) (code : Int) : Prop :=
  ∃ a1 a2 l1 l2 c1 c2, e = .returned (.tuple #[rq kd pl nn wa a1 a2 l1 l2 c1 c2, .int .i64 code]) ∧ l1 = ws.length ∧ l2 = bs.length ∧ OwnI w' w.heap.size (.slice a1 l1 c1) ws ∧ OwnB w' w.heap.size (.slice a2 l2 c2) bs ∧ Below w.heap.size w w'

theorem gp_zero {w w' : World} {c : Int} (hb : Below w.heap.size w w') : GP w w' (.returned (.tuple #[rq 0 0 0 0 none none 0 0 0 0, .int .i64 c])) 0 0 0 0 [] [] c :=
  ⟨none, none, 0, 0, 0, 0, rfl, rfl, rfl, ownI_nil _ _, ownB_nil _ _, hb⟩

theorem bel_set6 {B : Nat} {W w : World} {g : Nat} {v0 v1 v2 v3 v4 v5 : Value} (hb : Below B W w) (hg : B ≤ g) :
    Below B W ((((((w.setCell ⟨g, 0, none⟩ v0).setCell ⟨g, 1, none⟩ v1).setCell ⟨g, 2, none⟩ v2).setCell ⟨g, 3, none⟩ v3).setCell ⟨g, 4, none⟩ v4).setCell ⟨g, 5, none⟩ v5) :=
  (((((hb.setCell (p := ⟨g, 0, none⟩) hg _).setCell (p := ⟨g, 1, none⟩) hg _).setCell (p := ⟨g, 2, none⟩) hg _).setCell (p := ⟨g, 3, none⟩) hg _).setCell (p := ⟨g, 4, none⟩) hg _).setCell (p := ⟨g, 5, none⟩) hg _

theorem row_set6 {w : World} {base size n g : Nat} {e t : TypeId} {v v0 v1 v2 v3 v4 v5 : Value} {xs : List Value} (h : w.ownsRow base e size v n xs) (hb : ExB w g t) (ht : t ≠ e) :
    ((((((w.setCell ⟨g, 0, none⟩ v0).setCell ⟨g, 1, none⟩ v1).setCell ⟨g, 2, none⟩ v2).setCell ⟨g, 3, none⟩ v3).setCell ⟨g, 4, none⟩ v4).setCell ⟨g, 5, none⟩ v5).ownsRow base e size v n xs :=
  row_setE (row_setE (row_setE (row_setE (row_setE (row_setE h hb ht) (ExB.set hb) ht) (ExB.set (ExB.set hb)) ht) (ExB.set (ExB.set (ExB.set hb))) ht) (ExB.set (ExB.set (ExB.set (ExB.set hb)))) ht) (ExB.set (ExB.set (ExB.set (ExB.set (ExB.set hb))))) ht

set_option maxHeartbeats 4000000 in
theorem get_none (a : Option Addr) (n cap : Nat) (zs : List Int) (w : World) (hn : n = zs.length) (hs : Sl w a zs) (hr : ∀ z ∈ zs, 0 ≤ z ∧ z ≤ 255) (hl : n ≤ 2000000) (hk : zs.length = 0) :
    Calls Try.prog 13 #[.slice a n cap] w fun e w' => GP w w' e 0 0 0 0 [] [] 1 := by
  have B0 := bel_alloc w (.cells #[.int .i64 0, .int .i64 0, .int .i64 0, .slice none 0 0, .slice none 0 0, .int .i64 0] 27)
  have hz : (n : Int) = 0 := by omega
  clear hn hs hr
  go_enter Try.func13, Try.ntmps13
  go_wp2
  refine bodyPost_ret (v := .tuple #[rq 0 0 0 0 none none 0 0 0 0, .int .i64 1]) (by simp [results, Try.results13, go_sem]) rfl ?_
  exact gp_zero (by first | exact B0 | exact bel_set6 B0 (Nat.le_refl _))

set_option maxRecDepth 20000 in
set_option maxHeartbeats 4000000 in
theorem get_kind (a : Option Addr) (n cap : Nat) (zs : List Int) (w : World) (hn : n = zs.length) (hs : Sl w a zs) (hr : ∀ z ∈ zs, 0 ≤ z ∧ z ≤ 255) (hl : n ≤ 2000000) (hk0 : 0 < zs.length) (hk : kindB (zs.getD 0 0) = false) :
    Calls Try.prog 13 #[.slice a n cap] w fun e w' => GP w w' e 0 0 0 0 [] [] 1 := by
  obtain ⟨W0, hW0⟩ : ∃ W0, W0 = w.alloc (.cells #[.int .i64 0, .int .i64 0, .int .i64 0, .slice none 0 0, .slice none 0 0, .int .i64 0] 27) := ⟨_, rfl⟩
  have HW : Hid (W0 = _) := hW0
  have B0 : Below w.heap.size w W0 := by rw [hW0]; exact bel_alloc _ _
  have X0 : Blk W0 w.heap.size 27 #[.int .i64 0, .int .i64 0, .int .i64 0, .slice none 0 0, .slice none 0 0, .int .i64 0] := by rw [hW0]; exact Blk.new _ _ _
  obtain ⟨bk, off, ea, _, hc⟩ := cell_at (hs.below B0) (show 0 < zs.length by omega)
  have hc0 : W0.cell? ⟨bk, off, none⟩ = some (.int .u8 (zs.getD 0 0)) := by simpa using hc
  have rg := get_rg hr 0
  have hz : ¬ (n : Int) = 0 := by omega
  have hz0 : (0 : Int) < (n : Int) := by omega
  have HS : Hid (n = zs.length ∧ Sl w a zs ∧ (∀ z ∈ zs, 0 ≤ z ∧ z ≤ 255)) := ⟨hn, hs, hr⟩
  have HP : Hid (0 < zs.length) := hk0
  subst ea
  clear hn hs hr hc hW0 hk0
  generalize zs.getD 0 0 = z0 at *
  obtain ⟨x0, x1, x2, x3, x4, x5⟩ := X0.six
  have fr := X0.fro
  go_enter Try.func13, Try.ntmps13
  go_upto_region 1 with fail
  rw [← HW.out]
  go_wp2_with fail
  refine (isKind_any z0 _ _ hk).mono ?_
  rintro e wx ⟨rfl, rfl⟩
  go_wp2
  refine bodyPost_ret (v := .tuple #[rq 0 0 0 0 none none 0 0 0 0, .int .i64 1]) (by simp [results, Try.results13, go_sem, x0, x1, x2, x3, x4, x5]) rfl ?_
  exact gp_zero (bel_set6 B0 (Nat.le_refl _))

set_option maxRecDepth 20000 in
set_option maxHeartbeats 8000000 in
theorem get_no (a : Option Addr) (n cap : Nat) (zs : List Int) (w : World) (hn : n = zs.length) (hs : Sl w a zs) (hr : ∀ z ∈ zs, 0 ≤ z ∧ z ≤ 255) (hl : n ≤ 2000000) (hk0 : 0 < zs.length) (hk : kindB (zs.getD 0 0) = true) (T : TypeId) (P : Value → World → Prop) (hP : ∀ v u u', P v u → Below u.heap.size u u' → P v u')
    (hq : ∀ u, Below w.heap.size w u → Calls Try.prog 42 #[.slice a n cap] u fun e u' => ∃ v, e = .returned (.iface T v) ∧ Below u.heap.size u u' ∧ P v u')
    (hi : ∀ v u, P v u → Calls Try.prog 43 #[.iface T v] u fun e u' => e = .returned (.bool false) ∧ Below u.heap.size u u')
    : Calls Try.prog 13 #[.slice a n cap] w fun e w' => GP w w' e 0 0 0 0 [] [] 3 := by
  obtain ⟨W0, hW0⟩ : ∃ W0, W0 = w.alloc (.cells #[.int .i64 0, .int .i64 0, .int .i64 0, .slice none 0 0, .slice none 0 0, .int .i64 0] 27) := ⟨_, rfl⟩
  have HW : Hid (W0 = _) := hW0
  have B0 : Below w.heap.size w W0 := by rw [hW0]; exact bel_alloc _ _
  have X0 : Blk W0 w.heap.size 27 #[.int .i64 0, .int .i64 0, .int .i64 0, .slice none 0 0, .slice none 0 0, .int .i64 0] := by rw [hW0]; exact Blk.new _ _ _
  obtain ⟨bk, off, ea, _, hc⟩ := cell_at (hs.below B0) (show 0 < zs.length by omega)
  have hc0 : W0.cell? ⟨bk, off, none⟩ = some (.int .u8 (zs.getD 0 0)) := by simpa using hc
  have rg := get_rg hr 0
  have hz : ¬ (n : Int) = 0 := by omega
  have hz0 : (0 : Int) < (n : Int) := by omega
  have HS : Hid (n = zs.length ∧ Sl w a zs ∧ (∀ z ∈ zs, 0 ≤ z ∧ z ≤ 255)) := ⟨hn, hs, hr⟩
  have HP : Hid (0 < zs.length) := hk0
  subst ea
  clear hn hs hr hc hW0 hk0
  generalize zs.getD 0 0 = z0 at *
  obtain ⟨x0, x1, x2, x3, x4, x5⟩ := X0.six
  have fr := X0.fro
  go_enter Try.func13, Try.ntmps13
  go_upto_region 1 with fail
  rw [← HW.out]
  go_wp2_with fail
  refine (isKind_any z0 _ _ hk).mono ?_
  rintro e wx ⟨rfl, rfl⟩
  go_wp2_with fail
  refine (hq _ B0).mono ?_
  rintro e w1 ⟨v, rfl, b1, p1⟩
  have B1 := bel_next B0 b1
  have X1 := X0.below b1
  clear hq x0 x1 x2 x3 x4 x5 fr X0 hc0
  go_wp2_with fail
  refine (hi _ _ p1).mono ?_
  rintro e w2 ⟨rfl, b2⟩
  have B2 := bel_next B1 b2
  have X2 := X1.below b2
  have p2 := hP _ _ _ p1 b2
  clear hi b1 b2 X1 B1 p1
  obtain ⟨y0, y1, y2, y3, y4, y5⟩ := X2.six
  have fy := X2.fro
  go_wp2
  refine bodyPost_ret (v := .tuple #[rq 0 0 0 0 none none 0 0 0 0, .int .i64 3]) (by simp [results, Try.results13, go_sem, y0, y1, y2, y3, y4, y5]) rfl ?_
  exact gp_zero (bel_set6 B2 (Nat.le_refl _))

set_option maxRecDepth 20000 in
set_option maxHeartbeats 8000000 in
theorem get_ne (a : Option Addr) (n cap : Nat) (zs : List Int) (w : World) (hn : n = zs.length) (hs : Sl w a zs) (hr : ∀ z ∈ zs, 0 ≤ z ∧ z ≤ 255) (hl : n ≤ 2000000) (hk0 : 0 < zs.length) (hk : kindB (zs.getD 0 0) = true) (T : TypeId) (P : Value → World → Prop) (hP : ∀ v u u', P v u → Below u.heap.size u u' → P v u')
    (hq : ∀ u, Below w.heap.size w u → Calls Try.prog 42 #[.slice a n cap] u fun e u' => ∃ v, e = .returned (.iface T v) ∧ Below u.heap.size u u' ∧ P v u')
    (hi : ∀ v u, P v u → Calls Try.prog 43 #[.iface T v] u fun e u' => e = .returned (.bool true) ∧ Below u.heap.size u u')
    (Z : List Int) (hput : ∀ v u, P v u → Calls Try.prog 34 #[.iface T v] u fun e u' => Nw u u' e Z) (hZr : ∀ z ∈ Z, 0 ≤ z ∧ z ≤ 255) (hZp : 0 < Z.length) (hZ : decide (Z = zs) = false)
    : Calls Try.prog 13 #[.slice a n cap] w fun e w' => GP w w' e 0 0 0 0 [] [] 3 := by
  obtain ⟨W0, hW0⟩ : ∃ W0, W0 = w.alloc (.cells #[.int .i64 0, .int .i64 0, .int .i64 0, .slice none 0 0, .slice none 0 0, .int .i64 0] 27) := ⟨_, rfl⟩
  have HW : Hid (W0 = _) := hW0
  have B0 : Below w.heap.size w W0 := by rw [hW0]; exact bel_alloc _ _
  have X0 : Blk W0 w.heap.size 27 #[.int .i64 0, .int .i64 0, .int .i64 0, .slice none 0 0, .slice none 0 0, .int .i64 0] := by rw [hW0]; exact Blk.new _ _ _
  obtain ⟨bk, off, ea, _, hc⟩ := cell_at (hs.below B0) (show 0 < zs.length by omega)
  have hc0 : W0.cell? ⟨bk, off, none⟩ = some (.int .u8 (zs.getD 0 0)) := by simpa using hc
  have rg := get_rg hr 0
  have hz : ¬ (n : Int) = 0 := by omega
  have hz0 : (0 : Int) < (n : Int) := by omega
  have HS : Hid (n = zs.length ∧ Sl w a zs ∧ (∀ z ∈ zs, 0 ≤ z ∧ z ≤ 255)) := ⟨hn, hs, hr⟩
  have HP : Hid (0 < zs.length) := hk0
  subst ea
  clear hn hs hr hc hW0 hk0
  generalize zs.getD 0 0 = z0 at *
  obtain ⟨x0, x1, x2, x3, x4, x5⟩ := X0.six
  have fr := X0.fro
  go_enter Try.func13, Try.ntmps13
  go_upto_region 1 with fail
  rw [← HW.out]
  go_wp2_with fail
  refine (isKind_any z0 _ _ hk).mono ?_
  rintro e wx ⟨rfl, rfl⟩
  go_wp2_with fail
  refine (hq _ B0).mono ?_
  rintro e w1 ⟨v, rfl, b1, p1⟩
  have B1 := bel_next B0 b1
  have X1 := X0.below b1
  clear hq x0 x1 x2 x3 x4 x5 fr X0 hc0
  go_wp2_with fail
  refine (hi _ _ p1).mono ?_
  rintro e w2 ⟨rfl, b2⟩
  have B2 := bel_next B1 b2
  have X2 := X1.below b2
  have p2 := hP _ _ _ p1 b2
  clear hi b1 b2 X1 B1 p1
  go_wp2_with fail
  refine (hput _ _ p2).mono ?_
  rintro e w3 ⟨g3, c3, n3, rfl, hn3, o3, b3⟩
  have B3 := bel_next B2 b3
  have X3 := X2.below b3
  have p3 := hP _ _ _ p2 b3
  have Hn3 : Hid (n3 = Z.length) := hn3
  clear hput hn3 b3 X2 B2 p2
  go_wp2_with fail
  refine (bytesEqual_any _ _ _ _ _ _ Z zs _ Hn3.out HS.out.1 o3.sl.2 (HS.out.2.1.below B3) hZp HP.out hZr HS.out.2.2 _ hZ).mono ?_
  rintro e wx ⟨rfl, rfl⟩
  obtain ⟨y0, y1, y2, y3, y4, y5⟩ := X3.six
  have fy := X3.fro
  go_wp2
  refine bodyPost_ret (v := .tuple #[rq 0 0 0 0 none none 0 0 0 0, .int .i64 3]) (by simp [results, Try.results13, go_sem, y0, y1, y2, y3, y4, y5]) rfl ?_
  exact gp_zero (bel_set6 B3 (Nat.le_refl _))

set_option maxRecDepth 20000 in
set_option maxHeartbeats 8000000 in
theorem get_eq (a : Option Addr) (n cap : Nat) (zs : List Int) (w : World) (hn : n = zs.length) (hs : Sl w a zs) (hr : ∀ z ∈ zs, 0 ≤ z ∧ z ≤ 255) (hl : n ≤ 2000000) (hk0 : 0 < zs.length) (hk : kindB (zs.getD 0 0) = true) (T : TypeId) (F : Nat) (kd pl nn wa : Int) (ws : List Int) (bs : List Bool) (P : Value → World → Prop) (hP : ∀ v u u', P v u → Below u.heap.size u u' → P v u')
    (hq : ∀ u, Below w.heap.size w u → Calls Try.prog 42 #[.slice a n cap] u fun e u' => ∃ v, e = .returned (.iface T v) ∧ Below u.heap.size u u' ∧ P v u')
    (hi : ∀ v u, P v u → Calls Try.prog 43 #[.iface T v] u fun e u' => e = .returned (.bool true) ∧ Below u.heap.size u u')
    (Z : List Int) (hput : ∀ v u, P v u → Calls Try.prog 34 #[.iface T v] u fun e u' => Nw u u' e Z) (hZr : ∀ z ∈ Z, 0 ≤ z ∧ z ≤ 255) (hZp : 0 < Z.length) (hZ : decide (Z = zs) = true)
    (hc : ∀ v u, (callFunc F #[v]).run Try.prog u = .ok (.enter F #[v]) u)
    (hm : ∀ v u, (method 246 T v "loop.example/g00129/impl.req").run Try.prog u = .ok (F, v) u)
    (hreq : ∀ v u, Below w.heap.size w u → P v u → Calls Try.prog F #[v] u fun e u' => ∃ a1 a2 l1 l2 c1 c2, e = .returned (rq kd pl nn wa a1 a2 l1 l2 c1 c2) ∧ l1 = ws.length ∧ l2 = bs.length ∧ OwnI u' w.heap.size (.slice a1 l1 c1) ws ∧ OwnB u' w.heap.size (.slice a2 l2 c2) bs ∧ Below u.heap.size u u')
    : Calls Try.prog 13 #[.slice a n cap] w fun e w' => GP w w' e kd pl nn wa ws bs 0 := by
  obtain ⟨W0, hW0⟩ : ∃ W0, W0 = w.alloc (.cells #[.int .i64 0, .int .i64 0, .int .i64 0, .slice none 0 0, .slice none 0 0, .int .i64 0] 27) := ⟨_, rfl⟩
  have HW : Hid (W0 = _) := hW0
  have B0 : Below w.heap.size w W0 := by rw [hW0]; exact bel_alloc _ _
  have X0 : Blk W0 w.heap.size 27 #[.int .i64 0, .int .i64 0, .int .i64 0, .slice none 0 0, .slice none 0 0, .int .i64 0] := by rw [hW0]; exact Blk.new _ _ _
  obtain ⟨bk, off, ea, _, hc⟩ := cell_at (hs.below B0) (show 0 < zs.length by omega)
  have hc0 : W0.cell? ⟨bk, off, none⟩ = some (.int .u8 (zs.getD 0 0)) := by simpa using hc
  have rg := get_rg hr 0
  have hz : ¬ (n : Int) = 0 := by omega
  have hz0 : (0 : Int) < (n : Int) := by omega
  have HS : Hid (n = zs.length ∧ Sl w a zs ∧ (∀ z ∈ zs, 0 ≤ z ∧ z ≤ 255)) := ⟨hn, hs, hr⟩
  have HP : Hid (0 < zs.length) := hk0
  subst ea
  clear hn hs hr hc hW0 hk0
  generalize zs.getD 0 0 = z0 at *
  obtain ⟨x0, x1, x2, x3, x4, x5⟩ := X0.six
  have fr := X0.fro
  go_enter Try.func13, Try.ntmps13
  go_upto_region 1 with fail
  rw [← HW.out]
  go_wp2_with fail
  refine (isKind_any z0 _ _ hk).mono ?_
  rintro e wx ⟨rfl, rfl⟩
  go_wp2_with fail
  refine (hq _ B0).mono ?_
  rintro e w1 ⟨v, rfl, b1, p1⟩
  have B1 := bel_next B0 b1
  have X1 := X0.below b1
  clear hq x0 x1 x2 x3 x4 x5 fr X0 hc0
  go_wp2_with fail
  refine (hi _ _ p1).mono ?_
  rintro e w2 ⟨rfl, b2⟩
  have B2 := bel_next B1 b2
  have X2 := X1.below b2
  have p2 := hP _ _ _ p1 b2
  clear hi b1 b2 X1 B1 p1
  go_wp2_with fail
  refine (hput _ _ p2).mono ?_
  rintro e w3 ⟨g3, c3, n3, rfl, hn3, o3, b3⟩
  have B3 := bel_next B2 b3
  have X3 := X2.below b3
  have p3 := hP _ _ _ p2 b3
  have Hn3 : Hid (n3 = Z.length) := hn3
  clear hput hn3 b3 X2 B2 p2
  go_wp2_with fail
  refine (bytesEqual_any _ _ _ _ _ _ Z zs _ Hn3.out HS.out.1 o3.sl.2 (HS.out.2.1.below B3) hZp HP.out hZr HS.out.2.2 _ hZ).mono ?_
  rintro e wx ⟨rfl, rfl⟩
  go_wp2_with (refine (hreq _ _ B3 p3).mono ?_; rintro e w4 ⟨a1, a2, l1, l2, c1, c2, rfl, e1, e2, r1, r2, b4⟩; have B4 := bel_next B3 b4; have X4 := X3.below b4; have HE : Hid (l1 = ws.length ∧ l2 = bs.length) := ⟨e1, e2⟩; clear e1 e2 b4 X3 B3 p3; obtain ⟨y0, y1, y2, y3, y4, y5⟩ := X4.six; have fy := X4.fro)
  refine bodyPost_ret (v := .tuple #[rq kd pl nn wa a1 a2 l1 l2 c1 c2, .int .i64 0]) (by simp [results, Try.results13, go_sem, y0, y1, y2, y3, y4, y5]) rfl ?_
  exact ⟨a1, a2, l1, l2, c1, c2, rfl, HE.out.1, HE.out.2, row_set6 r1 ⟨_, X4⟩ (by decide), row_set6 r2 ⟨_, X4⟩ (by decide), bel_set6 B4 (Nat.le_refl _)⟩

end Go.Proofs.Ytgamicfcdkjleaa
