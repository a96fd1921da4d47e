/- Texts that the proof needs, joined: Cf1 Cpy El0 Cl1 Cl2 Q2 Q3 Q4 Q5 Q6 Ln2 El1 Ln1 Mid Mid2 Ln5 Resp1 Tr0 Tr1 Mk0 Mk1 Mk4. -/
import Derived.Test.YtccffbbboodolaaV5
import Derived.Test.YtccffbbboodolaaV6
import Derived.Test.YtccffbbboodolaaV4
import Derived.Test.YtccffbbboodolaaV1
import Derived.WideMake
import Derived.Carry
import Derived.Laws.CopyOwn
import Derived.Deep.RegionHeld3
import Derived.Deep.RegionWith
import Derived.Deep.MidRow
namespace Go.Proofs.Ytccffbbboodolaa
open Go.RowKit
set_option linter.unusedVariables false
set_option linter.unusedSimpArgs false
theorem Blk.thr {w : World} {g : Nat} {t : TypeId} {v0 v1 v2 : Value} (h : Blk w g t #[v0, v1, v2]) : (w.cell? ⟨g, 0, none⟩ = some v0 ∧ w.cell? ⟨g, 1, none⟩ = some v1 ∧ w.cell? ⟨g, 2, none⟩ = some v2) ∧ w.frozen? ⟨g, 0, none⟩ = false ∧ w.frozen? ⟨g, 1, none⟩ = false ∧ w.frozen? ⟨g, 2, none⟩ = false :=
  ⟨⟨h.cell 0 rfl, h.cell 1 rfl, h.cell 2 rfl⟩, h.fro 0, h.fro 1, h.fro 2⟩
theorem RowS.setc {w : World} {g g' j : Nat} {t : TypeId} {s n : Nat} {F : Nat → List Value} {y : Value} (h : RowS w g t s n F) (hne : g' ≠ g) : RowS (w.setCell ⟨g', j, none⟩ y) g t s n F := by
  obtain ⟨cs, h1, h2⟩ := h
  exact ⟨cs, Blk.setNe h1 (Ne.symm hne), h2⟩
abbrev cfc (wt tr : Int) (a : Option Addr) (n c : Nat) : Array Value := #[.int .i64 wt, .int .i64 tr, .slice a n c]
theorem szConfig_fits (wt tr : Int) (a : Option Addr) (n cap : Nat) (w : World) (h : n ≤ 1048576) :
    Calls Try.prog 4 #[.agg (cfc wt tr a n cap), .int .i64 1048576] w fun e w' => e = .returned (.int .i64 ((1048576 - n : Nat) : Int)) ∧ Below w.heap.size w w' := by
  have hnn : ¬ (((1048576 - n : Nat) : Int) < 0) := by omega
  go_enter Try.func4, Try.ntmps4
  go_wp2_with fail
  refine (szRuleS_fits a n cap 1048576 _ h (Nat.le_refl _)).mono ?_
  rintro e w1 ⟨rfl, rfl⟩
  go_wp2
  go_ret
  exact ⟨rfl, bel_alloc _ _⟩
theorem szConfig_big (wt tr : Int) (a : Option Addr) (n cap : Nat) (w : World) (hm : n ≤ maxLen) (h : ¬ n ≤ 1048576) :
    Calls Try.prog 4 #[.agg (cfc wt tr a n cap), .int .i64 1048576] w fun e w' => e = .returned (.int .i64 (-1)) ∧ Below w.heap.size w w' := by
  go_enter Try.func4, Try.ntmps4
  go_wp2_with fail
  refine (szRuleS_big a n cap 1048576 _ hm h (Nat.le_refl _)).mono ?_
  rintro e w1 ⟨rfl, rfl⟩
  go_wp2
  go_ret
  exact ⟨rfl, bel_alloc _ _⟩
set_option maxHeartbeats 1000000 in
theorem toConfig_any (wt tr : Int) (a : Option Addr) (n cap : Nat) (f : Nat → Ru) (w : World) (hs : SlU w a n f) (hl : n ≤ 2000000) :
    Calls Try.prog 6 #[.agg (cfc wt tr a n cap)] w fun e w' => ∃ g, e = .returned (.agg (cfc wt tr (some ⟨g, 0, none⟩) n n)) ∧ RowU w' g n f ∧ w.heap.size ≤ g ∧ Below w.heap.size w w' := by
  obtain ⟨W, hW⟩ : ∃ W, W = ((w.alloc (.cells (cfc wt tr a n cap) 24)).alloc (.cells (cfc 0 0 none 0 0) 28)).alloc (.cells (cfc wt tr none 0 0) 28) := ⟨_, rfl⟩
  have hz : W.heap.size = w.heap.size + 1 + 1 + 1 := by rw [hW]; simp
  have bW : Below w.heap.size w W := by rw [hW]; exact bel_next (bel_next (bel_alloc w _) (bel_alloc _ _)) (bel_alloc _ _)
  have A0 : Blk W w.heap.size 24 (cfc wt tr a n cap) := by rw [hW]; exact ((Blk.new w _ _).below (bel_alloc _ _)).below (bel_alloc _ _)
  have R0 : Blk W (w.heap.size + 1) 28 (cfc 0 0 none 0 0) := by
    rw [hW]; have := (Blk.new (w.alloc (.cells (cfc wt tr a n cap) 24)) (cfc 0 0 none 0 0) 28).below (bel_alloc _ (.cells (cfc wt tr none 0 0) 28)); simpa using this
  have O0 : Blk W (w.heap.size + 1 + 1) 28 (cfc wt tr none 0 0) := by
    rw [hW]; have := Blk.new ((w.alloc (.cells (cfc wt tr a n cap) 24)).alloc (.cells (cfc 0 0 none 0 0) 28)) (cfc wt tr none 0 0) 28; simpa using this
  have HS : Hid (SlU W a n f) := SlS.below hs bW
  have H0 : Hid (Blk W w.heap.size 24 (cfc wt tr a n cap) ∧ Blk W (w.heap.size + 1) 28 (cfc 0 0 none 0 0) ∧ Blk W (w.heap.size + 1 + 1) 28 (cfc wt tr none 0 0) ∧ Below w.heap.size w W ∧ W.heap.size = w.heap.size + 1 + 1 + 1) := ⟨A0, R0, O0, bW, hz⟩
  obtain ⟨⟨y0, y1, y2⟩, _⟩ := A0.thr
  clear hs bW A0 R0 O0 hz
  go_enter Try.func6, Try.ntmps6
  go_upto_region 4 with fail
  rw [← hW]
  clear hW
  go_wp2_with fail
  refine (toRuleS_any a n cap f _ HS.out hl).mono ?_
  rintro e w1 ⟨rfl, R1, b1⟩
  obtain ⟨g, hg⟩ : ∃ g, g = W.heap.size := ⟨_, rfl⟩
  rw [← hg] at R1 ⊢
  obtain ⟨⟨x0, x1, x2⟩, ⟨f0, f1, f2⟩⟩ := (H0.out.2.2.1.below b1).thr
  obtain ⟨⟨z0, z1, z2⟩, ⟨e0, e1, e2⟩⟩ := (H0.out.2.1.below b1).thr
  have H1 : Hid (RowU w1 g n f ∧ Below w.heap.size w w1 ∧ w.heap.size + 1 + 1 + 1 = g) := ⟨R1, bel_next H0.out.2.2.2.1 b1, by rw [hg]; exact H0.out.2.2.2.2.symm⟩
  clear R1 b1 hg H0 y0 y1 y2 HS
  go_wp2
  refine bodyPost_ret (v := .agg (cfc wt tr (some ⟨g, 0, none⟩) n n)) (by simp [results, Try.results6, go_sem, z0, z1, z2]) rfl ⟨g, rfl, ?_, ?_, ?_⟩
  · have := H1.out.2.2
    exact (((H1.out.1.setc (by omega)).setc (by omega)).setc (by omega)).setc (by omega)
  · have := H1.out.2.2; omega
  · exact (((H1.out.2.1.setCell (p := ⟨w.heap.size + 1 + 1, 2, none⟩) (by show w.heap.size ≤ w.heap.size + 1 + 1; omega) _).setCell (p := ⟨w.heap.size + 1, 0, none⟩) (by show w.heap.size ≤ w.heap.size + 1; omega) _).setCell (p := ⟨w.heap.size + 1, 1, none⟩) (by show w.heap.size ≤ w.heap.size + 1; omega) _).setCell (p := ⟨w.heap.size + 1, 2, none⟩) (by show w.heap.size ≤ w.heap.size + 1; omega) _
set_option maxHeartbeats 1000000 in
theorem eqConfig_true (wt tr : Int) (a a' : Option Addr) (n cap cap' : Nat) (f : Nat → Ru) (w : World) (hs : SlU w a n f) (hs' : SlU w a' n f) (hl : n ≤ 2000000) :
    Calls Try.prog 9 #[.agg (cfc wt tr a n cap), .agg (cfc wt tr a' n cap')] w fun e w' => e = .returned (.bool true) ∧ Below w.heap.size w w' := by
  have bW : Below w.heap.size w ((w.alloc (.cells (cfc wt tr a n cap) 28)).alloc (.cells (cfc wt tr a' n cap') 28)) := bel_next (bel_alloc _ _) (bel_alloc _ _)
  have HS : Hid (SlU ((w.alloc (.cells (cfc wt tr a n cap) 28)).alloc (.cells (cfc wt tr a' n cap') 28)) a n f) := SlS.below hs bW
  have HS' : Hid (SlU ((w.alloc (.cells (cfc wt tr a n cap) 28)).alloc (.cells (cfc wt tr a' n cap') 28)) a' n f) := SlS.below hs' bW
  have HB := hide bW
  clear hs hs' bW
  go_enter Try.func9, Try.ntmps9
  go_wp2_with fail
  refine (eqRuleS_true a a' n cap cap' f _ HS.out HS'.out hl).mono ?_
  rintro e w1 ⟨rfl, b1⟩
  have B1 := bel_next HB.out b1
  clear b1 HB HS HS'
  go_wp2
  go_ret
  exact ⟨rfl, B1⟩
def okC (wt tr : Int) (b : Bool) : Bool := (inB wt 1 100 && inB tr 0 5) && b
set_option maxHeartbeats 1000000 in
theorem specConfigOk_any (wt tr : Int) (a : Option Addr) (n cap : Nat) (f : Nat → Ru) (w : World) (hs : SlU w a n f) (hl : n ≤ 2000000) (b : Bool) (hb : b = true ↔ OkRs f n) :
    Calls Try.prog 14 #[.agg (cfc wt tr a n cap)] w fun e w' => e = .returned (.bool (okC wt tr b)) ∧ Below w.heap.size w w' := by
  have bW := bel_alloc w (.cells (cfc wt tr a n cap) 28)
  have HS : Hid (SlU (w.alloc (.cells (cfc wt tr a n cap) 28)) a n f ∧ Below w.heap.size w (w.alloc (.cells (cfc wt tr a n cap) 28))) := ⟨SlS.below hs bW, bW⟩
  have HB : Hid (b = true ↔ OkRs f n) := hb
  clear hs bW hb
  obtain ⟨c1, hc1⟩ : ∃ c1, c1 = inB wt 1 100 := ⟨_, rfl⟩
  obtain ⟨c2, hc2⟩ : ∃ c2, c2 = inB tr 0 5 := ⟨_, rfl⟩
  have HE : Hid (okC wt tr b = (c1 && c2 && b) ∧ inB wt 1 100 = c1 ∧ inB tr 0 5 = c2) := ⟨by unfold okC; rw [hc1, hc2], hc1.symm, hc2.symm⟩
  rw [HE.out.1]
  clear hc1 hc2
  go_enter Try.func14, Try.ntmps14
  go_wp2_with fail
  refine (l1In_any _ _ _ _ c1 HE.out.2.1).mono ?_
  rintro e w1 ⟨rfl, rfl⟩
  cases c1 with
  | false =>
    go_wp2
    go_ret
    exact ⟨rfl, HS.out.2⟩
  | true =>
    go_wp2_with fail
    refine (l1In_any _ _ _ _ c2 HE.out.2.2).mono ?_
    rintro e w1 ⟨rfl, rfl⟩
    cases c2 with
    | false =>
      go_wp2
      go_ret
      exact ⟨rfl, HS.out.2⟩
    | true =>
      go_wp2_with fail
      refine (specRulesOk_any a n cap f _ HS.out.1 hl b HB.out).mono ?_
      rintro e w2 ⟨rfl, b2⟩
      have B2 := bel_next HS.out.2 b2
      clear b2
      go_wp2
      go_ret
      exact ⟨rfl, B2⟩
set_option maxHeartbeats 1000000 in
theorem isWait_any (x : Int) (w : World) (b : Bool) (hb : inB x 1 100 = b) : Calls Try.prog 32 #[.int .i64 x] w fun e w' => e = .returned (.bool b) ∧ w' = w := by
  subst hb
  unfold inB
  by_cases h1 : 1 ≤ x
  · by_cases h2 : x ≤ 100
    · rw [decide_eq_true ⟨h1, h2⟩]
      go_enter Try.func32, Try.ntmps32
      go_wp2_with (go_at_call 49; go_in)
      go_ret
      exact ⟨rfl, rfl⟩
    · rw [decide_eq_false (fun h => h2 h.2)]
      go_enter Try.func32, Try.ntmps32
      go_wp2_with (go_at_call 49; go_in)
      go_ret
      exact ⟨rfl, rfl⟩
  · rw [decide_eq_false (fun h => h1 h.1)]
    go_enter Try.func32, Try.ntmps32
    go_wp2_with (go_at_call 49; go_in)
    go_ret
    exact ⟨rfl, rfl⟩
set_option maxHeartbeats 1000000 in
theorem isTries_any (x : Int) (w : World) (b : Bool) (hb : inB x 0 5 = b) : Calls Try.prog 33 #[.int .i64 x] w fun e w' => e = .returned (.bool b) ∧ w' = w := by
  subst hb
  unfold inB
  by_cases h1 : 0 ≤ x
  · by_cases h2 : x ≤ 5
    · rw [decide_eq_true ⟨h1, h2⟩]
      go_enter Try.func33, Try.ntmps33
      go_wp2
      go_ret
      exact ⟨rfl, rfl⟩
    · rw [decide_eq_false (fun h => h2 h.2)]
      go_enter Try.func33, Try.ntmps33
      go_wp2
      go_ret
      exact ⟨rfl, rfl⟩
  · rw [decide_eq_false (fun h => h1 h.1)]
    go_enter Try.func33, Try.ntmps33
    go_wp2
    go_ret
    exact ⟨rfl, rfl⟩
set_option maxHeartbeats 1000000 in
theorem implConfigOk_any (wt tr : Int) (a : Option Addr) (n cap : Nat) (f : Nat → Ru) (w : World) (hs : SlU w a n f) (hl : n ≤ 2000000) (h64 : ∀ k, k < n → -9223372036854775808 ≤ (f k).sh ∧ (f k).sh ≤ 9223372036854775807) (b : Bool) (hb : b = true ↔ OkRs f n) :
    Calls Try.prog 17 #[.agg (cfc wt tr a n cap)] w fun e w' => e = .returned (.bool (okC wt tr b)) ∧ Below w.heap.size w w' := by
  have bW := bel_alloc w (.cells (cfc wt tr a n cap) 28)
  have HS : Hid (SlU (w.alloc (.cells (cfc wt tr a n cap) 28)) a n f ∧ Below w.heap.size w (w.alloc (.cells (cfc wt tr a n cap) 28))) := ⟨SlS.below hs bW, bW⟩
  have HB : Hid ((b = true ↔ OkRs f n) ∧ ∀ k, k < n → -9223372036854775808 ≤ (f k).sh ∧ (f k).sh ≤ 9223372036854775807) := ⟨hb, h64⟩
  clear hs bW hb h64
  obtain ⟨c1, hc1⟩ : ∃ c1, c1 = inB wt 1 100 := ⟨_, rfl⟩
  obtain ⟨c2, hc2⟩ : ∃ c2, c2 = inB tr 0 5 := ⟨_, rfl⟩
  have HE : Hid (okC wt tr b = (c1 && c2 && b) ∧ inB wt 1 100 = c1 ∧ inB tr 0 5 = c2) := ⟨by unfold okC; rw [hc1, hc2], hc1.symm, hc2.symm⟩
  rw [HE.out.1]
  clear hc1 hc2
  go_enter Try.func17, Try.ntmps17
  go_wp2_with fail
  refine (isWait_any _ _ c1 HE.out.2.1).mono ?_
  rintro e w1 ⟨rfl, rfl⟩
  cases c1 with
  | false =>
    go_wp2
    go_ret
    exact ⟨rfl, HS.out.2⟩
  | true =>
    go_wp2_with fail
    refine (isTries_any _ _ c2 HE.out.2.2).mono ?_
    rintro e w1 ⟨rfl, rfl⟩
    cases c2 with
    | false =>
      go_wp2
      go_ret
      exact ⟨rfl, HS.out.2⟩
    | true =>
      go_wp2_with fail
      refine (implRulesOk_any a n cap f _ HS.out.1 hl HB.out.2 b HB.out.1).mono ?_
      rintro e w2 ⟨rfl, b2⟩
      have B2 := bel_next HS.out.2 b2
      clear b2
      go_wp2
      go_ret
      exact ⟨rfl, B2⟩
end Go.Proofs.Ytccffbbboodolaa
namespace Go.Proofs.Ytccffbbboodolaa
open Go.RowKit
set_option linter.unusedVariables false
set_option linter.unusedSimpArgs false
end Go.Proofs.Ytccffbbboodolaa
namespace Go.Proofs.Ytccffbbboodolaa
open Go.RowKit Go.Joins
set_option linter.unusedVariables false
set_option linter.unusedSimpArgs false
structure El where
  pre : List Value
  ws : List Int
  bs : List Bool
  post : List Value
instance : Inhabited El := ⟨⟨[], [], [], []⟩⟩
abbrev els (E : El) (a1 a2 : Option Addr) (c1 c2 : Nat) : List Value := E.pre ++ (.slice a1 E.ws.length c1 :: .slice a2 E.bs.length c2 :: E.post)
theorem bel_nx {w0 w w' : World} (h : Below w0.heap.size w0 w) (h' : Below w.heap.size w w') : Below w0.heap.size w0 w' := h.trans (h'.mono h.size)
theorem setL_gw {g : Nat} : ∀ (vs : List Value) (w : World) (o : Nat), w.grownBy (setL w g o vs) (some g)
  | [], w, o => World.grownBy.refl w _
  | v :: vs, w, o => by
    have h1 := grown_setj w g o v
    have h2 := setL_gw (g := g) vs (w.setCell ⟨g, o, none⟩ v) (o + 1)
    exact ⟨h2.os.trans h1.os, h2.tape.trans h1.tape, h2.output.trans h1.output, Nat.le_trans h1.size h2.size, fun k hk hne => by rw [show setL w g o (v :: vs) = setL (w.setCell ⟨g, o, none⟩ v) g (o + 1) vs from rfl, h2.block k (Nat.lt_of_lt_of_le hk h1.size) hne, h1.block k hk hne]⟩
theorem row_stL {w : World} {base size n g o : Nat} {e t : TypeId} {v : Value} {xs vs : List Value} (h : w.ownsRow base e size v n xs) (hb : ExB w g t) (ht : t ≠ e) : (setL w g o vs).ownsRow base e size v n xs := by
  obtain ⟨cs, hb⟩ := hb
  exact World.ownsRow.kept h (setL_gw vs w o) (.inr (row_noBlk h hb ht))
theorem row_ex {w : World} {base s n g : Nat} {e : TypeId} {v : Value} {xs : List Value} (h : w.ownsRow base e s v n xs) (hv : v.ownBlock = some g) : ExB w g e := by
  rcases h.2 with ⟨rfl, _⟩ | ⟨g', cap, cur, rfl, _, hh, _⟩
  · simp [Value.ownBlock] at hv
  · simp [Value.ownBlock] at hv
    subst hv
    exact ⟨cur, hh⟩
theorem grown_no {w w' : World} (hg : w.grownBy w' none) : Below w.heap.size w w' := (Below.refl _ w).grown hg (Nat.le_refl _) (fun k hk => by cases hk)
def RowO (w : World) (g : Nat) (t : TypeId) (s o n : Nat) (F : Nat → List Value) : Prop :=
  ∃ cs, w.heap[g]? = some (.cells cs t (0, 0)) ∧ o + n * s ≤ cs.size ∧ ∀ k, k < n → ∀ j, j < s → cs[o + k * s + j]? = (F k)[j]?
section
variable {w w' : World} {g : Nat} {t : TypeId} {s o n : Nat} {F G : Nat → List Value}
end
def OwnO (w : World) (base : Nat) (t : TypeId) (s : Nat) (v : Value) (n : Nat) (F : Nat → List Value) : Prop :=
  (n = 0 ∧ ∃ a c, v = .slice a 0 c) ∨ ∃ g o c, v = .slice (some ⟨g, o, none⟩) n c ∧ base ≤ g ∧ RowO w g t s o n F
section
variable {w w' : World} {base : Nat} {t : TypeId} {s : Nat} {v : Value} {n : Nat} {F : Nat → List Value}
end
def ElAt (w : World) (lo hi : Nat) (vs : List Value) (E : El) : Prop :=
  ∃ a1 a2 c1 c2, vs = els E a1 a2 c1 c2 ∧ OwnI w lo (.slice a1 E.ws.length c1) E.ws ∧ OwnB w lo (.slice a2 E.bs.length c2) E.bs ∧
    (∀ k, (Value.slice a1 E.ws.length c1).ownBlock = some k → k < hi) ∧ (∀ k, (Value.slice a2 E.bs.length c2).ownBlock = some k → k < hi)
section
variable {w w' : World} {lo hi : Nat} {vs : List Value} {E : El}
end
def InE (w : World) (base : Nat) (β : Nat → Nat) (F : Nat → List Value) (G : Nat → El) (z : Nat) : Prop :=
  base ≤ β 0 ∧ (∀ k, β k ≤ β (k + 1)) ∧ ∀ k, k < z → ElAt w (β k) (β (k + 1)) (F k) (G k)
section
variable {w w' : World} {base gx z : Nat} {β : Nat → Nat} {F F' : Nat → List Value} {G H : Nat → El}
end
def OwnL (w : World) (base : Nat) (t : TypeId) (s : Nat) (v : Value) (n : Nat) (G : Nat → El) : Prop :=
  ∃ (F : Nat → List Value) (β : Nat → Nat), OwnO w base t s v n F ∧ InE w base β F G n
def TopL (w : World) (base hi : Nat) (t : TypeId) (s : Nat) (v : Value) (n : Nat) (G : Nat → El) : Prop :=
  ∃ (F : Nat → List Value) (β : Nat → Nat), OwnO w base t s v n F ∧ InE w base β F G n ∧ β n ≤ hi ∧ ∀ g o m c, v = .slice (some ⟨g, o, none⟩) m c → 0 < n → g < hi
def SlL (w : World) (a : Option Addr) (s n : Nat) (G : Nat → El) : Prop :=
  ∃ F : Nat → List Value, SlS w a s n F ∧ ∀ k, k < n → ∃ a1 a2 c1 c2, F k = els (G k) a1 a2 c1 c2 ∧ SlI w a1 (G k).ws ∧ SlB w a2 (G k).bs
section
variable {w w' : World} {base : Nat} {t : TypeId} {s n : Nat} {v : Value} {G H : Nat → El} {a : Option Addr}
end
end Go.Proofs.Ytccffbbboodolaa
namespace Go.Proofs.Ytccffbbboodolaa
open Go.RowKit Go.Joins
set_option linter.unusedVariables false
set_option linter.unusedSimpArgs false
structure Ca where
  id : Int
  pa : Int
  un : Int
  kd : Int
  pl : Int
  n : Int
  wa : Int
  ws : List Int
  bs : List Bool
def caE (C : Ca) : El := ⟨[.int .i64 C.id, .int .i64 C.pa, .int .i64 C.un, .int .i64 C.kd, .int .i64 C.pl, .int .i64 C.n], C.ws, C.bs, [.int .i64 C.wa]⟩
abbrev cac (C : Ca) (a1 a2 : Option Addr) (l1 l2 c1 c2 : Nat) : Array Value := #[.int .i64 C.id, .int .i64 C.pa, .int .i64 C.un, .int .i64 C.kd, .int .i64 C.pl, .int .i64 C.n, .slice a1 l1 c1, .slice a2 l2 c2, .int .i64 C.wa]
def ca0 : Ca := ⟨0, 0, 0, 0, 0, 0, 0, [], []⟩
abbrev SlC (w : World) (a : Option Addr) (n : Nat) (f : Nat → Ca) : Prop := SlL w a 9 n (fun k => caE (f k))
abbrev OwC (w : World) (base : Nat) (v : Value) (n : Nat) (f : Nat → Ca) : Prop := OwnL w base 50 9 v n (fun k => caE (f k))
def tl (f : Nat → Ca) : Nat → Nat
  | 0 => 0
  | k + 1 => tl f k + ((f k).ws.length + (f k).bs.length)
def lfC (left l1 l2 : Nat) : Int := if l1 + l2 ≤ left then (left : Int) - (l1 : Int) - (l2 : Int) else -1
def lfS (left n : Nat) (f : Nat → Ca) : Int := if n + tl f n ≤ left then (left : Int) - (n : Int) - (tl f n : Int) else -1
def BdC (n : Nat) (f : Nat → Ca) : Prop := n ≤ 2000000 ∧ ∀ k, k < n → (f k).ws.length ≤ 2000000 ∧ (f k).bs.length ≤ 2000000
end Go.Proofs.Ytccffbbboodolaa
namespace Go.Proofs.Ytccffbbboodolaa
open Go.RowKit Go.Joins
set_option linter.unusedVariables false
set_option linter.unusedSimpArgs false
def wrA (cs : Array Value) : Nat → List Value → Array Value
  | _, [] => cs
  | o, v :: vs => wrA (cs.setIfInBounds o v) (o + 1) vs
theorem Blk.stL {g : Nat} {t : TypeId} : ∀ (vs : List Value) {w : World} {cs : Array Value} (o : Nat), Blk w g t cs → Blk (setL w g o vs) g t (wrA cs o vs)
  | [], w, cs, o, h => h
  | v :: vs, w, cs, o, h => Blk.stL vs (o + 1) (h.set o v)
theorem Blk.stNe {g g' : Nat} {t : TypeId} {cs : Array Value} (hne : g ≠ g') : ∀ (vs : List Value) {w : World} (o : Nat), Blk w g t cs → Blk (setL w g' o vs) g t cs
  | [], w, o, h => h
  | v :: vs, w, o, h => Blk.stNe hne vs (o + 1) (h.setNe hne)
theorem RowS.ex {w : World} {g : Nat} {t : TypeId} {s n : Nat} {F : Nat → List Value} (h : RowS w g t s n F) {k j : Nat} (hk : k < n) (hj : j < s) : ∃ v, w.cell? ⟨g, k * s + j, none⟩ = some v := by
  obtain ⟨cs, h1, h2, h3⟩ := h
  have hin : k * s + j < cs.size := by
    have : (k + 1) * s ≤ n * s := Nat.mul_le_mul_right s hk
    rw [Nat.add_mul, Nat.one_mul] at this
    omega
  exact ⟨cs[k * s + j], by rw [cell_of_block h1]; simp⟩
abbrev calL (C : Ca) (a1 a2 : Option Addr) (l1 l2 c1 c2 : Nat) : List Value := [.int .i64 C.id, .int .i64 C.pa, .int .i64 C.un, .int .i64 C.kd, .int .i64 C.pl, .int .i64 C.n, .slice a1 l1 c1, .slice a2 l2 c2, .int .i64 C.wa]
abbrev ca0c : Array Value := #[.int .i64 0, .int .i64 0, .int .i64 0, .int .i64 0, .int .i64 0, .int .i64 0, .slice none 0 0, .slice none 0 0, .int .i64 0]
def MadeL (w : World) (B : Nat) (t : TypeId) (s n : Nat) (G : Nat → El) : Prop := ∃ F β, RowS w B t s n F ∧ InE w B β F G n ∧ β n ≤ w.heap.size
end Go.Proofs.Ytccffbbboodolaa
namespace Go.Proofs.Ytccffbbboodolaa
open Go.RowKit
set_option linter.unusedVariables false
def okK (kd pl nn wa : Int) (l1 l2 : Nat) : Bool :=
  if kd = 1 ∨ kd = 2 then zrB true false false false nn l1 l2 wa && (inB nn 1 2000 && fitB pl nn)
  else if kd = 3 ∨ kd = 4 then zrB true false false false nn l1 l2 wa && (inB nn 1 125 && fitB pl nn)
  else if kd = 5 then zrB false false true false nn l1 l2 wa && decide (l2 = 1)
  else if kd = 6 then zrB false true false false nn l1 l2 wa && decide (l1 = 1)
  else if kd = 15 then zrB false false true false nn l1 l2 wa && (inB l2 1 1968 && fitB pl l2)
  else if kd = 16 then zrB false true false false nn l1 l2 wa && (inB l1 1 123 && fitB pl l1)
  else if kd = 22 then zrB false true false false nn l1 l2 wa && decide (l1 = 2)
  else if kd = 23 then zrB true true false true nn l1 l2 wa && (inB nn 1 125 && (fitB pl nn && (inB l1 1 121 && fitB wa l1)))
  else false
def okR (kd pl nn wa : Int) (ws : List Int) (l1 l2 : Nat) : Bool := allW ws && (inB pl 0 65535 && okK kd pl nn wa l1 l2)
end Go.Proofs.Ytccffbbboodolaa
namespace Go.Proofs.Ytccffbbboodolaa
open Go.RowKit
set_option linter.unusedVariables false
end Go.Proofs.Ytccffbbboodolaa
namespace Go.Proofs.Ytccffbbboodolaa
open Go.RowKit
set_option linter.unusedVariables false
end Go.Proofs.Ytccffbbboodolaa
namespace Go.Proofs.Ytccffbbboodolaa
open Go.RowKit
set_option linter.unusedVariables false
set_option linter.unusedSimpArgs false
end Go.Proofs.Ytccffbbboodolaa
namespace Go.Proofs.Ytccffbbboodolaa
open Go.RowKit
set_option linter.unusedVariables false
set_option linter.unusedSimpArgs false
abbrev WfQ (kd pl nn wa : Int) (ws : List Int) : Prop := (∀ n ∈ ws, -9223372036854775808 ≤ n ∧ n ≤ 9223372036854775807) ∧ (Lit.int .i64 kd).wf = true ∧ (Lit.int .i64 pl).wf = true ∧ (Lit.int .i64 nn).wf = true ∧ (Lit.int .i64 wa).wf = true
def spcN (kd nn : Int) (l1 l2 : Nat) : Int := if kd = 5 ∨ kd = 15 then l2 else if kd = 6 ∨ kd = 22 then 1 else if kd = 16 then l1 else nn
def spc0 (kd : Int) : Int := if kd = 1 ∨ kd = 5 ∨ kd = 15 then 0 else if kd = 2 then 1 else if kd = 4 then 3 else 2
def spcV (b : Bool) (kd pl nn : Int) (l1 l2 : Nat) : Value := bif b then .tuple #[.int .i64 (spc0 kd), .int .i64 pl, .int .i64 (spcN kd nn l1 l2)] else .tuple #[.int .i64 (-1), .int .i64 0, .int .i64 0]
end Go.Proofs.Ytccffbbboodolaa
namespace Go.Proofs.Ytccffbbboodolaa
open Go.RowKit Go.Joins
set_option linter.unusedVariables false
set_option linter.unusedSimpArgs false
theorem isCntL (x hi : Int) (w : World) (b : Bool) (hb : inB x 1 hi = b) : Calls Try.prog 49 #[.int .i64 x, .int .i64 hi] w fun e w' => e = .returned (.bool b) ∧ w' = w := by
  subst hb
  unfold inB
  by_cases h1 : 1 ≤ x
  · by_cases h2 : x ≤ hi
    · rw [decide_eq_true (show 1 ≤ x ∧ x ≤ hi from ⟨h1, h2⟩)]
      go_enter Try.func49, Try.ntmps49
      go_wp2
      go_ret
      exact ⟨rfl, rfl⟩
    · rw [decide_eq_false (show ¬ (1 ≤ x ∧ x ≤ hi) from fun h => h2 h.2)]
      go_enter Try.func49, Try.ntmps49
      go_wp2
      go_ret
      exact ⟨rfl, rfl⟩
  · rw [decide_eq_false (show ¬ (1 ≤ x ∧ x ≤ hi) from fun h => h1 h.1)]
    go_enter Try.func49, Try.ntmps49
    go_wp2
    go_ret
    exact ⟨rfl, rfl⟩
theorem isTriesL (x : Int) (w : World) (b : Bool) (hb : inB x 0 5 = b) : Calls Try.prog 33 #[.int .i64 x] w fun e w' => e = .returned (.bool b) ∧ w' = w := by
  subst hb
  unfold inB
  by_cases h1 : 0 ≤ x
  · by_cases h2 : x ≤ 5
    · rw [decide_eq_true ⟨h1, h2⟩]
      go_enter Try.func33, Try.ntmps33
      go_wp2
      go_ret
      exact ⟨rfl, rfl⟩
    · rw [decide_eq_false (fun h => h2 h.2)]
      go_enter Try.func33, Try.ntmps33
      go_wp2
      go_ret
      exact ⟨rfl, rfl⟩
  · rw [decide_eq_false (fun h => h1 h.1)]
    go_enter Try.func33, Try.ntmps33
    go_wp2
    go_ret
    exact ⟨rfl, rfl⟩
theorem isAnsWL (x : Int) (w : World) (b : Bool) (hb : inB x 1 100 = b) : Calls Try.prog 32 #[.int .i64 x] w fun e w' => e = .returned (.bool b) ∧ w' = w := by
  go_enter Try.func32, Try.ntmps32
  go_wp2_with fail
  refine (isCntL _ _ _ _ hb).mono ?_
  rintro e wx ⟨rfl, rfl⟩
  go_wp2
  go_ret
  exact ⟨rfl, rfl⟩
def okCa (C : Ca) : Bool := inB C.id 0 1000000000 && (inB C.pa 0 7 && (inB C.un 1 247 && okR C.kd C.pl C.n C.wa C.ws C.ws.length C.bs.length))
def noR (kd pl nn wa : Int) (l1 l2 : Nat) : Bool := (kd == 0) && ((pl == 0) && ((nn == 0) && ((wa == 0) && (((l1 : Int) == 0) && ((l2 : Int) == 0)))))
def noCa (C : Ca) (l1 l2 : Nat) : Bool := (C.id == 0) && ((C.pa == 0) && ((C.un == 0) && noR C.kd C.pl C.n C.wa l1 l2))
end Go.Proofs.Ytccffbbboodolaa
namespace Go.Proofs.Ytccffbbboodolaa
open Go.RowKit Go.Joins
set_option linter.unusedVariables false
set_option linter.unusedSimpArgs false
def Ob (vs : List Value) (k : Nat) : Prop := ∃ v ∈ vs, v.ownBlock = some k
def Out (w w' : World) (g : Nat) (P : Nat → Prop) : Prop := w.heap.size ≤ w'.heap.size ∧ ∀ k, k < w.heap.size → k ≠ g → ¬ P k → w'.heap[k]? = w.heap[k]?
end Go.Proofs.Ytccffbbboodolaa
namespace Go.Proofs.Ytccffbbboodolaa
open Go.RowKit Go.Joins
set_option linter.unusedVariables false
set_option linter.unusedSimpArgs false
structure La where
  bz : Bool
  c : Ca
  nu : Int
  du : Int
  le : Int
  nx : Int
  wt : Int
  tr : Int
abbrev lacL (L : La) (a : Option Addr) (n cp : Nat) (a1 a2 : Option Addr) (l1 l2 c1 c2 : Nat) : List Value := [.slice a n cp, .bool L.bz, .int .i64 L.c.id, .int .i64 L.c.pa, .int .i64 L.c.un, .int .i64 L.c.kd, .int .i64 L.c.pl, .int .i64 L.c.n, .slice a1 l1 c1, .slice a2 l2 c2, .int .i64 L.c.wa, .int .i64 L.nu, .int .i64 L.du, .int .i64 L.le, .int .i64 L.nx, .int .i64 L.wt, .int .i64 L.tr]
abbrev lac (L : La) (a : Option Addr) (n cp : Nat) (a1 a2 : Option Addr) (l1 l2 c1 c2 : Nat) : Array Value := #[.slice a n cp, .bool L.bz, .int .i64 L.c.id, .int .i64 L.c.pa, .int .i64 L.c.un, .int .i64 L.c.kd, .int .i64 L.c.pl, .int .i64 L.c.n, .slice a1 l1 c1, .slice a2 l2 c2, .int .i64 L.c.wa, .int .i64 L.nu, .int .i64 L.du, .int .i64 L.le, .int .i64 L.nx, .int .i64 L.wt, .int .i64 L.tr]
abbrev lzc : Array Value := #[.slice none 0 0, .bool false, .int .i64 0, .int .i64 0, .int .i64 0, .int .i64 0, .int .i64 0, .int .i64 0, .slice none 0 0, .slice none 0 0, .int .i64 0, .int .i64 0, .int .i64 0, .int .i64 0, .int .i64 0, .int .i64 0, .int .i64 0]
theorem lwr0_17 (v0 v1 v2 v3 v4 v5 v6 v7 v8 v9 v10 v11 v12 v13 v14 v15 v16 x0 x1 x2 x3 x4 x5 x6 x7 x8 x9 x10 x11 x12 x13 x14 x15 x16 : Value) : wrA #[v0, v1, v2, v3, v4, v5, v6, v7, v8, v9, v10, v11, v12, v13, v14, v15, v16] 0 [x0, x1, x2, x3, x4, x5, x6, x7, x8, x9, x10, x11, x12, x13, x14, x15, x16] = #[x0, x1, x2, x3, x4, x5, x6, x7, x8, x9, x10, x11, x12, x13, x14, x15, x16] := by simp [wrA]
def LnR (w : World) (n : Nat) (f : Nat → Ca) (L : La) (a a1 a2 : Option Addr) (l1 l2 : Nat) : Prop := l1 = L.c.ws.length ∧ l2 = L.c.bs.length ∧ SlC w a n f ∧ SlI w a1 L.c.ws ∧ SlB w a2 L.c.bs
def LnP (w : World) (base n : Nat) (f : Nat → Ca) (L : La) (a : Option Addr) (cp : Nat) (a1 a2 : Option Addr) (l1 l2 c1 c2 : Nat) : Prop :=
  l1 = L.c.ws.length ∧ l2 = L.c.bs.length ∧ ∃ (F : Nat → List Value) (β : Nat → Nat), OwnO w base 50 9 (.slice a n cp) n F ∧ InE w base β F (fun k => caE (f k)) n ∧ OwnI w base (.slice a1 l1 c1) L.c.ws ∧ OwnB w base (.slice a2 l2 c2) L.c.bs ∧
    (∀ k, (Value.slice a1 l1 c1).ownBlock = some k → ∀ j, j < n → ¬ Ob (F j) k) ∧ (∀ k, (Value.slice a2 l2 c2).ownBlock = some k → ∀ j, j < n → ¬ Ob (F j) k)
section
variable {w w' : World} {base n cp l1 l2 c1 c2 : Nat} {f : Nat → Ca} {L : La} {a a1 a2 : Option Addr}
end
def lfL (n : Nat) (f : Nat → Ca) (l1 l2 : Nat) : Int := if n + tl f n + l1 + l2 ≤ 1048576 then (((1048576 - (n + tl f n + l1 + l2) : Nat)) : Int) else -1
end Go.Proofs.Ytccffbbboodolaa
namespace Go.Proofs.Ytccffbbboodolaa
open Go.RowKit Go.Joins
set_option linter.unusedVariables false
theorem setCells_L (g : Nat) : ∀ (vs : List Value) (w : World) (o : Nat), w.setCells g o vs = setL w g o vs
  | [], _, _ => rfl
  | v :: vs, w, o => by
    rw [World.setCells, setCells_L g vs]
    rfl
theorem Blk.range {w : World} {g : Nat} {t : TypeId} {cs : Array Value} (h : Blk w g t cs) (o : Nat) (vs : List Value) (hv : ∀ j, j < vs.length → cs[o + j]? = vs[j]?) : w.rangeAt g o vs := fun j v hj => by
  have hlt : j < vs.length := (List.getElem?_eq_some_iff.1 hj).1
  exact h.cell (o + j) (by rw [hv j hlt, hj])
theorem Blk.there {w : World} {g : Nat} {t : TypeId} {cs : Array Value} (h : Blk w g t cs) (o n : Nat) (hn : o + n ≤ cs.size) : w.there g o n := fun j hj => by
  refine ⟨?_, h.fro _⟩
  rw [h.cell (o + j) (Array.getElem?_eq_getElem (show o + j < cs.size by omega))]
  rfl
theorem Blk.all {w : World} {g : Nat} {t : TypeId} {vs : List Value} (h : Blk w g t vs.toArray) : w.rangeAt g 0 vs := h.range 0 vs (fun j hj => by simp)
theorem wpList_alloc_any {P : Program} {ops : Array Oper} {rest : List Oper} {op : Oper} {a : Act} {w : World} {Q : Exit → Act → World → Prop} (hgd : op.guard = none) (ty : TypeId) (ho : op.op = .alloc ty) (cs : Array Value) (n b : Nat) (hi : (P.info? ty).map (fun i => (i.zero, i.size, i.bytes)) = some (some (.agg cs), n, b))
    (h : wpList P ops Q rest (a.put op.dst (.pointer (some ⟨w.heap.size, 0, none⟩))) (w.alloc (.cells cs ty))) : wpList P ops Q (op :: rest) a w :=
  wpList_plain hgd fun K hK => by
    have hz : (zeroValue ty).run P w = .ok (.agg cs) w := by
      cases hq : P.info? ty with
      | none => simp [hq] at hi
      | some i => simp [hq] at hi; simp [zeroValue, typeInfo, hq, hi.1]
    have hr : (execOp a.eval op).run P w = .ok (.value (.pointer (some ⟨w.heap.size, 0, none⟩))) (w.alloc (.cells cs ty)) := by
      unfold execOp
      simp only [ho]
      rw [Sem.run_bind]
      have h9 : (Instr.alloc ty true (.tuple #[])).run P w = .ok (.pointer (some ⟨w.heap.size, 0, none⟩)) (w.alloc (.cells cs ty)) := by
        unfold Instr.alloc
        rw [Sem.run_bind, hz]
        rfl
      rw [h9]
      rfl
    unfold Oper.wp
    rw [hr]
    exact hK _ _ h
end Go.Proofs.Ytccffbbboodolaa
namespace Go.Proofs.Ytccffbbboodolaa
open Go.RowKit Go.Joins
set_option linter.unusedVariables false
set_option linter.unusedSimpArgs false
theorem wpList_move_any {P : Program} {ops : Array Oper} {rest : List Oper} {op : Oper} {a : Act} {w : World} {Q : Exit → Act → World → Prop} (hgd : op.guard = none) (x : Operand) (ho : op.op = .move x) (v : Value) (hv : a.eval x = v)
    (h : wpList P ops Q rest (a.put op.dst v) w) : wpList P ops Q (op :: rest) a w :=
  wpList_plain hgd fun K hK => by
    unfold Oper.wp execOp
    simp only [ho, hv]
    exact hK _ _ h
theorem wpList_build_any {P : Program} {ops : Array Oper} {rest : List Oper} {op : Oper} {a : Act} {w : World} {Q : Exit → Act → World → Prop} (hgd : op.guard = none) (t : TypeId) (ps : Array (Nat × Operand)) (ho : op.op = .build t ps) (qs : Array (Nat × Value)) (hq : ps.map (fun (i, x) => (i, a.eval x)) = qs) (v : Value) (hr : (Instr.build t qs).run P w = .ok v w)
    (h : wpList P ops Q rest (a.put op.dst v) w) : wpList P ops Q (op :: rest) a w :=
  wpList_plain hgd fun K hK => by
    unfold Oper.wp execOp
    simp only [ho, hq]
    rw [Sem.run_bind, hr]
    exact hK _ _ h
theorem results_cell {P : Program} {fn : Func} {tmps : Array Value} {w : World} {s : Nat} {t : TypeId} {g o : Nat} {v : Value} (hf : fn.results = #[.cell s t]) (ha : tmps.getD s undef = .pointer (some ⟨g, o, none⟩)) (hl : (loadVar t ⟨g, o, none⟩).run P w = .ok v w) : (results fn tmps).run P w = .ok v w := by
  rw [Array.getD_eq_getD_getElem?] at ha
  unfold results
  rw [hf]
  simp [ha, asAddr, hl, Sem.run_bind]
end Go.Proofs.Ytccffbbboodolaa
namespace Go.Proofs.Ytccffbbboodolaa
open Go.RowKit Go.Joins
set_option linter.unusedVariables false
set_option linter.unusedSimpArgs false
def laN (wt tr : Int) : La := ⟨false, ca0, 0, 0, 0, 0, wt, tr⟩
def nwL (wt tr : Int) : La := if (inB wt 1 100 && inB tr 0 5) = true then laN wt tr else laN 0 0
set_option maxRecDepth 20000 in
set_option maxHeartbeats 2000000 in
theorem specLineNew_any (wt tr : Int) (w : World) :
    Calls Try.prog 15 #[.int .i64 wt, .int .i64 tr] w fun e w' => e = .returned (.agg (lac (nwL wt tr) none 0 0 none none 0 0 0 0)) ∧ Below w.heap.size w w' := by
  obtain ⟨W, hW⟩ : ∃ W, W = w.alloc (.cells lzc 52) := ⟨_, rfl⟩
  have HW : Hid (Below w.heap.size w W ∧ Blk W w.heap.size 52 lzc) := ⟨by rw [hW]; exact bel_alloc _ _, by rw [hW]; exact Blk.new _ _ _⟩
  obtain ⟨x0, hx0⟩ : ∃ x, inB wt 1 100 = x := ⟨_, rfl⟩
  obtain ⟨x1, hx1⟩ : ∃ x, inB tr 0 5 = x := ⟨_, rfl⟩
  have HX : Hid (inB wt 1 100 = x0 ∧ inB tr 0 5 = x1) := ⟨hx0, hx1⟩
  rw [show nwL wt tr = if (x0 && x1) = true then laN wt tr else laN 0 0 by unfold nwL; rw [hx0, hx1]]
  clear hx0 hx1
  go_enter Try.func15, Try.ntmps15
  go_upto_region 1 with fail
  rw [← hW]
  clear hW
  go_wp2_with fail
  refine (l1In_any _ _ _ _ _ HX.out.1).mono ?_
  rintro e w1 ⟨rfl, hw⟩
  have hw := hw.symm
  subst hw
  cases x0 with
  | false =>
    go_upto_region 2 with fail
    refine wp_region_lit ?_
    refine wpList_build_any rfl 52 #[] rfl #[] (by simp) (.agg lzc) (by kernel_rfl) ?_
    refine wpList_store_mid rfl 52 (.tmp 4) (.tmp 13) rfl w.heap.size 0 lzc rfl rfl (HW.out.2.there 0 17 (by simp)) (by kernel_rfl) (by simp [Value.oneCell']) ?_
    rw [setCells_L]
    refine wpList_nil ?_
    go_wp2
    have HB : Blk (setL W w.heap.size 0 (lacL (laN 0 0) none 0 0 none none 0 0 0 0)) w.heap.size 52 (lac (laN 0 0) none 0 0 none none 0 0 0 0) := by rw [show lac (laN 0 0) none 0 0 none none 0 0 0 0 = wrA lzc 0 (lacL (laN 0 0) none 0 0 none none 0 0 0 0) from (lwr0_17 _ _ _ _ _ _ _ _ _ _ _ _ _ _ _ _ _ _ _ _ _ _ _ _ _ _ _ _ _ _ _ _ _ _).symm]; exact Blk.stL _ _ HW.out.2
    refine bodyPost_ret (v := .agg (lac (laN 0 0) none 0 0 none none 0 0 0 0)) (results_cell Try.results15 rfl (run_loadVar_mid _ _ _ 52 (lacL (laN 0 0) none 0 0 none none 0 0 0 0) _ HB.all Try.underlying52 rfl (by kernel_rfl))) rfl ⟨?_, setL_below (Nat.le_refl _) _ _ _ HW.out.1⟩
    rfl
  | true =>
    go_wp2_with fail
    refine (l1In_any _ _ _ _ _ HX.out.2).mono ?_
    rintro e w1 ⟨rfl, hw⟩
    have hw := hw.symm
    subst hw
    cases x1 with
    | false =>
      go_upto_region 2 with fail
      refine wp_region_lit ?_
      refine wpList_build_any rfl 52 #[] rfl #[] (by simp) (.agg lzc) (by kernel_rfl) ?_
      refine wpList_store_mid rfl 52 (.tmp 4) (.tmp 13) rfl w.heap.size 0 lzc rfl rfl (HW.out.2.there 0 17 (by simp)) (by kernel_rfl) (by simp [Value.oneCell']) ?_
      rw [setCells_L]
      refine wpList_nil ?_
      go_wp2
      have HB : Blk (setL W w.heap.size 0 (lacL (laN 0 0) none 0 0 none none 0 0 0 0)) w.heap.size 52 (lac (laN 0 0) none 0 0 none none 0 0 0 0) := by rw [show lac (laN 0 0) none 0 0 none none 0 0 0 0 = wrA lzc 0 (lacL (laN 0 0) none 0 0 none none 0 0 0 0) from (lwr0_17 _ _ _ _ _ _ _ _ _ _ _ _ _ _ _ _ _ _ _ _ _ _ _ _ _ _ _ _ _ _ _ _ _ _).symm]; exact Blk.stL _ _ HW.out.2
      refine bodyPost_ret (v := .agg (lac (laN 0 0) none 0 0 none none 0 0 0 0)) (results_cell Try.results15 rfl (run_loadVar_mid _ _ _ 52 (lacL (laN 0 0) none 0 0 none none 0 0 0 0) _ HB.all Try.underlying52 rfl (by kernel_rfl))) rfl ⟨?_, setL_below (Nat.le_refl _) _ _ _ HW.out.1⟩
      rfl
    | true =>
      go_upto_region 3 with fail
      refine wp_region_lit ?_
      refine wpList_move_any rfl (.tmp 0) rfl (.int .i64 wt) rfl ?_
      refine wpList_move_any rfl (.tmp 1) rfl (.int .i64 tr) rfl ?_
      refine wpList_build_any rfl 52 #[(7, .tmp 14), (8, .tmp 15)] rfl #[(7, .int .i64 wt), (8, .int .i64 tr)] (by simp only [List.map_toArray, List.map_cons, List.map_nil]; rfl) (.agg (lac (laN wt tr) none 0 0 none none 0 0 0 0)) (by kernel_rfl) ?_
      refine wpList_store_mid rfl 52 (.tmp 4) (.tmp 16) rfl w.heap.size 0 (lac (laN wt tr) none 0 0 none none 0 0 0 0) rfl rfl (HW.out.2.there 0 17 (by simp)) (by kernel_rfl) (by simp [Value.oneCell']) ?_
      rw [setCells_L]
      refine wpList_nil ?_
      go_wp2
      have HB : Blk (setL W w.heap.size 0 (lacL (laN wt tr) none 0 0 none none 0 0 0 0)) w.heap.size 52 (lac (laN wt tr) none 0 0 none none 0 0 0 0) := by rw [show lac (laN wt tr) none 0 0 none none 0 0 0 0 = wrA lzc 0 (lacL (laN wt tr) none 0 0 none none 0 0 0 0) from (lwr0_17 _ _ _ _ _ _ _ _ _ _ _ _ _ _ _ _ _ _ _ _ _ _ _ _ _ _ _ _ _ _ _ _ _ _).symm]; exact Blk.stL _ _ HW.out.2
      refine bodyPost_ret (v := .agg (lac (laN wt tr) none 0 0 none none 0 0 0 0)) (results_cell Try.results15 rfl (run_loadVar_mid _ _ _ 52 (lacL (laN wt tr) none 0 0 none none 0 0 0 0) _ HB.all Try.underlying52 rfl (by kernel_rfl))) rfl ⟨?_, setL_below (Nat.le_refl _) _ _ _ HW.out.1⟩
      rfl
set_option maxRecDepth 20000 in
set_option maxHeartbeats 2000000 in
theorem implLineNew_any (wt tr : Int) (w : World) :
    Calls Try.prog 19 #[.int .i64 wt, .int .i64 tr] w fun e w' => e = .returned (.agg (lac (nwL wt tr) none 0 0 none none 0 0 0 0)) ∧ Below w.heap.size w w' := by
  obtain ⟨W, hW⟩ : ∃ W, W = w.alloc (.cells lzc 52) := ⟨_, rfl⟩
  have HW : Hid (Below w.heap.size w W ∧ Blk W w.heap.size 52 lzc) := ⟨by rw [hW]; exact bel_alloc _ _, by rw [hW]; exact Blk.new _ _ _⟩
  obtain ⟨x0, hx0⟩ : ∃ x, inB wt 1 100 = x := ⟨_, rfl⟩
  obtain ⟨x1, hx1⟩ : ∃ x, inB tr 0 5 = x := ⟨_, rfl⟩
  have HX : Hid (inB wt 1 100 = x0 ∧ inB tr 0 5 = x1) := ⟨hx0, hx1⟩
  rw [show nwL wt tr = if (x0 && x1) = true then laN wt tr else laN 0 0 by unfold nwL; rw [hx0, hx1]]
  clear hx0 hx1
  go_enter Try.func19, Try.ntmps19
  go_upto_region 1 with fail
  rw [← hW]
  clear hW
  go_wp2_with fail
  refine (isAnsWL _ _ _ HX.out.1).mono ?_
  rintro e w1 ⟨rfl, hw⟩
  have hw := hw.symm
  subst hw
  cases x0 with
  | false =>
    go_upto_region 2 with fail
    refine wp_region_lit ?_
    refine wpList_build_any rfl 52 #[] rfl #[] (by simp) (.agg lzc) (by kernel_rfl) ?_
    refine wpList_store_mid rfl 52 (.tmp 4) (.tmp 13) rfl w.heap.size 0 lzc rfl rfl (HW.out.2.there 0 17 (by simp)) (by kernel_rfl) (by simp [Value.oneCell']) ?_
    rw [setCells_L]
    refine wpList_nil ?_
    go_wp2
    have HB : Blk (setL W w.heap.size 0 (lacL (laN 0 0) none 0 0 none none 0 0 0 0)) w.heap.size 52 (lac (laN 0 0) none 0 0 none none 0 0 0 0) := by rw [show lac (laN 0 0) none 0 0 none none 0 0 0 0 = wrA lzc 0 (lacL (laN 0 0) none 0 0 none none 0 0 0 0) from (lwr0_17 _ _ _ _ _ _ _ _ _ _ _ _ _ _ _ _ _ _ _ _ _ _ _ _ _ _ _ _ _ _ _ _ _ _).symm]; exact Blk.stL _ _ HW.out.2
    refine bodyPost_ret (v := .agg (lac (laN 0 0) none 0 0 none none 0 0 0 0)) (results_cell Try.results19 rfl (run_loadVar_mid _ _ _ 52 (lacL (laN 0 0) none 0 0 none none 0 0 0 0) _ HB.all Try.underlying52 rfl (by kernel_rfl))) rfl ⟨?_, setL_below (Nat.le_refl _) _ _ _ HW.out.1⟩
    rfl
  | true =>
    go_wp2_with fail
    refine (isTriesL _ _ _ HX.out.2).mono ?_
    rintro e w1 ⟨rfl, hw⟩
    have hw := hw.symm
    subst hw
    cases x1 with
    | false =>
      go_upto_region 2 with fail
      refine wp_region_lit ?_
      refine wpList_build_any rfl 52 #[] rfl #[] (by simp) (.agg lzc) (by kernel_rfl) ?_
      refine wpList_store_mid rfl 52 (.tmp 4) (.tmp 13) rfl w.heap.size 0 lzc rfl rfl (HW.out.2.there 0 17 (by simp)) (by kernel_rfl) (by simp [Value.oneCell']) ?_
      rw [setCells_L]
      refine wpList_nil ?_
      go_wp2
      have HB : Blk (setL W w.heap.size 0 (lacL (laN 0 0) none 0 0 none none 0 0 0 0)) w.heap.size 52 (lac (laN 0 0) none 0 0 none none 0 0 0 0) := by rw [show lac (laN 0 0) none 0 0 none none 0 0 0 0 = wrA lzc 0 (lacL (laN 0 0) none 0 0 none none 0 0 0 0) from (lwr0_17 _ _ _ _ _ _ _ _ _ _ _ _ _ _ _ _ _ _ _ _ _ _ _ _ _ _ _ _ _ _ _ _ _ _).symm]; exact Blk.stL _ _ HW.out.2
      refine bodyPost_ret (v := .agg (lac (laN 0 0) none 0 0 none none 0 0 0 0)) (results_cell Try.results19 rfl (run_loadVar_mid _ _ _ 52 (lacL (laN 0 0) none 0 0 none none 0 0 0 0) _ HB.all Try.underlying52 rfl (by kernel_rfl))) rfl ⟨?_, setL_below (Nat.le_refl _) _ _ _ HW.out.1⟩
      rfl
    | true =>
      go_upto_region 3 with fail
      refine wp_region_lit ?_
      refine wpList_move_any rfl (.tmp 0) rfl (.int .i64 wt) rfl ?_
      refine wpList_move_any rfl (.tmp 1) rfl (.int .i64 tr) rfl ?_
      refine wpList_build_any rfl 52 #[(7, .tmp 14), (8, .tmp 15)] rfl #[(7, .int .i64 wt), (8, .int .i64 tr)] (by simp only [List.map_toArray, List.map_cons, List.map_nil]; rfl) (.agg (lac (laN wt tr) none 0 0 none none 0 0 0 0)) (by kernel_rfl) ?_
      refine wpList_store_mid rfl 52 (.tmp 4) (.tmp 16) rfl w.heap.size 0 (lac (laN wt tr) none 0 0 none none 0 0 0 0) rfl rfl (HW.out.2.there 0 17 (by simp)) (by kernel_rfl) (by simp [Value.oneCell']) ?_
      rw [setCells_L]
      refine wpList_nil ?_
      go_wp2
      have HB : Blk (setL W w.heap.size 0 (lacL (laN wt tr) none 0 0 none none 0 0 0 0)) w.heap.size 52 (lac (laN wt tr) none 0 0 none none 0 0 0 0) := by rw [show lac (laN wt tr) none 0 0 none none 0 0 0 0 = wrA lzc 0 (lacL (laN wt tr) none 0 0 none none 0 0 0 0) from (lwr0_17 _ _ _ _ _ _ _ _ _ _ _ _ _ _ _ _ _ _ _ _ _ _ _ _ _ _ _ _ _ _ _ _ _ _).symm]; exact Blk.stL _ _ HW.out.2
      refine bodyPost_ret (v := .agg (lac (laN wt tr) none 0 0 none none 0 0 0 0)) (results_cell Try.results19 rfl (run_loadVar_mid _ _ _ 52 (lacL (laN wt tr) none 0 0 none none 0 0 0 0) _ HB.all Try.underlying52 rfl (by kernel_rfl))) rfl ⟨?_, setL_below (Nat.le_refl _) _ _ _ HW.out.1⟩
      rfl
end Go.Proofs.Ytccffbbboodolaa
namespace Go.Proofs.Ytccffbbboodolaa
open Go.RowKit
set_option linter.unusedVariables false
abbrev rp (kd fl pl nn : Int) (a1 a2 : Option Addr) (l1 l2 c1 c2 : Nat) : Value := .agg #[.int .i64 kd, .int .i64 fl, .int .i64 pl, .int .i64 nn, .slice a1 l1 c1, .slice a2 l2 c2]
set_option maxHeartbeats 2000000 in
theorem eqResp_true (kd fl pl nn : Int) (a1 a2 a1' a2' : Option Addr) (l1 l2 l1' l2' c1 c2 c1' c2' : Nat) (ws : List Int) (bs : List Bool) (w : World) (h1 : l1 = ws.length) (h2 : l2 = bs.length) (h1' : l1' = ws.length) (h2' : l2' = bs.length) (s1 : SlI w a1 ws) (s2 : SlB w a2 bs) (s1' : SlI w a1' ws) (s2' : SlB w a2' bs) (hl1 : ws.length ≤ 2000000) (hl2 : bs.length ≤ 2000000) :
    Calls Try.prog 76 #[.agg #[.int .i64 kd, .int .i64 fl, .int .i64 pl, .int .i64 nn, .slice a1 l1 c1, .slice a2 l2 c2], .agg #[.int .i64 kd, .int .i64 fl, .int .i64 pl, .int .i64 nn, .slice a1' l1' c1', .slice a2' l2' c2']] w fun e w' => e = .returned (.bool true) ∧ Below w.heap.size w w' := by
  obtain ⟨W0, hW0'⟩ : ∃ W0, W0 = (w.alloc (.cells #[.int .i64 kd, .int .i64 fl, .int .i64 pl, .int .i64 nn, .slice a1 l1 c1, .slice a2 l2 c2] 98)).alloc (.cells #[.int .i64 kd, .int .i64 fl, .int .i64 pl, .int .i64 nn, .slice a1' l1' c1', .slice a2' l2' c2'] 98) := ⟨_, rfl⟩
  have hW0 : Hid (W0 = _) := hW0'
  have B0 : Below w.heap.size w W0 := by rw [hW0']; exact bel_next (bel_alloc w _) (bel_alloc _ _)
  have X0 : Blk W0 w.heap.size 98 #[.int .i64 kd, .int .i64 fl, .int .i64 pl, .int .i64 nn, .slice a1 l1 c1, .slice a2 l2 c2] := by rw [hW0']; exact (Blk.new w _ _).below (bel_alloc _ _)
  have Y0 : Blk W0 (w.heap.size + 1) 98 #[.int .i64 kd, .int .i64 fl, .int .i64 pl, .int .i64 nn, .slice a1' l1' c1', .slice a2' l2' c2'] := by
    rw [hW0']; have := Blk.new (w.alloc (.cells #[.int .i64 kd, .int .i64 fl, .int .i64 pl, .int .i64 nn, .slice a1 l1 c1, .slice a2 l2 c2] 98)) #[.int .i64 kd, .int .i64 fl, .int .i64 pl, .int .i64 nn, .slice a1' l1' c1', .slice a2' l2' c2'] 98; simpa using this
  have HH : Hid (l1 = ws.length ∧ l2 = bs.length ∧ l1' = ws.length ∧ l2' = bs.length ∧ SlI W0 a1 ws ∧ SlB W0 a2 bs ∧ SlI W0 a1' ws ∧ SlB W0 a2' bs) := ⟨h1, h2, h1', h2', s1.below B0, s2.below B0, s1'.below B0, s2'.below B0⟩
  obtain ⟨x0, x1, x2, x3, x4, x5⟩ := X0.six
  obtain ⟨y0, y1, y2, y3, y4, y5⟩ := Y0.six
  clear h1 h2 h1' h2' s1 s2 s1' s2' hW0'
  go_enter Try.func76, Try.ntmps76
  go_upto_region 1 with fail
  rw [← hW0.out]
  go_wp2_with fail
  refine (eqIntS_ok _ _ _ _ _ _ ws _ HH.out.1 HH.out.2.2.1 HH.out.2.2.2.2.1 HH.out.2.2.2.2.2.2.1 hl1).mono ?_
  rintro e w1 ⟨rfl, b1'⟩
  have b1 := bel_next B0 b1'
  have X1 := X0.below b1'
  have Y1 := Y0.below b1'
  have S1 : Hid (SlB w1 a2 bs ∧ SlB w1 a2' bs) := ⟨HH.out.2.2.2.2.2.1.below b1', HH.out.2.2.2.2.2.2.2.below b1'⟩
  clear x0 x1 x2 x3 x4 x5 y0 y1 y2 y3 y4 y5 X0 Y0 B0 b1'
  have x5 := X1.cell 5 rfl
  have y5 := Y1.cell 5 rfl
  go_wp2_with fail
  refine (eqBoolS_ok _ _ _ _ _ _ bs _ HH.out.2.1 HH.out.2.2.2.1 S1.out.1 S1.out.2 (by omega)).mono ?_
  rintro e w2 ⟨rfl, b2'⟩
  have b2 := bel_next b1 b2'
  go_wp2
  go_ret
  exact ⟨rfl, b2⟩
end Go.Proofs.Ytccffbbboodolaa
namespace Go.Proofs.Ytccffbbboodolaa
open Go.RowKit Go.Joins
set_option linter.unusedVariables false
set_option linter.unusedSimpArgs false
inductive Tr where
  | leaf (v : Value)
  | list (s n : Nat) (f : Nat → Nat → Tr)
def Rd (w : World) (lo : Nat) : Tr → Value → Prop
  | .leaf u, v => v = u
  | .list s n f, v => ∃ a c, v = .slice a n c ∧ n ≤ c ∧ n ≤ maxLen ∧ (n = 0 ∨ ∃ (g off : Nat) (F : Nat → List Value), a = some ⟨g, off, none⟩ ∧ lo ≤ g ∧ g < w.heap.size ∧
      ∀ k, k < n → (F k).length = s ∧ ∀ j v, (F k)[j]? = some v → w.cell? ⟨g, off + k * s + j, none⟩ = some v ∧ Rd w lo (f k j) v)
def RdL (w : World) (lo : Nat) (ts : Nat → Tr) (vs : List Value) : Prop := ∀ j v, vs[j]? = some v → Rd w lo (ts j) v
theorem Rd.below {w w' : World} {lo : Nat} (hb : Below w.heap.size w w') : ∀ {t : Tr} {v : Value}, Rd w lo t v → Rd w' lo t v := by
  intro t
  induction t with
  | leaf u => intro v h; exact h
  | list s n f ih =>
    intro v h
    obtain ⟨a, c, h1, h2, h3, h4⟩ := h
    refine ⟨a, c, h1, h2, h3, ?_⟩
    rcases h4 with h4 | ⟨g, off, F, ha, hlo, hg, hc⟩
    · exact .inl h4
    · refine .inr ⟨g, off, F, ha, hlo, Nat.lt_of_lt_of_le hg hb.size, fun k hk => ⟨(hc k hk).1, fun j v hj => ?_⟩⟩
      obtain ⟨q1, q2⟩ := (hc k hk).2 j v hj
      exact ⟨(hb.cell (p := ⟨g, off + k * s + j, none⟩) hg).trans q1, ih k j q2⟩
theorem Rd.shape {w : World} {lo s n : Nat} {f : Nat → Nat → Tr} {v : Value} (h : Rd w lo (.list s n f) v) : ∃ a c, v = .slice a n c ∧ n ≤ c ∧ n ≤ maxLen := by
  obtain ⟨a, c, h1, h2, h3, _⟩ := h
  exact ⟨a, c, h1, h2, h3⟩
theorem Rd.at {w : World} {lo s n m c k : Nat} {a : Option Addr} {f : Nat → Nat → Tr} (h : Rd w lo (.list s n f) (.slice a m c)) (hk : k < n) :
    ∃ g off vs, a = some ⟨g, off, none⟩ ∧ lo ≤ g ∧ g < w.heap.size ∧ vs.length = s ∧ w.rangeAt g (off + k * s) vs ∧ RdL w lo (f k) vs := by
  obtain ⟨a', c', h1, h2, h3, h4⟩ := h
  simp only [Value.slice.injEq] at h1
  rcases h4 with h4 | ⟨g, off, F, ha, hlo, hgs, hc⟩
  · omega
  · exact ⟨g, off, F k, by rw [h1.1, ha], hlo, hgs, (hc k hk).1, fun j v hj => ((hc k hk).2 j v hj).1, fun j v hj => ((hc k hk).2 j v hj).2⟩
/- How great a tree is, as the laws measure it. -/
def sumN : Nat → (Nat → Nat) → Nat
  | 0, _ => 0
  | n + 1, g => sumN n g + g n
theorem sumN_mono (g : Nat → Nat) : ∀ {i j : Nat}, i ≤ j → sumN i g ≤ sumN j g := by
  intro i j hij
  induction hij with
  | refl => exact Nat.le_refl _
  | step _ ih => exact Nat.le_trans ih (by simp [sumN])
theorem sumN_at (g : Nat → Nat) {k n : Nat} (hk : k < n) : g k ≤ sumN n g := by
  have := sumN_mono g (show k + 1 ≤ n by omega)
  simp only [sumN] at this
  omega
def Tr.sz : Tr → Nat
  | .leaf _ => 0
  | .list s n f => n + sumN n (fun k => sumN s (fun j => (f k j).sz))
def szT (s : Nat) (ts : Nat → Tr) : Nat := sumN s (fun j => (ts j).sz)
theorem Tr.sz_list (s n : Nat) (f : Nat → Nat → Tr) : (Tr.list s n f).sz = n + sumN n (fun k => szT s (f k)) := rfl
def lfT (left t : Nat) : Int := if t ≤ left then (left : Int) - (t : Int) else -1
/- Rows of numbers and of bits, as trees. -/
def intsT (ws : List Int) : Tr := .list 1 ws.length (fun k _ => .leaf (.int .i64 (ws.getD k 0)))
def boolsT (bs : List Bool) : Tr := .list 1 bs.length (fun k _ => .leaf (.bool (bs.getD k false)))
theorem sumN_zero : ∀ (n : Nat), sumN n (fun _ => 0) = 0
  | 0 => rfl
  | n + 1 => by simp [sumN, sumN_zero n]
theorem intsT_sz (ws : List Int) : (intsT ws).sz = ws.length := by
  unfold intsT
  simp [Tr.sz, sumN, sumN_zero]
theorem boolsT_sz (bs : List Bool) : (boolsT bs).sz = bs.length := by
  unfold boolsT
  simp [Tr.sz, sumN, sumN_zero]
theorem Rd.ints {w : World} {lo : Nat} {ws : List Int} {v : Value} (h : Rd w lo (intsT ws) v) : ∃ a c, v = .slice a ws.length c ∧ ws.length ≤ c ∧ ws.length ≤ maxLen ∧ SlI w a ws := by
  obtain ⟨a, c, h1, h2, h3, h4⟩ := h
  refine ⟨a, c, h1, h2, h3, ?_⟩
  rcases h4 with h4 | ⟨g, off, F, ha, hlo, hgs, hc⟩
  · exact .inl (List.eq_nil_of_length_eq_zero h4)
  · refine .inr ⟨g, off, ha, hgs, fun i hi => ?_⟩
    obtain ⟨q1, q2⟩ := hc i hi
    obtain ⟨v, hv⟩ : ∃ v, (F i)[0]? = some v := ⟨(F i)[0]'(by omega), by simp⟩
    obtain ⟨q3, q4⟩ := q2 0 v hv
    rw [Nat.mul_one, Nat.add_zero] at q3
    rw [q3]
    exact congrArg some q4
theorem Rd.bools {w : World} {lo : Nat} {bs : List Bool} {v : Value} (h : Rd w lo (boolsT bs) v) : ∃ a c, v = .slice a bs.length c ∧ bs.length ≤ c ∧ bs.length ≤ maxLen ∧ SlB w a bs := by
  obtain ⟨a, c, h1, h2, h3, h4⟩ := h
  refine ⟨a, c, h1, h2, h3, ?_⟩
  rcases h4 with h4 | ⟨g, off, F, ha, hlo, hgs, hc⟩
  · exact .inl (List.eq_nil_of_length_eq_zero h4)
  · refine .inr ⟨g, off, ha, hgs, fun i hi => ?_⟩
    obtain ⟨q1, q2⟩ := hc i hi
    obtain ⟨v, hv⟩ : ∃ v, (F i)[0]? = some v := ⟨(F i)[0]'(by omega), by simp⟩
    obtain ⟨q3, q4⟩ := q2 0 v hv
    rw [Nat.mul_one, Nat.add_zero] at q3
    rw [q3]
    exact congrArg some q4
def trs (l : List Tr) : Nat → Tr := fun j => l.getD j (.leaf undef)
theorem RdL.get {w : World} {lo j : Nat} {l : List Tr} {vs : List Value} {t : Tr} {v : Value} (h : RdL w lo (trs l) vs) (hv : vs[j]? = some v) (ht : l[j]? = some t) : Rd w lo t v := by
  have := h j v hv
  unfold trs at this
  rw [List.getD_eq_getElem?_getD, ht] at this
  exact this
end Go.Proofs.Ytccffbbboodolaa
namespace Go.Proofs.Ytccffbbboodolaa
open Go.RowKit Go.Joins
set_option linter.unusedVariables false
set_option linter.unusedSimpArgs false
theorem Tr.sz_leaf (v : Value) : (Tr.leaf v).sz = 0 := rfl
structure VQ where
  kd : Int
  pl : Int
  n : Int
  ws : List Int
  bs : List Bool
  wa : Int
instance : Inhabited VQ := ⟨⟨0, 0, 0, [], [], 0⟩⟩
def qT (X : VQ) : List Tr := [.leaf (.int .i64 X.kd), .leaf (.int .i64 X.pl), .leaf (.int .i64 X.n), intsT X.ws, boolsT X.bs, .leaf (.int .i64 X.wa)]
abbrev qL (X : VQ) (a1 : Option Addr) (l1 c1 : Nat) (a2 : Option Addr) (l2 c2 : Nat) : List Value := [.int .i64 X.kd, .int .i64 X.pl, .int .i64 X.n, .slice a1 l1 c1, .slice a2 l2 c2, .int .i64 X.wa]
theorem szT_q (X : VQ) : szT 6 (trs (qT X)) = X.ws.length + X.bs.length := by
  simp [szT, sumN, trs, qT, Tr.sz_leaf, intsT_sz, boolsT_sz]
structure VA where
  kd : Int
  fl : Int
  pl : Int
  n : Int
  ws : List Int
  bs : List Bool
instance : Inhabited VA := ⟨⟨0, 0, 0, 0, [], []⟩⟩
def aT (X : VA) : List Tr := [.leaf (.int .i64 X.kd), .leaf (.int .i64 X.fl), .leaf (.int .i64 X.pl), .leaf (.int .i64 X.n), intsT X.ws, boolsT X.bs]
abbrev aL (X : VA) (a1 : Option Addr) (l1 c1 : Nat) (a2 : Option Addr) (l2 c2 : Nat) : List Value := [.int .i64 X.kd, .int .i64 X.fl, .int .i64 X.pl, .int .i64 X.n, .slice a1 l1 c1, .slice a2 l2 c2]
theorem VA.cells {w : World} {lo : Nat} {X : VA} {vs : List Value} (h : RdL w lo (trs (aT X)) vs) (hl : vs.length = 6) : ∃ a1 c1 a2 c2, vs = aL X a1 (X.ws.length) c1 a2 (X.bs.length) c2 ∧ Rd w lo (intsT X.ws) (.slice a1 (X.ws.length) c1) ∧ Rd w lo (boolsT X.bs) (.slice a2 (X.bs.length) c2) := by
  match vs, hl with
  | [v0, v1, v2, v3, v4, v5], _ =>
    have e0 : v0 = .int .i64 X.kd := RdL.get h (j := 0) rfl rfl
    have e1 : v1 = .int .i64 X.fl := RdL.get h (j := 1) rfl rfl
    have e2 : v2 = .int .i64 X.pl := RdL.get h (j := 2) rfl rfl
    have e3 : v3 = .int .i64 X.n := RdL.get h (j := 3) rfl rfl
    have r1 : Rd w lo (intsT X.ws) v4 := RdL.get h (j := 4) rfl rfl
    obtain ⟨a1, c1, e4, _⟩ := r1.shape
    have r2 : Rd w lo (boolsT X.bs) v5 := RdL.get h (j := 5) rfl rfl
    obtain ⟨a2, c2, e5, _⟩ := r2.shape
    subst e0 e1 e2 e3 e4 e5
    exact ⟨a1, c1, a2, c2, rfl, r1, r2⟩
theorem szT_a (X : VA) : szT 6 (trs (aT X)) = X.ws.length + X.bs.length := by
  simp [szT, sumN, trs, aT, Tr.sz_leaf, intsT_sz, boolsT_sz]
structure VP where
  p : Int
  t : Int
  q : VQ
instance : Inhabited VP := ⟨⟨0, 0, default⟩⟩
def pT (X : VP) : List Tr := [.leaf (.int .i64 X.p), .leaf (.int .i64 X.t), .leaf (.int .i64 X.q.kd), .leaf (.int .i64 X.q.pl), .leaf (.int .i64 X.q.n), intsT X.q.ws, boolsT X.q.bs, .leaf (.int .i64 X.q.wa)]
abbrev pL (X : VP) (a1 : Option Addr) (l1 c1 : Nat) (a2 : Option Addr) (l2 c2 : Nat) : List Value := [.int .i64 X.p, .int .i64 X.t, .int .i64 X.q.kd, .int .i64 X.q.pl, .int .i64 X.q.n, .slice a1 l1 c1, .slice a2 l2 c2, .int .i64 X.q.wa]
theorem VP.cells {w : World} {lo : Nat} {X : VP} {vs : List Value} (h : RdL w lo (trs (pT X)) vs) (hl : vs.length = 8) : ∃ a1 c1 a2 c2, vs = pL X a1 (X.q.ws.length) c1 a2 (X.q.bs.length) c2 ∧ Rd w lo (intsT X.q.ws) (.slice a1 (X.q.ws.length) c1) ∧ Rd w lo (boolsT X.q.bs) (.slice a2 (X.q.bs.length) c2) := by
  match vs, hl with
  | [v0, v1, v2, v3, v4, v5, v6, v7], _ =>
    have e0 : v0 = .int .i64 X.p := RdL.get h (j := 0) rfl rfl
    have e1 : v1 = .int .i64 X.t := RdL.get h (j := 1) rfl rfl
    have e2 : v2 = .int .i64 X.q.kd := RdL.get h (j := 2) rfl rfl
    have e3 : v3 = .int .i64 X.q.pl := RdL.get h (j := 3) rfl rfl
    have e4 : v4 = .int .i64 X.q.n := RdL.get h (j := 4) rfl rfl
    have r1 : Rd w lo (intsT X.q.ws) v5 := RdL.get h (j := 5) rfl rfl
    obtain ⟨a1, c1, e5, _⟩ := r1.shape
    have r2 : Rd w lo (boolsT X.q.bs) v6 := RdL.get h (j := 6) rfl rfl
    obtain ⟨a2, c2, e6, _⟩ := r2.shape
    have e7 : v7 = .int .i64 X.q.wa := RdL.get h (j := 7) rfl rfl
    subst e0 e1 e2 e3 e4 e5 e6 e7
    exact ⟨a1, c1, a2, c2, rfl, r1, r2⟩
theorem szT_p (X : VP) : szT 8 (trs (pT X)) = X.q.ws.length + X.q.bs.length := by
  simp [szT, sumN, trs, pT, Tr.sz_leaf, intsT_sz, boolsT_sz]
structure VD where
  id : Int
  so : Int
  ta : Int
  un : Int
  q : VQ
  np : Nat
  pt : Nat → VP
  hs : List Bool
  nt : Nat
  tl : Nat → VA
instance : Inhabited VD := ⟨⟨0, 0, 0, 0, default, 0, fun _ => default, [], 0, fun _ => default⟩⟩
def dT (X : VD) : List Tr := [.leaf (.int .i64 X.id), .leaf (.int .i64 X.so), .leaf (.int .i64 X.ta), .leaf (.int .i64 X.un), .leaf (.int .i64 X.q.kd), .leaf (.int .i64 X.q.pl), .leaf (.int .i64 X.q.n), intsT X.q.ws, boolsT X.q.bs, .leaf (.int .i64 X.q.wa), .list 8 X.np (fun i => trs (pT (X.pt i))), boolsT X.hs, .list 6 X.nt (fun i => trs (aT (X.tl i)))]
abbrev dL (X : VD) (a1 : Option Addr) (l1 c1 : Nat) (a2 : Option Addr) (l2 c2 : Nat) (a3 : Option Addr) (l3 c3 : Nat) (a4 : Option Addr) (l4 c4 : Nat) (a5 : Option Addr) (l5 c5 : Nat) : List Value := [.int .i64 X.id, .int .i64 X.so, .int .i64 X.ta, .int .i64 X.un, .int .i64 X.q.kd, .int .i64 X.q.pl, .int .i64 X.q.n, .slice a1 l1 c1, .slice a2 l2 c2, .int .i64 X.q.wa, .slice a3 l3 c3, .slice a4 l4 c4, .slice a5 l5 c5]
theorem VD.cells {w : World} {lo : Nat} {X : VD} {vs : List Value} (h : RdL w lo (trs (dT X)) vs) (hl : vs.length = 13) : ∃ a1 c1 a2 c2 a3 c3 a4 c4 a5 c5, vs = dL X a1 (X.q.ws.length) c1 a2 (X.q.bs.length) c2 a3 (X.np) c3 a4 (X.hs.length) c4 a5 (X.nt) c5 ∧ Rd w lo (intsT X.q.ws) (.slice a1 (X.q.ws.length) c1) ∧ Rd w lo (boolsT X.q.bs) (.slice a2 (X.q.bs.length) c2) ∧ Rd w lo (.list 8 X.np (fun i => trs (pT (X.pt i)))) (.slice a3 (X.np) c3) ∧ Rd w lo (boolsT X.hs) (.slice a4 (X.hs.length) c4) ∧ Rd w lo (.list 6 X.nt (fun i => trs (aT (X.tl i)))) (.slice a5 (X.nt) c5) := by
  match vs, hl with
  | [v0, v1, v2, v3, v4, v5, v6, v7, v8, v9, v10, v11, v12], _ =>
    have e0 : v0 = .int .i64 X.id := RdL.get h (j := 0) rfl rfl
    have e1 : v1 = .int .i64 X.so := RdL.get h (j := 1) rfl rfl
    have e2 : v2 = .int .i64 X.ta := RdL.get h (j := 2) rfl rfl
    have e3 : v3 = .int .i64 X.un := RdL.get h (j := 3) rfl rfl
    have e4 : v4 = .int .i64 X.q.kd := RdL.get h (j := 4) rfl rfl
    have e5 : v5 = .int .i64 X.q.pl := RdL.get h (j := 5) rfl rfl
    have e6 : v6 = .int .i64 X.q.n := RdL.get h (j := 6) rfl rfl
    have r1 : Rd w lo (intsT X.q.ws) v7 := RdL.get h (j := 7) rfl rfl
    obtain ⟨a1, c1, e7, _⟩ := r1.shape
    have r2 : Rd w lo (boolsT X.q.bs) v8 := RdL.get h (j := 8) rfl rfl
    obtain ⟨a2, c2, e8, _⟩ := r2.shape
    have e9 : v9 = .int .i64 X.q.wa := RdL.get h (j := 9) rfl rfl
    have r3 : Rd w lo (.list 8 X.np (fun i => trs (pT (X.pt i)))) v10 := RdL.get h (j := 10) rfl rfl
    obtain ⟨a3, c3, e10, _⟩ := r3.shape
    have r4 : Rd w lo (boolsT X.hs) v11 := RdL.get h (j := 11) rfl rfl
    obtain ⟨a4, c4, e11, _⟩ := r4.shape
    have r5 : Rd w lo (.list 6 X.nt (fun i => trs (aT (X.tl i)))) v12 := RdL.get h (j := 12) rfl rfl
    obtain ⟨a5, c5, e12, _⟩ := r5.shape
    subst e0 e1 e2 e3 e4 e5 e6 e7 e8 e9 e10 e11 e12
    exact ⟨a1, c1, a2, c2, a3, c3, a4, c4, a5, c5, rfl, r1, r2, r3, r4, r5⟩
theorem szT_d (X : VD) : szT 13 (trs (dT X)) = X.q.ws.length + X.q.bs.length + (Tr.list 8 X.np (fun i => trs (pT (X.pt i)))).sz + X.hs.length + (Tr.list 6 X.nt (fun i => trs (aT (X.tl i)))).sz := by
  simp [szT, sumN, trs, dT, Tr.sz_leaf, intsT_sz, boolsT_sz]
structure VT where
  nx : Int
  m : Nat
  f : Nat → VD
instance : Inhabited VT := ⟨⟨0, 0, fun _ => default⟩⟩
def tT (X : VT) : List Tr := [.leaf (.int .i64 X.nx), .list 13 X.m (fun i => trs (dT (X.f i)))]
abbrev tL (X : VT) (a1 : Option Addr) (l1 c1 : Nat) : List Value := [.int .i64 X.nx, .slice a1 l1 c1]
theorem szT_t (X : VT) : szT 2 (trs (tT X)) = (Tr.list 13 X.m (fun i => trs (dT (X.f i)))).sz := by
  simp [szT, sumN, trs, tT, Tr.sz_leaf, intsT_sz, boolsT_sz]
end Go.Proofs.Ytccffbbboodolaa
namespace Go.Proofs.Ytccffbbboodolaa
open Go.RowKit Go.Joins
set_option linter.unusedVariables false
set_option linter.unusedSimpArgs false
inductive Sk where
  | leaf
  | row (g off s n : Nat) (K : Nat → Nat → Sk)
def Sk.bl : Sk → Nat → Prop
  | .leaf, _ => False
  | .row g _ s n K, b => b = g ∨ ∃ k j, k < n ∧ j < s ∧ (K k j).bl b
def Sk.ok : Sk → Prop
  | .leaf => True
  | .row g _ s n K => (∀ k j, k < n → j < s → (K k j).ok ∧ ¬ (K k j).bl g) ∧ ∀ k j k' j', k < n → j < s → k' < n → j' < s → (k ≠ k' ∨ j ≠ j') → ∀ b, (K k j).bl b → ¬ (K k' j').bl b
def Fit (w : World) : Tr → Sk → Value → Prop
  | .leaf u, K, v => K = .leaf ∧ v = u
  | .list s n f, .leaf, v => n = 0 ∧ ∃ a c, v = .slice a 0 c
  | .list s n f, .row g off s' n' K, v => s' = s ∧ n' = n ∧ ∃ c, v = .slice (some ⟨g, off, none⟩) n c ∧ n ≤ c ∧ n ≤ maxLen ∧ g < w.heap.size ∧ (∀ j, w.frozen? ⟨g, j, none⟩ = false) ∧
      ∀ k j, k < n → j < s → ∃ u, w.cell? ⟨g, off + k * s + j, none⟩ = some u ∧ Fit w (f k j) (K k j) u
theorem Fit.lt {w : World} {b : Nat} : ∀ {t : Tr} {K : Sk} {v : Value}, Fit w t K v → K.bl b → b < w.heap.size := by
  intro t
  induction t with
  | leaf u => intro K v h hb; obtain ⟨rfl, _⟩ := h; exact hb.elim
  | list s n f ih =>
    intro K v h hb
    cases K with
    | leaf => exact hb.elim
    | row g off s' n' K =>
      obtain ⟨rfl, rfl, c, _, _, _, hg, _, hc⟩ := h
      rcases hb with rfl | ⟨k, j, hk, hj, hb⟩
      · exact hg
      · obtain ⟨u, _, hf⟩ := hc k j hk hj
        exact ih k j hf hb
theorem Fit.same {w w' : World} (hs : w.heap.size ≤ w'.heap.size) : ∀ {t : Tr} {K : Sk} {v : Value}, Fit w t K v → (∀ b, K.bl b → w'.heap[b]? = w.heap[b]?) → Fit w' t K v := by
  intro t
  induction t with
  | leaf u => intro K v h _; exact h
  | list s n f ih =>
    intro K v h hb
    cases K with
    | leaf => exact h
    | row g off s' n' K =>
      obtain ⟨rfl, rfl, c, h1, h2, h3, hg, hz, hc⟩ := h
      have e := hb g (.inl rfl)
      refine ⟨rfl, rfl, c, h1, h2, h3, Nat.lt_of_lt_of_le hg hs, fun j => (World.frozen?_of_block (a := ⟨g, j, none⟩) e).trans (hz j), fun k j hk hj => ?_⟩
      obtain ⟨u, hu, hf⟩ := hc k j hk hj
      exact ⟨u, (World.cell?_of_block (a := ⟨g, off + k * s' + j, none⟩) e).trans hu, ih k j hf (fun b hb' => hb b (.inr ⟨k, j, hk, hj, hb'⟩))⟩
theorem Fit.below {w w' : World} {t : Tr} {K : Sk} {v : Value} (h : Fit w t K v) (hb : Below w.heap.size w w') : Fit w' t K v := h.same hb.size (fun b hb' => hb.block b (h.lt hb'))
theorem Fit.rd {w : World} {lo : Nat} : ∀ {t : Tr} {K : Sk} {v : Value}, Fit w t K v → (∀ b, K.bl b → lo ≤ b) → Rd w lo t v := by
  intro t
  induction t with
  | leaf u => intro K v h _; exact h.2
  | list s n f ih =>
    intro K v h hb
    cases K with
    | leaf =>
      obtain ⟨rfl, a, c, rfl⟩ := h
      exact ⟨a, c, rfl, Nat.zero_le _, Nat.zero_le _, .inl rfl⟩
    | row g off s' n' K =>
      obtain ⟨rfl, rfl, c, rfl, h2, h3, hg, hz, hc⟩ := h
      refine ⟨_, c, rfl, h2, h3, .inr ⟨g, off, fun k => (List.range s').map (fun j => (w.cell? ⟨g, off + k * s' + j, none⟩).getD undef), rfl, hb g (.inl rfl), hg, fun k hk => ⟨by simp, fun j v hv => ?_⟩⟩⟩
      have hj : j < s' := by have := (List.getElem?_eq_some_iff.1 hv).1; simpa using this
      obtain ⟨u, hu, hf⟩ := hc k j hk hj
      have e : v = u := by
        rw [List.getElem?_map, List.getElem?_range hj] at hv
        simp only [Option.map_some, Option.some.injEq] at hv
        rw [← hv, hu]
        rfl
      subst e
      exact ⟨hu, ih k j hf (fun b hb' => hb b (.inr ⟨k, j, hk, hj, hb'⟩))⟩
structure Cg (w w' : World) (S : Nat → Prop) : Prop where
  os : w'.os = w.os
  tape : w'.tape = w.tape
  output : w'.output = w.output
  size : w.heap.size ≤ w'.heap.size
  block : ∀ g, g < w.heap.size → ¬ S g → w'.heap[g]? = w.heap[g]?
theorem Cg.refl (w : World) (S : Nat → Prop) : Cg w w S := ⟨rfl, rfl, rfl, Nat.le_refl _, fun _ _ _ => rfl⟩
theorem Cg.trans {a b c : World} {S : Nat → Prop} (h : Cg a b S) (k : Cg b c S) : Cg a c S :=
  ⟨k.os.trans h.os, k.tape.trans h.tape, k.output.trans h.output, Nat.le_trans h.size k.size, fun g hg hn => (k.block g (Nat.lt_of_lt_of_le hg h.size) hn).trans (h.block g hg hn)⟩
theorem Cg.mono {w w' : World} {S S' : Nat → Prop} (h : Cg w w' S) (hs : ∀ g, S g → S' g) : Cg w w' S' := ⟨h.os, h.tape, h.output, h.size, fun g hg hn => h.block g hg (fun q => hn (hs g q))⟩
theorem Cg.ofBelow {w w' : World} {S : Nat → Prop} (h : Below w.heap.size w w') : Cg w w' S := ⟨h.os, h.tape, h.output, h.size, fun g hg _ => h.block g hg⟩
theorem Cg.set {w w' : World} {S : Nat → Prop} (h : Cg w w' S) {p : Addr} (hp : S p.block) (u : Value) : Cg w (w'.setCell p u) S :=
  h.trans ⟨rfl, rfl, rfl, by simp [World.setCell], fun g hg hn => Below.heap_setCell _ _ _ _ (fun e => hn (by rw [e]; exact hp))⟩
theorem Cg.below {B : Nat} {W w w' : World} {S : Nat → Prop} (hb : Below B W w) (hc : Cg w w' S) (hs : ∀ g, S g → B ≤ g) (hB : B ≤ w.heap.size) : Below B W w' :=
  hb.trans ⟨hc.os, hc.tape, hc.output, hc.size, fun k hk => hc.block k (by omega) (fun q => by have := hs k q; omega)⟩
theorem Fit.cg {w w' : World} {S : Nat → Prop} {t : Tr} {K : Sk} {v : Value} (h : Fit w t K v) (hc : Cg w w' S) (hd : ∀ b, K.bl b → ¬ S b) : Fit w' t K v := h.same hc.size (fun b hb => hc.block b (h.lt hb) (hd b hb))
theorem Fit.congr {w : World} {s n : Nat} {f f' : Nat → Nat → Tr} {K : Sk} {v : Value} (h : Fit w (.list s n f) K v) (he : ∀ k j, k < n → j < s → f k j = f' k j) : Fit w (.list s n f') K v := by
  cases K with
  | leaf => exact h
  | row g off s' n' K =>
    obtain ⟨rfl, rfl, c, h1, h2, h3, hg, hz, hc⟩ := h
    exact ⟨rfl, rfl, c, h1, h2, h3, hg, hz, fun k j hk hj => by rw [← he k j hk hj]; exact hc k j hk hj⟩
theorem Fit.row {w : World} {s n m c : Nat} {a : Option Addr} {f : Nat → Nat → Tr} {K : Sk} (h : Fit w (.list s n f) K (.slice a m c)) (h0 : 0 < n) : ∃ g off K', K = .row g off s n K' ∧ a = some ⟨g, off, none⟩ ∧ m = n ∧ n ≤ c ∧ n ≤ maxLen ∧ g < w.heap.size ∧ ∀ j, w.frozen? ⟨g, j, none⟩ = false := by
  cases K with
  | leaf => obtain ⟨e, _⟩ := h; omega
  | row g off s' n' K =>
    obtain ⟨rfl, rfl, c', h1, h2, h3, hg, hz, hc⟩ := h
    simp only [Value.slice.injEq] at h1
    obtain ⟨rfl, rfl, rfl⟩ := h1
    exact ⟨g, off, K, rfl, rfl, rfl, h2, h3, hg, hz⟩
theorem Fit.len {w : World} {s n m c : Nat} {a : Option Addr} {f : Nat → Nat → Tr} {K : Sk} (h : Fit w (.list s n f) K (.slice a m c)) : m = n ∧ n ≤ c ∧ n ≤ maxLen := by
  cases K with
  | leaf =>
    obtain ⟨rfl, a', c', h1⟩ := h
    simp only [Value.slice.injEq] at h1
    exact ⟨h1.2.1, Nat.zero_le _, Nat.zero_le _⟩
  | row g off s' n' K =>
    obtain ⟨rfl, rfl, c', h1, h2, h3, _⟩ := h
    simp only [Value.slice.injEq] at h1
    obtain ⟨-, rfl, rfl⟩ := h1
    exact ⟨rfl, h2, h3⟩
theorem cell_neT {s k j k' j' : Nat} (hj : j < s) (hj' : j' < s) (h : k ≠ k' ∨ j ≠ j') (off : Nat) : off + k * s + j ≠ off + k' * s + j' := by
  intro e
  have e' : k * s + j = k' * s + j' := by omega
  have h1 : (k * s + j) / s = k := by rw [Nat.mul_comm, Nat.mul_add_div (by omega), Nat.div_eq_of_lt hj, Nat.add_zero]
  have h2 : (k' * s + j') / s = k' := by rw [Nat.mul_comm, Nat.mul_add_div (by omega), Nat.div_eq_of_lt hj', Nat.add_zero]
  have e1 : k = k' := by rw [← h1, ← h2, e']
  subst e1
  rcases h with h | h
  · exact h rfl
  · omega
def atZ (z : Nat) (L : List Tr) (T0 : Nat → Nat → Tr) : Nat → Nat → Tr := fun i => if i = z then trs L else T0 i
theorem atZ_eq (z : Nat) (L : List Tr) (T0 : Nat → Nat → Tr) : atZ z L T0 z = trs L := by simp [atZ]
theorem atZ_ne {z i : Nat} (L : List Tr) (T0 : Nat → Nat → Tr) (h : i ≠ z) : atZ z L T0 i = T0 i := by simp [atZ, h]
theorem trs_set {L : List Tr} {j j' : Nat} {t : Tr} (h : j < L.length) : trs (L.set j t) j' = if j' = j then t else trs L j' := by
  unfold trs
  rw [List.getD_eq_getElem?_getD, List.getElem?_set]
  by_cases e : j = j'
  · subst e; simp [h]
  · rw [if_neg e, if_neg (fun x => e x.symm), List.getD_eq_getElem?_getD]
theorem Fit.cellZ {w : World} {s n z g off : Nat} {L : List Tr} {T0 : Nat → Nat → Tr} {K : Nat → Nat → Sk} {v : Value} (h : Fit w (.list s n (atZ z L T0)) (.row g off s n K) v) (hz : z < n) (j : Nat) (hj : j < s) : ∃ u, w.cell? ⟨g, off + z * s + j, none⟩ = some u ∧ Fit w (trs L j) (K z j) u := by
  obtain ⟨_, _, c, _, _, _, _, _, hc⟩ := h
  have := hc z j hz hj
  rw [atZ_eq] at this
  exact this
theorem Fit.setZ {w : World} {s n z g off : Nat} {L L' : List Tr} {T0 : Nat → Nat → Tr} {K : Nat → Nat → Sk} {v : Value} (h : Fit w (.list s n (atZ z L T0)) (.row g off s n K) v) (hok : (Sk.row g off s n K).ok) (hz : z < n) (j : Nat) (hj : j < s) (hl : j < L.length) (u0 u u' : Value) (hu0 : trs L j = .leaf u0) (hu : u = u') (hL : L' = L.set j (.leaf u')) :
    Fit (w.setCell ⟨g, off + z * s + j, none⟩ u) (.list s n (atZ z L' T0)) (.row g off s n K) v := by
  subst hu hL
  obtain ⟨_, _, c, h1, h2, h3, hg, hf, hc⟩ := h
  refine ⟨rfl, rfl, c, h1, h2, h3, by simpa using hg, fun i => by simpa using hf i, fun k i hk hi => ?_⟩
  obtain ⟨x, hx, hfx⟩ := hc k i hk hi
  have hblk : ∀ b, (K k i).bl b → (w.setCell ⟨g, off + z * s + j, none⟩ u).heap[b]? = w.heap[b]? := fun b hb => Below.heap_setCell _ _ _ _ (fun e => (hok.1 k i hk hi).2 (by have e' : b = g := e; rw [← e']; exact hb))
  have hsz : w.heap.size ≤ (w.setCell ⟨g, off + z * s + j, none⟩ u).heap.size := by simp [World.setCell]
  by_cases e : k = z ∧ i = j
  · obtain ⟨rfl, rfl⟩ := e
    refine ⟨u, World.cell?_setCell_same _ _ u hx, ?_⟩
    rw [atZ_eq, hu0] at hfx
    rw [atZ_eq, trs_set hl, if_pos rfl]
    exact ⟨hfx.1, rfl⟩
  · refine ⟨x, ?_, ?_⟩
    · rw [World.cell?_setCell_other (h := fun e' => cell_neT hj hi (show z ≠ k ∨ j ≠ i by omega) off (congrArg Addr.off e'))]
      exact hx
    · have hfx' : Fit w (atZ z (L.set j (.leaf u)) T0 k i) (K k i) x := by
        by_cases ek : k = z
        · subst ek
          rw [atZ_eq] at hfx ⊢
          rw [trs_set hl, if_neg (by omega)]
          exact hfx
        · rw [atZ_ne _ _ ek] at hfx ⊢
          exact hfx
      exact hfx'.same hsz hblk
theorem Fit.subZ {w w' : World} {s n z g off : Nat} {L L' : List Tr} {T0 : Nat → Nat → Tr} {K : Nat → Nat → Sk} {v : Value} (h : Fit w (.list s n (atZ z L T0)) (.row g off s n K) v) (hok : (Sk.row g off s n K).ok) (hz : z < n) (j : Nat) (hj : j < s) (hl : j < L.length) (u : Value) (hu : w.cell? ⟨g, off + z * s + j, none⟩ = some u) (t' : Tr) (hcg : Cg w w' (K z j).bl) (hf' : Fit w' t' (K z j) u) (hL : L' = L.set j t') :
    Fit w' (.list s n (atZ z L' T0)) (.row g off s n K) v := by
  subst hL
  obtain ⟨_, _, c, h1, h2, h3, hg, hf, hc⟩ := h
  have hgb := hcg.block g hg (hok.1 z j hz hj).2
  refine ⟨rfl, rfl, c, h1, h2, h3, Nat.lt_of_lt_of_le hg hcg.size, fun i => (World.frozen?_of_block (a := ⟨g, i, none⟩) hgb).trans (hf i), fun k i hk hi => ?_⟩
  obtain ⟨x, hx, hfx⟩ := hc k i hk hi
  have hcx : w'.cell? ⟨g, off + k * s + i, none⟩ = some x := (World.cell?_of_block (a := ⟨g, off + k * s + i, none⟩) hgb).trans hx
  refine ⟨x, hcx, ?_⟩
  by_cases e : k = z ∧ i = j
  · obtain ⟨rfl, rfl⟩ := e
    rw [atZ_eq, trs_set hl, if_pos rfl]
    have : x = u := by rw [hx] at hu; exact Option.some.inj hu
    rw [this]
    exact hf'
  · have hfx' : Fit w (atZ z (L.set j t') T0 k i) (K k i) x := by
      by_cases ek : k = z
      · subst ek
        rw [atZ_eq] at hfx ⊢
        rw [trs_set hl, if_neg (by omega)]
        exact hfx
      · rw [atZ_ne _ _ ek] at hfx ⊢
        exact hfx
    exact hfx'.cg hcg (fun b hb => hok.2 k i z j hk hi hz hj (by omega) b hb)
theorem Sk.bl_in {g off s n : Nat} {K : Nat → Nat → Sk} {k j b : Nat} (hk : k < n) (hj : j < s) (h : (K k j).bl b) : (Sk.row g off s n K).bl b := .inr ⟨k, j, hk, hj, h⟩
theorem Fit.toZ {w : World} {s n z : Nat} {f : Nat → Nat → Tr} {L : List Tr} {K : Sk} {v : Value} (h : Fit w (.list s n f) K v) (hL : ∀ j, j < s → f z j = trs L j) : Fit w (.list s n (atZ z L f)) K v :=
  h.congr (fun k j hk hj => by
    by_cases e : k = z
    · subst e; rw [atZ_eq]; exact hL j hj
    · rw [atZ_ne _ _ e])
theorem Fit.fro {w : World} {s n g off s' n' : Nat} {f : Nat → Nat → Tr} {K : Nat → Nat → Sk} {v : Value} (h : Fit w (.list s n f) (.row g off s' n' K) v) (j : Nat) : w.frozen? ⟨g, j, none⟩ = false := by
  obtain ⟨_, _, _, _, _, _, _, hz, _⟩ := h
  exact hz j
theorem Fit.shape {w : World} {s n : Nat} {f : Nat → Nat → Tr} {K : Sk} {v : Value} (h : Fit w (.list s n f) K v) : ∃ a c, v = .slice a n c := by
  cases K with
  | leaf => obtain ⟨rfl, a, c, rfl⟩ := h; exact ⟨a, c, rfl⟩
  | row g off s' n' K => obtain ⟨_, _, c, rfl, _⟩ := h; exact ⟨_, c, rfl⟩
theorem if_lt_succ {α : Type} {i z : Nat} (h : i ≠ z) (x y : α) : (if i < z then x else y) = (if i < z + 1 then x else y) := by
  by_cases e : i < z
  · rw [if_pos e, if_pos (by omega)]
  · rw [if_neg e, if_neg (by omega)]
theorem Fit.doneZ {w : World} {s n z : Nat} {L : List Tr} {T0 T1 : Nat → Nat → Tr} {K : Sk} {v : Value} (h : Fit w (.list s n (atZ z L T0)) K v) (hT : ∀ i, i ≠ z → T0 i = T1 i) (hz : ∀ j, j < s → trs L j = T1 z j) : Fit w (.list s n T1) K v :=
  h.congr (fun k j hk hj => by
    by_cases e : k = z
    · subst e; rw [atZ_eq, hz j hj]
    · rw [atZ_ne _ _ e, hT k e])
end Go.Proofs.Ytccffbbboodolaa
namespace Go.Proofs.Ytccffbbboodolaa
open Go.RowKit Go.Joins
set_option linter.unusedVariables false
set_option linter.unusedSimpArgs false
theorem sumN_le {g : Nat → Nat} {z n : Nat} (hz : z < n) : sumN z g + g z ≤ sumN n g := by
  have := sumN_mono g (show z + 1 ≤ n by omega)
  simpa [sumN] using this
set_option maxRecDepth 20000 in
set_option maxHeartbeats 2000000 in
theorem markIntS_f (ws : List Int) (a : Option Addr) (n c s : Nat) (x : Int) (K : Sk) (w : World) (hx : x = ((s : Nat) : Int)) (h : Fit w (intsT ws) K (.slice a n c)) (hok : K.ok) (hB : s + ws.length ≤ 1125899906842624) :
    Calls Try.prog 41 #[.slice a n c, .int .i64 x] w fun e w' => e = .returned (.int .i64 ((s + ws.length : Nat) : Int)) ∧ Fit w' (intsT (marksI s ws.length)) K (.slice a n c) ∧ Cg w w' K.bl := by
  subst hx
  obtain ⟨hn, hc1, hm⟩ := h.len
  unfold maxLen at hm
  have HN : Hid (n = ws.length) := hn
  rw [← hn] at hB hm ⊢
  have h1 : Fit w (.list 1 n (fun i _ => if i < 0 then .leaf (.int .i64 ((s : Int) + (i : Int))) else .leaf (.int .i64 (ws.getD i 0)))) K (.slice a n c) := by
    have h9 : Fit w (.list 1 n (fun i _ => .leaf (.int .i64 (ws.getD i 0)))) K (.slice a n c) := by
      unfold intsT at h
      rw [← hn] at h
      exact h
    exact h9.congr (fun k j hk hj => by simp)
  have HE : Hid (∀ w', Fit w' (.list 1 n (fun i _ => if i < n then .leaf (.int .i64 ((s : Int) + (i : Int))) else .leaf (.int .i64 (ws.getD i 0)))) K (.slice a n c) → Fit w' (intsT (marksI s n)) K (.slice a n c)) := by
    show ∀ w', _
    intro w' h9
    have h8 : Fit w' (.list 1 n (fun k _ => .leaf (.int .i64 ((marksI s n).getD k 0)))) K (.slice a n c) := h9.congr (fun k j hk hj => by simp only [if_pos hk]; rw [marksI_get s n k hk])
    unfold intsT
    rw [marksI_length]
    exact h8
  clear h hn
  by_cases h0 : n = 0
  · subst h0
    have h2 := HE.out w h1
    clear h1
    go_enter Try.func41, Try.ntmps41
    go_wp2
    refine wp_loop_rounds 1 ?_
    rw [rounds_succ]
    go_wp2
    go_ret
    exact ⟨rfl, h2, Cg.refl _ _⟩
  · obtain ⟨g, off, K', rfl, rfl, -, -, -, hg, -⟩ := h1.row (by omega)
    have HH : Hid (Fit w (.list 1 n (fun i _ => if i < 0 then .leaf (.int .i64 ((s : Int) + (i : Int))) else .leaf (.int .i64 (ws.getD i 0)))) (.row g off 1 n K') (.slice (some ⟨g, off, none⟩) n c) ∧ (Sk.row g off 1 n K').ok) := ⟨h1, hok⟩
    clear h1 hok
    go_enter Try.func41, Try.ntmps41
    go_wp2
    go_loopw [1, 5] (fun kv i wr => ∃ z : Nat, z ≤ n ∧ i = .int .i64 z ∧ kv = .int .i64 ((s : Int) + (z : Int)) ∧ Fit wr (.list 1 n (fun i _ => if i < z then .leaf (.int .i64 ((s : Int) + (i : Int))) else .leaf (.int .i64 (ws.getD i 0)))) (.row g off 1 n K') (.slice (some ⟨g, off, none⟩) n c) ∧ Cg w wr (Sk.row g off 1 n K').bl) (fun _ i _ => n - (intOf i).toNat)
    case atStart => exact ⟨0, Nat.zero_le _, rfl, by simp, HH.out.1, Cg.refl _ _⟩
    case round =>
      obtain ⟨z, hz, rfl, rfl, hF, hC⟩ := hrel
      by_cases hlt : z < n
      · have hi : (z : Int) < (n : Int) := by omega
        have F0 := hF.toZ (z := z) (L := [.leaf (.int .i64 (ws.getD z 0))]) (fun j hj => by
          have e0 : j = 0 := by omega
          subst e0
          simp only [if_neg (Nat.lt_irrefl z)]
          rfl)
        obtain ⟨u, e0', t0⟩ := F0.cellZ hlt 0 (by decide)
        have eo : off + z * 1 + 0 = off + z := by omega
        rw [eo] at e0'
        have f0 := F0.fro (off + z)
        have F1 := F0.setZ HH.out.2 hlt 0 (by decide) (by simp) _ (.int .i64 ((s : Int) + (z : Int))) (.int .i64 ((s : Int) + (z : Int))) rfl rfl rfl
        rw [eo] at F1
        have F2 := F1.doneZ (T1 := fun i _ => if i < z + 1 then .leaf (.int .i64 ((s : Int) + (i : Int))) else .leaf (.int .i64 (ws.getD i 0))) (fun i hi => by funext j; exact if_lt_succ hi _ _) (fun j hj => by
          have e0 : j = 0 := by omega
          subst e0
          simp only [if_pos (Nat.lt_succ_self z)]
          rfl)
        have C1 := hC.set (p := ⟨g, off + z, none⟩) (.inl rfl) (.int .i64 ((s : Int) + (z : Int)))
        have H1 : Hid (_ ∧ _) := ⟨F2, C1⟩
        clear hF hC F0 F1 F2 C1 t0 eo
        go_wp2
        go_roundw
        case rel => exact ⟨z + 1, by omega, by go_num, by go_num, H1.out.1, H1.out.2⟩
        case measure => simp [intOf]; omega
      · have hi : ¬ (z : Int) < (n : Int) := by omega
        have e9 : z = n := by omega
        subst e9
        have H1 : Hid (_ ∧ _) := ⟨HE.out _ hF, hC⟩
        clear hF hC
        go_wp2
        go_ret
        exact ⟨rfl, H1.out.1, H1.out.2⟩
set_option maxRecDepth 20000 in
set_option maxHeartbeats 2000000 in
theorem markBoolS_f (ws : List Bool) (a : Option Addr) (n c s : Nat) (x : Int) (K : Sk) (w : World) (hx : x = ((s : Nat) : Int)) (h : Fit w (boolsT ws) K (.slice a n c)) (hok : K.ok) (hB : s + ws.length ≤ 1125899906842624) :
    Calls Try.prog 42 #[.slice a n c, .int .i64 x] w fun e w' => e = .returned (.int .i64 ((s + ws.length : Nat) : Int)) ∧ Fit w' (boolsT (marksB s ws.length)) K (.slice a n c) ∧ Cg w w' K.bl := by
  subst hx
  obtain ⟨hn, hc1, hm⟩ := h.len
  unfold maxLen at hm
  have HN : Hid (n = ws.length) := hn
  rw [← hn] at hB hm ⊢
  have h1 : Fit w (.list 1 n (fun i _ => if i < 0 then .leaf (.bool (((s : Int) + (i : Int)) % 3 == 0)) else .leaf (.bool (ws.getD i false)))) K (.slice a n c) := by
    have h9 : Fit w (.list 1 n (fun i _ => .leaf (.bool (ws.getD i false)))) K (.slice a n c) := by
      unfold boolsT at h
      rw [← hn] at h
      exact h
    exact h9.congr (fun k j hk hj => by simp)
  have HE : Hid (∀ w', Fit w' (.list 1 n (fun i _ => if i < n then .leaf (.bool (((s : Int) + (i : Int)) % 3 == 0)) else .leaf (.bool (ws.getD i false)))) K (.slice a n c) → Fit w' (boolsT (marksB s n)) K (.slice a n c)) := by
    show ∀ w', _
    intro w' h9
    have h8 : Fit w' (.list 1 n (fun k _ => .leaf (.bool ((marksB s n).getD k false)))) K (.slice a n c) := h9.congr (fun k j hk hj => by simp only [if_pos hk]; rw [marksB_get s n k hk])
    unfold boolsT
    rw [marksB_length]
    exact h8
  clear h hn
  by_cases h0 : n = 0
  · subst h0
    have h2 := HE.out w h1
    clear h1
    go_enter Try.func42, Try.ntmps42
    go_wp2
    refine wp_loop_rounds 1 ?_
    rw [rounds_succ]
    go_wp2
    go_ret
    exact ⟨rfl, h2, Cg.refl _ _⟩
  · obtain ⟨g, off, K', rfl, rfl, -, -, -, hg, -⟩ := h1.row (by omega)
    have HH : Hid (Fit w (.list 1 n (fun i _ => if i < 0 then .leaf (.bool (((s : Int) + (i : Int)) % 3 == 0)) else .leaf (.bool (ws.getD i false)))) (.row g off 1 n K') (.slice (some ⟨g, off, none⟩) n c) ∧ (Sk.row g off 1 n K').ok) := ⟨h1, hok⟩
    clear h1 hok
    go_enter Try.func42, Try.ntmps42
    go_wp2
    go_loopw [1, 5] (fun kv i wr => ∃ z : Nat, z ≤ n ∧ i = .int .i64 z ∧ kv = .int .i64 ((s : Int) + (z : Int)) ∧ Fit wr (.list 1 n (fun i _ => if i < z then .leaf (.bool (((s : Int) + (i : Int)) % 3 == 0)) else .leaf (.bool (ws.getD i false)))) (.row g off 1 n K') (.slice (some ⟨g, off, none⟩) n c) ∧ Cg w wr (Sk.row g off 1 n K').bl) (fun _ i _ => n - (intOf i).toNat)
    case atStart => exact ⟨0, Nat.zero_le _, rfl, by simp, HH.out.1, Cg.refl _ _⟩
    case round =>
      obtain ⟨z, hz, rfl, rfl, hF, hC⟩ := hrel
      by_cases hlt : z < n
      · have hi : (z : Int) < (n : Int) := by omega
        have F0 := hF.toZ (z := z) (L := [.leaf (.bool (ws.getD z false))]) (fun j hj => by
          have e0 : j = 0 := by omega
          subst e0
          simp only [if_neg (Nat.lt_irrefl z)]
          rfl)
        obtain ⟨u, e0', t0⟩ := F0.cellZ hlt 0 (by decide)
        have eo : off + z * 1 + 0 = off + z := by omega
        rw [eo] at e0'
        have f0 := F0.fro (off + z)
        have F1 := F0.setZ HH.out.2 hlt 0 (by decide) (by simp) _ (.bool (((s : Int) + (z : Int)) % 3 == 0)) (.bool (((s : Int) + (z : Int)) % 3 == 0)) rfl rfl rfl
        rw [eo] at F1
        have F2 := F1.doneZ (T1 := fun i _ => if i < z + 1 then .leaf (.bool (((s : Int) + (i : Int)) % 3 == 0)) else .leaf (.bool (ws.getD i false))) (fun i hi => by funext j; exact if_lt_succ hi _ _) (fun j hj => by
          have e0 : j = 0 := by omega
          subst e0
          simp only [if_pos (Nat.lt_succ_self z)]
          rfl)
        have C1 := hC.set (p := ⟨g, off + z, none⟩) (.inl rfl) (.bool (((s : Int) + (z : Int)) % 3 == 0))
        have H1 : Hid (_ ∧ _) := ⟨F2, C1⟩
        clear hF hC F0 F1 F2 C1 t0 eo
        go_wp2
        go_roundw
        case rel => exact ⟨z + 1, by omega, by go_num, by go_num, H1.out.1, H1.out.2⟩
        case measure => simp [intOf]; omega
      · have hi : ¬ (z : Int) < (n : Int) := by omega
        have e9 : z = n := by omega
        subst e9
        have H1 : Hid (_ ∧ _) := ⟨HE.out _ hF, hC⟩
        clear hF hC
        go_wp2
        go_ret
        exact ⟨rfl, H1.out.1, H1.out.2⟩
set_option maxRecDepth 20000 in
set_option maxHeartbeats 2000000 in
theorem heldIntS_f (m : Nat) (a : Option Addr) (n c s : Nat) (x : Int) (w : World) (hx : x = ((s : Nat) : Int)) (h : Rd w 0 (intsT (marksI s m)) (.slice a n c)) (hB : s + m ≤ 1125899906842624) :
    Calls Try.prog 46 #[.slice a n c, .int .i64 x] w fun e w' => e = .returned (.int .i64 ((s + m : Nat) : Int)) ∧ w' = w := by
  subst hx
  obtain ⟨a', c', h1, -, hm, hs⟩ := h.ints
  simp only [Value.slice.injEq] at h1
  obtain ⟨rfl, h2, rfl⟩ := h1
  rw [marksI_length] at h2 hm
  subst h2
  unfold maxLen at hm
  have HS : Hid (SlI w a (marksI s n)) := hs
  clear hs h
  go_enter Try.func46, Try.ntmps46
  go_wp2
  go_loopw [1, 5] (fun kv i wr => ∃ z : Nat, z ≤ n ∧ i = .int .i64 z ∧ kv = .int .i64 ((s : Int) + (z : Int)) ∧ wr = w) (fun _ i _ => n - (intOf i).toNat)
  case atStart => exact ⟨0, Nat.zero_le _, rfl, by simp, rfl⟩
  case round =>
    obtain ⟨z, hz, rfl, rfl, hw⟩ := hrel
    subst hw
    by_cases hlt : z < n
    · have hi : (z : Int) < (n : Int) := by omega
      rcases HS.out with h0 | ⟨b, off, rfl, hb, hc⟩
      · have := congrArg List.length h0
        rw [marksI_length] at this
        simp at this
        omega
      · have e0 : wr.cell? ⟨b, off + z, none⟩ = some (.int .i64 ((s : Int) + (z : Int))) := by
          have h9 := hc z (by rw [marksI_length]; exact hlt)
          rw [marksI_get s n z hlt] at h9
          exact h9
        clear hc
        go_wp2
        go_roundw
        case rel => exact ⟨z + 1, by omega, by go_num, by go_num, trivial⟩
        case measure => simp [intOf]; omega
    · have hi : ¬ (z : Int) < (n : Int) := by omega
      have e9 : z = n := by omega
      subst e9
      go_wp2
      go_ret
      exact ⟨rfl, rfl⟩
set_option maxRecDepth 20000 in
set_option maxHeartbeats 2000000 in
theorem heldBoolS_f (m : Nat) (a : Option Addr) (n c s : Nat) (x : Int) (w : World) (hx : x = ((s : Nat) : Int)) (h : Rd w 0 (boolsT (marksB s m)) (.slice a n c)) (hB : s + m ≤ 1125899906842624) :
    Calls Try.prog 47 #[.slice a n c, .int .i64 x] w fun e w' => e = .returned (.int .i64 ((s + m : Nat) : Int)) ∧ w' = w := by
  subst hx
  obtain ⟨a', c', h1, -, hm, hs⟩ := h.bools
  simp only [Value.slice.injEq] at h1
  obtain ⟨rfl, h2, rfl⟩ := h1
  rw [marksB_length] at h2 hm
  subst h2
  unfold maxLen at hm
  have HS : Hid (SlB w a (marksB s n)) := hs
  clear hs h
  go_enter Try.func47, Try.ntmps47
  go_wp2
  go_loopw [1, 5] (fun kv i wr => ∃ z : Nat, z ≤ n ∧ i = .int .i64 z ∧ kv = .int .i64 ((s : Int) + (z : Int)) ∧ wr = w) (fun _ i _ => n - (intOf i).toNat)
  case atStart => exact ⟨0, Nat.zero_le _, rfl, by simp, rfl⟩
  case round =>
    obtain ⟨z, hz, rfl, rfl, hw⟩ := hrel
    subst hw
    by_cases hlt : z < n
    · have hi : (z : Int) < (n : Int) := by omega
      rcases HS.out with h0 | ⟨b, off, rfl, hb, hc⟩
      · have := congrArg List.length h0
        rw [marksB_length] at this
        simp at this
        omega
      · have e0 : wr.cell? ⟨b, off + z, none⟩ = some (.bool (((s : Int) + (z : Int)) % 3 == 0)) := by
          have h9 := hc z (by rw [marksB_length]; exact hlt)
          rw [marksB_get s n z hlt] at h9
          exact h9
        clear hc
        go_wp2
        go_roundw
        case rel => exact ⟨z + 1, by omega, by go_num, by go_num, trivial⟩
        case measure => simp [intOf]; omega
    · have hi : ¬ (z : Int) < (n : Int) := by omega
      have e9 : z = n := by omega
      subst e9
      go_wp2
      go_ret
      exact ⟨rfl, rfl⟩
def ctVQ (X : VQ) : Nat := 1 + 1 + 1 + X.ws.length + X.bs.length + 1
def nmVQ (k : Nat) (X : VQ) : VQ := ⟨((k : Nat) : Int), ((k + 1 : Nat) : Int), ((k + 1 + 1 : Nat) : Int), marksI (k + 1 + 1 + 1) X.ws.length, marksB (k + 1 + 1 + 1 + X.ws.length) X.bs.length, ((k + 1 + 1 + 1 + X.ws.length + X.bs.length : Nat) : Int)⟩
def ctVA (X : VA) : Nat := 1 + 1 + 1 + 1 + X.ws.length + X.bs.length
def nmVA (k : Nat) (X : VA) : VA := ⟨((k : Nat) : Int), ((k + 1 : Nat) : Int), ((k + 1 + 1 : Nat) : Int), ((k + 1 + 1 + 1 : Nat) : Int), marksI (k + 1 + 1 + 1 + 1) X.ws.length, marksB (k + 1 + 1 + 1 + 1 + X.ws.length) X.bs.length⟩
def ctVP (X : VP) : Nat := 1 + 1 + ctVQ X.q
def nmVP (k : Nat) (X : VP) : VP := ⟨((k : Nat) : Int), ((k + 1 : Nat) : Int), nmVQ (k + 1 + 1) X.q⟩
def ctVD (X : VD) : Nat := 1 + 1 + 1 + 1 + ctVQ X.q + sumN X.np (fun i => ctVP (X.pt i)) + X.hs.length + sumN X.nt (fun i => ctVA (X.tl i))
def nmVD (k : Nat) (X : VD) : VD := ⟨((k : Nat) : Int), ((k + 1 : Nat) : Int), ((k + 1 + 1 : Nat) : Int), ((k + 1 + 1 + 1 : Nat) : Int), nmVQ (k + 1 + 1 + 1 + 1) X.q, X.np, fun i => nmVP (k + 1 + 1 + 1 + 1 + ctVQ X.q + sumN i (fun i => ctVP (X.pt i))) (X.pt i), marksB (k + 1 + 1 + 1 + 1 + ctVQ X.q + sumN X.np (fun i => ctVP (X.pt i))) X.hs.length, X.nt, fun i => nmVA (k + 1 + 1 + 1 + 1 + ctVQ X.q + sumN X.np (fun i => ctVP (X.pt i)) + X.hs.length + sumN i (fun i => ctVA (X.tl i))) (X.tl i)⟩
def ctVT (X : VT) : Nat := 1 + sumN X.m (fun i => ctVD (X.f i))
def nmVT (k : Nat) (X : VT) : VT := ⟨((k : Nat) : Int), X.m, fun i => nmVD (k + 1 + sumN i (fun i => ctVD (X.f i))) (X.f i)⟩
end Go.Proofs.Ytccffbbboodolaa
namespace Go.Proofs.Ytccffbbboodolaa
open Go.RowKit Go.Joins
set_option linter.unusedVariables false
set_option linter.unusedSimpArgs false
def OwnS (w : World) (lo : Nat) (t : Tr) (v : Value) : Prop := ∃ K, Fit w t K v ∧ K.ok ∧ ∀ b, K.bl b → lo ≤ b
def Own1 (w : World) (lo hi : Nat) (ts : List Tr) (vs : List Value) : Prop :=
  ∃ K : Nat → Sk, vs.length = ts.length ∧ (∀ i v, vs[i]? = some v → Fit w (trs ts i) (K i) v) ∧ (∀ i, i < ts.length → (K i).ok ∧ ∀ b, (K i).bl b → lo ≤ b ∧ b < hi) ∧ ∀ i i', i < ts.length → i' < ts.length → i ≠ i' → ∀ b, (K i).bl b → ¬ (K i').bl b
theorem Own1.same {w w' : World} {lo hi : Nat} {ts : List Tr} {vs : List Value} (h : Own1 w lo hi ts vs) (hs : w.heap.size ≤ w'.heap.size) (hb : ∀ b, lo ≤ b → b < hi → w'.heap[b]? = w.heap[b]?) : Own1 w' lo hi ts vs := by
  obtain ⟨K, h1, h2, h3, h4⟩ := h
  refine ⟨K, h1, fun i v hv => (h2 i v hv).same hs (fun b hb' => ?_), h3, h4⟩
  have hi' : i < ts.length := by rw [← h1]; exact (List.getElem?_eq_some_iff.1 hv).1
  have := (h3 i hi').2 b hb'
  exact hb b this.1 this.2
def LsI (w : World) (g : Nat) (t : TypeId) (s n : Nat) (f : Nat → List Tr) (k : Nat) : Prop :=
  ∃ (F : Nat → List Value) (β : Nat → Nat), RowS w g t s n F ∧ g < β 0 ∧ (∀ j, β j ≤ β (j + 1)) ∧ β k ≤ w.heap.size ∧ ∀ j, j < k → (F j).length = s ∧ Own1 w (β j) (β (j + 1)) (f j) (F j)
end Go.Proofs.Ytccffbbboodolaa
