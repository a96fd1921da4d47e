/- Texts that the proof needs, joined: Cf1 Q2 Q3 Q4 Q5 Q6 Ln2 El1 Ln1 Ln5 RgY RgZ RgL FbN1 RgM. -/
import Derived.Test.YtkfgijkkffbpmaaGreatV8
import Derived.Test.YtkfgijkkffbpmaaGreatV9
import Derived.Test.YtkfgijkkffbpmaaGreatV7
import Derived.Deep.RegionWith
import Derived.Test.YtkfgijkkffbpmaaGreatV1
import Derived.Test.YtkfgijkkffbpmaaGreatV4
import Derived.Deep.MidRow
import Derived.Test.YtkfgijkkffbpmaaGreatV3
set_option linter.unusedVariables false
set_option linter.unusedSimpArgs false
set_option maxHeartbeats 8000000
set_option maxRecDepth 20000
namespace Go.Proofs.YtkfgijkkffbpmaaGreat
open Go.RowKit
theorem Blk.thr {w : World} {g : Nat} {t : TypeId} {v0 v1 v2 : Value} (h : Blk w g t #[v0, v1, v2]) : (w.cell? ⟨g, 0, none⟩ = some v0 /\ w.cell? ⟨g, 1, none⟩ = some v1 /\ w.cell? ⟨g, 2, none⟩ = some v2) /\ w.frozen? ⟨g, 0, none⟩ = false /\ w.frozen? ⟨g, 1, none⟩ = false /\ w.frozen? ⟨g, 2, none⟩ = false :=
 ⟨⟨h.cell 0 rfl, h.cell 1 rfl, h.cell 2 rfl⟩, h.fro 0, h.fro 1, h.fro 2⟩
theorem RowS.setc {w : World} {g g' j : Nat} {t : TypeId} {s n : Nat} {F : Nat -> List Value} {y : Value} (h : RowS w g t s n F) (hne : g' ≠ g) : RowS (w.setCell ⟨g', j, none⟩ y) g t s n F := by
 obtain ⟨cs, h1, h2⟩ := h
 exact ⟨cs, Blk.setNe h1 (Ne.symm hne), h2⟩
abbrev cfc (wt tr : Int) (a : Option Addr) (n c : Nat) : Array Value := #[.int .i64 wt, .int .i64 tr, .slice a n c]
theorem szConfig_fits (wt tr : Int) (a : Option Addr) (n cap : Nat) (w : World) (h : n <= 1048576) :
 Calls Tryz.prog 23 #[.agg (cfc wt tr a n cap), .int .i64 1048576] w fun e w' => e = .returned (.int .i64 ((1048576 - n : Nat) : Int)) /\ Below w.heap.size w w' := by
 have hnn : ¬ (((1048576 - n : Nat) : Int) < 0) := by omega
 go_enter Tryz.func23, Tryz.ntmps23
 go_wp2_with fail
 refine (szRuleS_fits a n cap 1048576 _ h (Nat.le_refl _)).mono ?_
 rintro e w1 ⟨rfl, rfl⟩
 go_wp2
 go_ret
 exact ⟨rfl, bel_alloc _ _⟩
theorem szConfig_big (wt tr : Int) (a : Option Addr) (n cap : Nat) (w : World) (hm : n <= maxLen) (h : ¬ n <= 1048576) :
 Calls Tryz.prog 23 #[.agg (cfc wt tr a n cap), .int .i64 1048576] w fun e w' => e = .returned (.int .i64 (-1)) /\ Below w.heap.size w w' := by
 go_enter Tryz.func23, Tryz.ntmps23
 go_wp2_with fail
 refine (szRuleS_big a n cap 1048576 _ hm h (Nat.le_refl _)).mono ?_
 rintro e w1 ⟨rfl, rfl⟩
 go_wp2
 go_ret
 exact ⟨rfl, bel_alloc _ _⟩
theorem toConfig_any (wt tr : Int) (a : Option Addr) (n cap : Nat) (f : Nat -> Ru) (w : World) (hs : SlU w a n f) (hl : n <= 2000000) :
 Calls Tryz.prog 26 #[.agg (cfc wt tr a n cap)] w fun e w' => ∃ g, e = .returned (.agg (cfc wt tr (some ⟨g, 0, none⟩) n n)) /\ RowU w' g n f /\ w.heap.size <= g /\ Below w.heap.size w w' := by
 obtain ⟨W, hW⟩ : ∃ W, W = ((w.alloc (.cells (cfc wt tr a n cap) 24)).alloc (.cells (cfc 0 0 none 0 0) 35)).alloc (.cells (cfc wt tr none 0 0) 35) := ⟨_, rfl⟩
 have hz : W.heap.size = w.heap.size + 1 + 1 + 1 := by rw [hW]; simp
 have bW : Below w.heap.size w W := by rw [hW]; exact bel_next (bel_next (bel_alloc w _) (bel_alloc _ _)) (bel_alloc _ _)
 have A0 : Blk W w.heap.size 24 (cfc wt tr a n cap) := by rw [hW]; exact ((Blk.new w _ _).below (bel_alloc _ _)).below (bel_alloc _ _)
 have R0 : Blk W (w.heap.size + 1) 35 (cfc 0 0 none 0 0) := by
  rw [hW]; have := (Blk.new (w.alloc (.cells (cfc wt tr a n cap) 24)) (cfc 0 0 none 0 0) 35).below (bel_alloc _ (.cells (cfc wt tr none 0 0) 35)); simpa using this
 have O0 : Blk W (w.heap.size + 1 + 1) 35 (cfc wt tr none 0 0) := by
  rw [hW]; have := Blk.new ((w.alloc (.cells (cfc wt tr a n cap) 24)).alloc (.cells (cfc 0 0 none 0 0) 35)) (cfc wt tr none 0 0) 35; simpa using this
 have HS : Hid (SlU W a n f) := SlS.below hs bW
 have H0 : Hid (Blk W w.heap.size 24 (cfc wt tr a n cap) /\ Blk W (w.heap.size + 1) 35 (cfc 0 0 none 0 0) /\ Blk W (w.heap.size + 1 + 1) 35 (cfc wt tr none 0 0) /\ Below w.heap.size w W /\ W.heap.size = w.heap.size + 1 + 1 + 1) := ⟨A0, R0, O0, bW, hz⟩
 obtain ⟨⟨y0, y1, y2⟩, _⟩ := A0.thr
 clear hs bW A0 R0 O0 hz
 go_enter Tryz.func26, Tryz.ntmps26
 go_upto_region 4 with fail
 rw [<- hW]
 clear hW
 go_wp2_with fail
 refine (toRuleS_any a n cap f _ HS.out hl).mono ?_
 rintro e w1 ⟨rfl, R1, b1⟩
 obtain ⟨g, hg⟩ : ∃ g, g = W.heap.size := ⟨_, rfl⟩
 rw [<- hg] at R1 ⊢
 obtain ⟨⟨x0, x1, x2⟩, ⟨f0, f1, f2⟩⟩ := (H0.out.2.2.1.below b1).thr
 obtain ⟨⟨z0, z1, z2⟩, ⟨e0, e1, e2⟩⟩ := (H0.out.2.1.below b1).thr
 have H1 : Hid (RowU w1 g n f /\ Below w.heap.size w w1 /\ w.heap.size + 1 + 1 + 1 = g) := ⟨R1, bel_next H0.out.2.2.2.1 b1, by rw [hg]; exact H0.out.2.2.2.2.symm⟩
 clear R1 b1 hg H0 y0 y1 y2 HS
 go_wp2
 refine bodyPost_ret (v := .agg (cfc wt tr (some ⟨g, 0, none⟩) n n)) (by simp [results, Tryz.results26, go_sem, z0, z1, z2]) rfl ⟨g, rfl, ?_, ?_, ?_⟩
 ·have := H1.out.2.2
  exact (((H1.out.1.setc (by omega)).setc (by omega)).setc (by omega)).setc (by omega)
 ·have := H1.out.2.2; omega
 exact (((H1.out.2.1.setCell (p := ⟨w.heap.size + 1 + 1, 2, none⟩) (by show w.heap.size <= w.heap.size + 1 + 1; omega) _).setCell (p := ⟨w.heap.size + 1, 0, none⟩) (by show w.heap.size <= w.heap.size + 1; omega) _).setCell (p := ⟨w.heap.size + 1, 1, none⟩) (by show w.heap.size <= w.heap.size + 1; omega) _).setCell (p := ⟨w.heap.size + 1, 2, none⟩) (by show w.heap.size <= w.heap.size + 1; omega) _
theorem eqConfig_true (wt tr : Int) (a a' : Option Addr) (n cap cap' : Nat) (f : Nat -> Ru) (w : World) (hs : SlU w a n f) (hs' : SlU w a' n f) (hl : n <= 2000000) :
 Calls Tryz.prog 30 #[.agg (cfc wt tr a n cap), .agg (cfc wt tr a' n cap')] w fun e w' => e = .returned (.bool true) /\ Below w.heap.size w w' := by
 have bW : Below w.heap.size w ((w.alloc (.cells (cfc wt tr a n cap) 35)).alloc (.cells (cfc wt tr a' n cap') 35)) := bel_next (bel_alloc _ _) (bel_alloc _ _)
 have HS : Hid (SlU ((w.alloc (.cells (cfc wt tr a n cap) 35)).alloc (.cells (cfc wt tr a' n cap') 35)) a n f) := SlS.below hs bW
 have HS' : Hid (SlU ((w.alloc (.cells (cfc wt tr a n cap) 35)).alloc (.cells (cfc wt tr a' n cap') 35)) a' n f) := SlS.below hs' bW
 have HB := hide bW
 clear hs hs' bW
 go_enter Tryz.func30, Tryz.ntmps30
 go_wp2_with fail
 refine (eqRuleS_true a a' n cap cap' f _ HS.out HS'.out hl).mono ?_
 rintro e w1 ⟨rfl, b1⟩
 have B1 := bel_next HB.out b1
 clear b1 HB HS HS'
 go_wp2
 go_ret
 exact ⟨rfl, B1⟩
def okC (wt tr : Int) (b : Bool) : Bool := (inB wt 1 100 && inB tr 0 5) && b
theorem specConfigOk_any (wt tr : Int) (a : Option Addr) (n cap : Nat) (f : Nat -> Ru) (w : World) (hs : SlU w a n f) (hl : n <= 2000000) (b : Bool) (hb : b = true ↔ OkRs f n) :
 Calls Tryz.prog 43 #[.agg (cfc wt tr a n cap)] w fun e w' => e = .returned (.bool (okC wt tr b)) /\ Below w.heap.size w w' := by
 have bW := bel_alloc w (.cells (cfc wt tr a n cap) 35)
 have HS : Hid (SlU (w.alloc (.cells (cfc wt tr a n cap) 35)) a n f /\ Below w.heap.size w (w.alloc (.cells (cfc wt tr a n cap) 35))) := ⟨SlS.below hs bW, bW⟩
 have HB : Hid (b = true ↔ OkRs f n) := hb
 clear hs bW hb
 obtain ⟨c1, hc1⟩ : ∃ c1, c1 = inB wt 1 100 := ⟨_, rfl⟩
 obtain ⟨c2, hc2⟩ : ∃ c2, c2 = inB tr 0 5 := ⟨_, rfl⟩
 have HE : Hid (okC wt tr b = (c1 && c2 && b) /\ inB wt 1 100 = c1 /\ inB tr 0 5 = c2) := ⟨by unfold okC; rw [hc1, hc2], hc1.symm, hc2.symm⟩
 rw [HE.out.1]
 clear hc1 hc2
 go_enter Tryz.func43, Tryz.ntmps43
 go_wp2_with fail
 refine (l1In_any _ _ _ _ c1 HE.out.2.1).mono ?_
 rintro e w1 ⟨rfl, rfl⟩
 cases c1
 case false =>
  go_wp2
  go_ret
  exact ⟨rfl, HS.out.2⟩
 go_wp2_with fail
 refine (l1In_any _ _ _ _ c2 HE.out.2.2).mono ?_
 rintro e w1 ⟨rfl, rfl⟩
 cases c2
 case false =>
  go_wp2
  go_ret
  exact ⟨rfl, HS.out.2⟩
 go_wp2_with fail
 refine (specRulesOk_any a n cap f _ HS.out.1 hl b HB.out).mono ?_
 rintro e w2 ⟨rfl, b2⟩
 have B2 := bel_next HS.out.2 b2
 clear b2
 go_wp2
 go_ret
 exact ⟨rfl, B2⟩
theorem isWait_any (x : Int) (w : World) (b : Bool) (hb : inB x 1 100 = b) : Calls Tryz.prog 136 #[.int .i64 x] w fun e w' => e = .returned (.bool b) /\ w' = w := by
 subst hb
 unfold inB
 by_cases h1 : 1 <= x
 ·by_cases h2 : x <= 100
  ·rw [decide_eq_true ⟨h1, h2⟩]
   go_enter Tryz.func136, Tryz.ntmps136
   go_wp2_with (go_at_call 201; go_in)
   go_ret
   exact ⟨rfl, rfl⟩
  rw [decide_eq_false (fun h => h2 h.2)]
  go_enter Tryz.func136, Tryz.ntmps136
  go_wp2_with (go_at_call 201; go_in)
  go_ret
  exact ⟨rfl, rfl⟩
 rw [decide_eq_false (fun h => h1 h.1)]
 go_enter Tryz.func136, Tryz.ntmps136
 go_wp2_with (go_at_call 201; go_in)
 go_ret
 exact ⟨rfl, rfl⟩
theorem isTries_any (x : Int) (w : World) (b : Bool) (hb : inB x 0 5 = b) : Calls Tryz.prog 137 #[.int .i64 x] w fun e w' => e = .returned (.bool b) /\ w' = w := by
 subst hb
 unfold inB
 by_cases h1 : 0 <= x
 ·by_cases h2 : x <= 5
  ·rw [decide_eq_true ⟨h1, h2⟩]
   go_enter Tryz.func137, Tryz.ntmps137
   go_wp2
   go_ret
   exact ⟨rfl, rfl⟩
  rw [decide_eq_false (fun h => h2 h.2)]
  go_enter Tryz.func137, Tryz.ntmps137
  go_wp2
  go_ret
  exact ⟨rfl, rfl⟩
 rw [decide_eq_false (fun h => h1 h.1)]
 go_enter Tryz.func137, Tryz.ntmps137
 go_wp2
 go_ret
 exact ⟨rfl, rfl⟩
theorem implConfigOk_any (wt tr : Int) (a : Option Addr) (n cap : Nat) (f : Nat -> Ru) (w : World) (hs : SlU w a n f) (hl : n <= 2000000) (h64 : ∀ k, k < n -> -9223372036854775808 <= (f k).sh /\ (f k).sh <= 9223372036854775807) (b : Bool) (hb : b = true ↔ OkRs f n) :
 Calls Tryz.prog 73 #[.agg (cfc wt tr a n cap)] w fun e w' => e = .returned (.bool (okC wt tr b)) /\ Below w.heap.size w w' := by
 have bW := bel_alloc w (.cells (cfc wt tr a n cap) 35)
 have HS : Hid (SlU (w.alloc (.cells (cfc wt tr a n cap) 35)) a n f /\ Below w.heap.size w (w.alloc (.cells (cfc wt tr a n cap) 35))) := ⟨SlS.below hs bW, bW⟩
 have HB : Hid ((b = true ↔ OkRs f n) /\ ∀ k, k < n -> -9223372036854775808 <= (f k).sh /\ (f k).sh <= 9223372036854775807) := ⟨hb, h64⟩
 clear hs bW hb h64
 obtain ⟨c1, hc1⟩ : ∃ c1, c1 = inB wt 1 100 := ⟨_, rfl⟩
 obtain ⟨c2, hc2⟩ : ∃ c2, c2 = inB tr 0 5 := ⟨_, rfl⟩
 have HE : Hid (okC wt tr b = (c1 && c2 && b) /\ inB wt 1 100 = c1 /\ inB tr 0 5 = c2) := ⟨by unfold okC; rw [hc1, hc2], hc1.symm, hc2.symm⟩
 rw [HE.out.1]
 clear hc1 hc2
 go_enter Tryz.func73, Tryz.ntmps73
 go_wp2_with fail
 refine (isWait_any _ _ c1 HE.out.2.1).mono ?_
 rintro e w1 ⟨rfl, rfl⟩
 cases c1
 case false =>
  go_wp2
  go_ret
  exact ⟨rfl, HS.out.2⟩
 go_wp2_with fail
 refine (isTries_any _ _ c2 HE.out.2.2).mono ?_
 rintro e w1 ⟨rfl, rfl⟩
 cases c2
 case false =>
  go_wp2
  go_ret
  exact ⟨rfl, HS.out.2⟩
 go_wp2_with fail
 refine (implRulesOk_any a n cap f _ HS.out.1 hl HB.out.2 b HB.out.1).mono ?_
 rintro e w2 ⟨rfl, b2⟩
 have B2 := bel_next HS.out.2 b2
 clear b2
 go_wp2
 go_ret
 exact ⟨rfl, B2⟩
end Go.Proofs.YtkfgijkkffbpmaaGreat
namespace Go.Proofs.YtkfgijkkffbpmaaGreat
open Go.RowKit
def okK (kd pl nn wa : Int) (l1 l2 : Nat) : Bool :=
 if kd = 1 \/ kd = 2 then zrB true false false false nn l1 l2 wa && (inB nn 1 2000 && fitB pl nn)
 else if kd = 3 \/ kd = 4 then zrB true false false false nn l1 l2 wa && (inB nn 1 125 && fitB pl nn)
 else if kd = 5 then zrB false false true false nn l1 l2 wa && decide (l2 = 1)
 else if kd = 6 then zrB false true false false nn l1 l2 wa && decide (l1 = 1)
 else if kd = 15 then zrB false false true false nn l1 l2 wa && (inB l2 1 1968 && fitB pl l2)
 else if kd = 16 then zrB false true false false nn l1 l2 wa && (inB l1 1 123 && fitB pl l1)
 else if kd = 22 then zrB false true false false nn l1 l2 wa && decide (l1 = 2)
 else if kd = 23 then zrB true true false true nn l1 l2 wa && (inB nn 1 125 && (fitB pl nn && (inB l1 1 121 && fitB wa l1)))
 else false
def okR (kd pl nn wa : Int) (ws : List Int) (l1 l2 : Nat) : Bool := allW ws && (inB pl 0 65535 && okK kd pl nn wa l1 l2)
end Go.Proofs.YtkfgijkkffbpmaaGreat
namespace Go.Proofs.YtkfgijkkffbpmaaGreat
open Go.RowKit
end Go.Proofs.YtkfgijkkffbpmaaGreat
namespace Go.Proofs.YtkfgijkkffbpmaaGreat
open Go.RowKit
end Go.Proofs.YtkfgijkkffbpmaaGreat
namespace Go.Proofs.YtkfgijkkffbpmaaGreat
open Go.RowKit
end Go.Proofs.YtkfgijkkffbpmaaGreat
namespace Go.Proofs.YtkfgijkkffbpmaaGreat
open Go.RowKit
abbrev WfQ (kd pl nn wa : Int) (ws : List Int) : Prop := (∀ n ∈ ws, -9223372036854775808 <= n /\ n <= 9223372036854775807) /\ (Lit.int .i64 kd).wf = true /\ (Lit.int .i64 pl).wf = true /\ (Lit.int .i64 nn).wf = true /\ (Lit.int .i64 wa).wf = true
def spcN (kd nn : Int) (l1 l2 : Nat) : Int := if kd = 5 \/ kd = 15 then l2 else if kd = 6 \/ kd = 22 then 1 else if kd = 16 then l1 else nn
def spc0 (kd : Int) : Int := if kd = 1 \/ kd = 5 \/ kd = 15 then 0 else if kd = 2 then 1 else if kd = 4 then 3 else 2
def spcV (b : Bool) (kd pl nn : Int) (l1 l2 : Nat) : Value := bif b then .tuple #[.int .i64 (spc0 kd), .int .i64 pl, .int .i64 (spcN kd nn l1 l2)] else .tuple #[.int .i64 (-1), .int .i64 0, .int .i64 0]
end Go.Proofs.YtkfgijkkffbpmaaGreat
namespace Go.Proofs.YtkfgijkkffbpmaaGreat
open Go.RowKit Go.Joins
theorem isCntL (x hi : Int) (w : World) (b : Bool) (hb : inB x 1 hi = b) : Calls Tryz.prog 201 #[.int .i64 x, .int .i64 hi] w fun e w' => e = .returned (.bool b) /\ w' = w := by
 subst hb
 unfold inB
 by_cases h1 : 1 <= x
 ·by_cases h2 : x <= hi
  ·rw [decide_eq_true (show 1 <= x /\ x <= hi from ⟨h1, h2⟩)]
   go_enter Tryz.func201, Tryz.ntmps201
   go_wp2
   go_ret
   exact ⟨rfl, rfl⟩
  rw [decide_eq_false (show ¬ (1 <= x /\ x <= hi) from fun h => h2 h.2)]
  go_enter Tryz.func201, Tryz.ntmps201
  go_wp2
  go_ret
  exact ⟨rfl, rfl⟩
 rw [decide_eq_false (show ¬ (1 <= x /\ x <= hi) from fun h => h1 h.1)]
 go_enter Tryz.func201, Tryz.ntmps201
 go_wp2
 go_ret
 exact ⟨rfl, rfl⟩
theorem isTriesL (x : Int) (w : World) (b : Bool) (hb : inB x 0 5 = b) : Calls Tryz.prog 137 #[.int .i64 x] w fun e w' => e = .returned (.bool b) /\ w' = w := by
 subst hb
 unfold inB
 by_cases h1 : 0 <= x
 ·by_cases h2 : x <= 5
  ·rw [decide_eq_true ⟨h1, h2⟩]
   go_enter Tryz.func137, Tryz.ntmps137
   go_wp2
   go_ret
   exact ⟨rfl, rfl⟩
  rw [decide_eq_false (fun h => h2 h.2)]
  go_enter Tryz.func137, Tryz.ntmps137
  go_wp2
  go_ret
  exact ⟨rfl, rfl⟩
 rw [decide_eq_false (fun h => h1 h.1)]
 go_enter Tryz.func137, Tryz.ntmps137
 go_wp2
 go_ret
 exact ⟨rfl, rfl⟩
theorem isAnsWL (x : Int) (w : World) (b : Bool) (hb : inB x 1 100 = b) : Calls Tryz.prog 136 #[.int .i64 x] w fun e w' => e = .returned (.bool b) /\ w' = w := by
 go_enter Tryz.func136, Tryz.ntmps136
 go_wp2_with fail
 refine (isCntL _ _ _ _ hb).mono ?_
 rintro e wx ⟨rfl, rfl⟩
 go_wp2
 go_ret
 exact ⟨rfl, rfl⟩
def okCa (C : Ca) : Bool := inB C.id 0 1000000000 && (inB C.pa 0 7 && (inB C.un 1 247 && okR C.kd C.pl C.n C.wa C.ws C.ws.length C.bs.length))
def noR (kd pl nn wa : Int) (l1 l2 : Nat) : Bool := (kd == 0) && ((pl == 0) && ((nn == 0) && ((wa == 0) && (((l1 : Int) == 0) && ((l2 : Int) == 0)))))
def noCa (C : Ca) (l1 l2 : Nat) : Bool := (C.id == 0) && ((C.pa == 0) && ((C.un == 0) && noR C.kd C.pl C.n C.wa l1 l2))
end Go.Proofs.YtkfgijkkffbpmaaGreat
namespace Go.Proofs.YtkfgijkkffbpmaaGreat
open Go.RowKit Go.Joins
def Ob (vs : List Value) (k : Nat) : Prop := ∃ v ∈ vs, v.ownBlock = some k
def Out (w w' : World) (g : Nat) (P : Nat -> Prop) : Prop := w.heap.size <= w'.heap.size /\ ∀ k, k < w.heap.size -> k ≠ g -> ¬ P k -> w'.heap[k]? = w.heap[k]?
end Go.Proofs.YtkfgijkkffbpmaaGreat
namespace Go.Proofs.YtkfgijkkffbpmaaGreat
open Go.RowKit Go.Joins
structure La where
 bz : Bool
 c : Ca
 nu : Int
 du : Int
 le : Int
 nx : Int
 wt : Int
 tr : Int
abbrev lacL (L : La) (a : Option Addr) (n cp : Nat) (a1 a2 : Option Addr) (l1 l2 c1 c2 : Nat) : List Value := [.slice a n cp, .bool L.bz, .int .i64 L.c.id, .int .i64 L.c.pa, .int .i64 L.c.un, .int .i64 L.c.kd, .int .i64 L.c.pl, .int .i64 L.c.n, .slice a1 l1 c1, .slice a2 l2 c2, .int .i64 L.c.wa, .int .i64 L.nu, .int .i64 L.du, .int .i64 L.le, .int .i64 L.nx, .int .i64 L.wt, .int .i64 L.tr]
abbrev lac (L : La) (a : Option Addr) (n cp : Nat) (a1 a2 : Option Addr) (l1 l2 c1 c2 : Nat) : Array Value := #[.slice a n cp, .bool L.bz, .int .i64 L.c.id, .int .i64 L.c.pa, .int .i64 L.c.un, .int .i64 L.c.kd, .int .i64 L.c.pl, .int .i64 L.c.n, .slice a1 l1 c1, .slice a2 l2 c2, .int .i64 L.c.wa, .int .i64 L.nu, .int .i64 L.du, .int .i64 L.le, .int .i64 L.nx, .int .i64 L.wt, .int .i64 L.tr]
abbrev lzc : Array Value := #[.slice none 0 0, .bool false, .int .i64 0, .int .i64 0, .int .i64 0, .int .i64 0, .int .i64 0, .int .i64 0, .slice none 0 0, .slice none 0 0, .int .i64 0, .int .i64 0, .int .i64 0, .int .i64 0, .int .i64 0, .int .i64 0, .int .i64 0]
theorem lwr0_17 (v0 v1 v2 v3 v4 v5 v6 v7 v8 v9 v10 v11 v12 v13 v14 v15 v16 x0 x1 x2 x3 x4 x5 x6 x7 x8 x9 x10 x11 x12 x13 x14 x15 x16 : Value) : wrA #[v0, v1, v2, v3, v4, v5, v6, v7, v8, v9, v10, v11, v12, v13, v14, v15, v16] 0 [x0, x1, x2, x3, x4, x5, x6, x7, x8, x9, x10, x11, x12, x13, x14, x15, x16] = #[x0, x1, x2, x3, x4, x5, x6, x7, x8, x9, x10, x11, x12, x13, x14, x15, x16] := by simp [wrA]
def LnR (w : World) (n : Nat) (f : Nat -> Ca) (L : La) (a a1 a2 : Option Addr) (l1 l2 : Nat) : Prop := l1 = L.c.ws.length /\ l2 = L.c.bs.length /\ SlC w a n f /\ SlI w a1 L.c.ws /\ SlB w a2 L.c.bs
def LnP (w : World) (base n : Nat) (f : Nat -> Ca) (L : La) (a : Option Addr) (cp : Nat) (a1 a2 : Option Addr) (l1 l2 c1 c2 : Nat) : Prop :=
 l1 = L.c.ws.length /\ l2 = L.c.bs.length /\ ∃ (F : Nat -> List Value) (β : Nat -> Nat), OwnO w base 96 9 (.slice a n cp) n F /\ InE w base β F (fun k => caE (f k)) n /\ OwnI w base (.slice a1 l1 c1) L.c.ws /\ OwnB w base (.slice a2 l2 c2) L.c.bs /\
  (∀ k, (Value.slice a1 l1 c1).ownBlock = some k -> ∀ j, j < n -> ¬ Ob (F j) k) /\ (∀ k, (Value.slice a2 l2 c2).ownBlock = some k -> ∀ j, j < n -> ¬ Ob (F j) k)
section
variable {w w' : World} {base n cp l1 l2 c1 c2 : Nat} {f : Nat -> Ca} {L : La} {a a1 a2 : Option Addr}
end
def lfL (n : Nat) (f : Nat -> Ca) (l1 l2 : Nat) : Int := if n + tl f n + l1 + l2 <= 1048576 then (((1048576 - (n + tl f n + l1 + l2) : Nat)) : Int) else -1
end Go.Proofs.YtkfgijkkffbpmaaGreat
namespace Go.Proofs.YtkfgijkkffbpmaaGreat
open Go.RowKit Go.Joins
def laN (wt tr : Int) : La := ⟨false, ca0, 0, 0, 0, 0, wt, tr⟩
def nwL (wt tr : Int) : La := if (inB wt 1 100 && inB tr 0 5) = true then laN wt tr else laN 0 0
theorem specLineNew_any (wt tr : Int) (w : World) :
 Calls Tryz.prog 133 #[.int .i64 wt, .int .i64 tr] w fun e w' => e = .returned (.agg (lac (nwL wt tr) none 0 0 none none 0 0 0 0)) /\ Below w.heap.size w w' := by
 obtain ⟨W, hW⟩ : ∃ W, W = w.alloc (.cells lzc 98) := ⟨_, rfl⟩
 have HW : Hid (Below w.heap.size w W /\ Blk W w.heap.size 98 lzc) := ⟨by rw [hW]; exact bel_alloc _ _, by rw [hW]; exact Blk.new _ _ _⟩
 obtain ⟨x0, hx0⟩ : ∃ x, inB wt 1 100 = x := ⟨_, rfl⟩
 obtain ⟨x1, hx1⟩ : ∃ x, inB tr 0 5 = x := ⟨_, rfl⟩
 have HX : Hid (inB wt 1 100 = x0 /\ inB tr 0 5 = x1) := ⟨hx0, hx1⟩
 rw [show nwL wt tr = if (x0 && x1) = true then laN wt tr else laN 0 0 by unfold nwL; rw [hx0, hx1]]
 clear hx0 hx1
 go_enter Tryz.func133, Tryz.ntmps133
 go_upto_region 1 with fail
 rw [<- hW]
 clear hW
 go_wp2_with fail
 refine (l1In_any _ _ _ _ _ HX.out.1).mono ?_
 rintro e w1 ⟨rfl, hw⟩
 have hw := hw.symm
 subst hw
 cases x0
 case false =>
  go_upto_region 2 with fail
  refine wp_region_lit ?_
  refine wpList_build_any rfl 98 #[] rfl #[] (by simp) (.agg lzc) (by kernel_rfl) ?_
  refine wpList_store_mid rfl 98 (.tmp 4) (.tmp 13) rfl w.heap.size 0 lzc rfl rfl (HW.out.2.there 0 17 (by simp)) (by kernel_rfl) (by simp [Value.oneCell']) ?_
  rw [setCells_L]
  refine wpList_nil ?_
  go_wp2
  have HB : Blk (setL W w.heap.size 0 (lacL (laN 0 0) none 0 0 none none 0 0 0 0)) w.heap.size 98 (lac (laN 0 0) none 0 0 none none 0 0 0 0) := by rw [show lac (laN 0 0) none 0 0 none none 0 0 0 0 = wrA lzc 0 (lacL (laN 0 0) none 0 0 none none 0 0 0 0) from (lwr0_17 _ _ _ _ _ _ _ _ _ _ _ _ _ _ _ _ _ _ _ _ _ _ _ _ _ _ _ _ _ _ _ _ _ _).symm]; exact Blk.stL _ _ HW.out.2
  refine bodyPost_ret (v := .agg (lac (laN 0 0) none 0 0 none none 0 0 0 0)) (results_cell Tryz.results133 rfl (run_loadVar_mid _ _ _ 98 (lacL (laN 0 0) none 0 0 none none 0 0 0 0) _ HB.all Tryz.underlying98 rfl (by kernel_rfl))) rfl ⟨?_, setL_below (Nat.le_refl _) _ _ _ HW.out.1⟩
  rfl
 go_wp2_with fail
 refine (l1In_any _ _ _ _ _ HX.out.2).mono ?_
 rintro e w1 ⟨rfl, hw⟩
 have hw := hw.symm
 subst hw
 cases x1
 case false =>
  go_upto_region 2 with fail
  refine wp_region_lit ?_
  refine wpList_build_any rfl 98 #[] rfl #[] (by simp) (.agg lzc) (by kernel_rfl) ?_
  refine wpList_store_mid rfl 98 (.tmp 4) (.tmp 13) rfl w.heap.size 0 lzc rfl rfl (HW.out.2.there 0 17 (by simp)) (by kernel_rfl) (by simp [Value.oneCell']) ?_
  rw [setCells_L]
  refine wpList_nil ?_
  go_wp2
  have HB : Blk (setL W w.heap.size 0 (lacL (laN 0 0) none 0 0 none none 0 0 0 0)) w.heap.size 98 (lac (laN 0 0) none 0 0 none none 0 0 0 0) := by rw [show lac (laN 0 0) none 0 0 none none 0 0 0 0 = wrA lzc 0 (lacL (laN 0 0) none 0 0 none none 0 0 0 0) from (lwr0_17 _ _ _ _ _ _ _ _ _ _ _ _ _ _ _ _ _ _ _ _ _ _ _ _ _ _ _ _ _ _ _ _ _ _).symm]; exact Blk.stL _ _ HW.out.2
  refine bodyPost_ret (v := .agg (lac (laN 0 0) none 0 0 none none 0 0 0 0)) (results_cell Tryz.results133 rfl (run_loadVar_mid _ _ _ 98 (lacL (laN 0 0) none 0 0 none none 0 0 0 0) _ HB.all Tryz.underlying98 rfl (by kernel_rfl))) rfl ⟨?_, setL_below (Nat.le_refl _) _ _ _ HW.out.1⟩
  rfl
 go_upto_region 3 with fail
 refine wp_region_lit ?_
 refine wpList_move_any rfl (.tmp 0) rfl (.int .i64 wt) rfl ?_
 refine wpList_move_any rfl (.tmp 1) rfl (.int .i64 tr) rfl ?_
 refine wpList_build_any rfl 98 #[(7, .tmp 14), (8, .tmp 15)] rfl #[(7, .int .i64 wt), (8, .int .i64 tr)] (by simp only [List.map_toArray, List.map_cons, List.map_nil]; rfl) (.agg (lac (laN wt tr) none 0 0 none none 0 0 0 0)) (by kernel_rfl) ?_
 refine wpList_store_mid rfl 98 (.tmp 4) (.tmp 16) rfl w.heap.size 0 (lac (laN wt tr) none 0 0 none none 0 0 0 0) rfl rfl (HW.out.2.there 0 17 (by simp)) (by kernel_rfl) (by simp [Value.oneCell']) ?_
 rw [setCells_L]
 refine wpList_nil ?_
 go_wp2
 have HB : Blk (setL W w.heap.size 0 (lacL (laN wt tr) none 0 0 none none 0 0 0 0)) w.heap.size 98 (lac (laN wt tr) none 0 0 none none 0 0 0 0) := by rw [show lac (laN wt tr) none 0 0 none none 0 0 0 0 = wrA lzc 0 (lacL (laN wt tr) none 0 0 none none 0 0 0 0) from (lwr0_17 _ _ _ _ _ _ _ _ _ _ _ _ _ _ _ _ _ _ _ _ _ _ _ _ _ _ _ _ _ _ _ _ _ _).symm]; exact Blk.stL _ _ HW.out.2
 refine bodyPost_ret (v := .agg (lac (laN wt tr) none 0 0 none none 0 0 0 0)) (results_cell Tryz.results133 rfl (run_loadVar_mid _ _ _ 98 (lacL (laN wt tr) none 0 0 none none 0 0 0 0) _ HB.all Tryz.underlying98 rfl (by kernel_rfl))) rfl ⟨?_, setL_below (Nat.le_refl _) _ _ _ HW.out.1⟩
 rfl
theorem implLineNew_any (wt tr : Int) (w : World) :
 Calls Tryz.prog 142 #[.int .i64 wt, .int .i64 tr] w fun e w' => e = .returned (.agg (lac (nwL wt tr) none 0 0 none none 0 0 0 0)) /\ Below w.heap.size w w' := by
 obtain ⟨W, hW⟩ : ∃ W, W = w.alloc (.cells lzc 98) := ⟨_, rfl⟩
 have HW : Hid (Below w.heap.size w W /\ Blk W w.heap.size 98 lzc) := ⟨by rw [hW]; exact bel_alloc _ _, by rw [hW]; exact Blk.new _ _ _⟩
 obtain ⟨x0, hx0⟩ : ∃ x, inB wt 1 100 = x := ⟨_, rfl⟩
 obtain ⟨x1, hx1⟩ : ∃ x, inB tr 0 5 = x := ⟨_, rfl⟩
 have HX : Hid (inB wt 1 100 = x0 /\ inB tr 0 5 = x1) := ⟨hx0, hx1⟩
 rw [show nwL wt tr = if (x0 && x1) = true then laN wt tr else laN 0 0 by unfold nwL; rw [hx0, hx1]]
 clear hx0 hx1
 go_enter Tryz.func142, Tryz.ntmps142
 go_upto_region 1 with fail
 rw [<- hW]
 clear hW
 go_wp2_with fail
 refine (isAnsWL _ _ _ HX.out.1).mono ?_
 rintro e w1 ⟨rfl, hw⟩
 have hw := hw.symm
 subst hw
 cases x0
 case false =>
  go_upto_region 2 with fail
  refine wp_region_lit ?_
  refine wpList_build_any rfl 98 #[] rfl #[] (by simp) (.agg lzc) (by kernel_rfl) ?_
  refine wpList_store_mid rfl 98 (.tmp 4) (.tmp 13) rfl w.heap.size 0 lzc rfl rfl (HW.out.2.there 0 17 (by simp)) (by kernel_rfl) (by simp [Value.oneCell']) ?_
  rw [setCells_L]
  refine wpList_nil ?_
  go_wp2
  have HB : Blk (setL W w.heap.size 0 (lacL (laN 0 0) none 0 0 none none 0 0 0 0)) w.heap.size 98 (lac (laN 0 0) none 0 0 none none 0 0 0 0) := by rw [show lac (laN 0 0) none 0 0 none none 0 0 0 0 = wrA lzc 0 (lacL (laN 0 0) none 0 0 none none 0 0 0 0) from (lwr0_17 _ _ _ _ _ _ _ _ _ _ _ _ _ _ _ _ _ _ _ _ _ _ _ _ _ _ _ _ _ _ _ _ _ _).symm]; exact Blk.stL _ _ HW.out.2
  refine bodyPost_ret (v := .agg (lac (laN 0 0) none 0 0 none none 0 0 0 0)) (results_cell Tryz.results142 rfl (run_loadVar_mid _ _ _ 98 (lacL (laN 0 0) none 0 0 none none 0 0 0 0) _ HB.all Tryz.underlying98 rfl (by kernel_rfl))) rfl ⟨?_, setL_below (Nat.le_refl _) _ _ _ HW.out.1⟩
  rfl
 go_wp2_with fail
 refine (isTriesL _ _ _ HX.out.2).mono ?_
 rintro e w1 ⟨rfl, hw⟩
 have hw := hw.symm
 subst hw
 cases x1
 case false =>
  go_upto_region 2 with fail
  refine wp_region_lit ?_
  refine wpList_build_any rfl 98 #[] rfl #[] (by simp) (.agg lzc) (by kernel_rfl) ?_
  refine wpList_store_mid rfl 98 (.tmp 4) (.tmp 13) rfl w.heap.size 0 lzc rfl rfl (HW.out.2.there 0 17 (by simp)) (by kernel_rfl) (by simp [Value.oneCell']) ?_
  rw [setCells_L]
  refine wpList_nil ?_
  go_wp2
  have HB : Blk (setL W w.heap.size 0 (lacL (laN 0 0) none 0 0 none none 0 0 0 0)) w.heap.size 98 (lac (laN 0 0) none 0 0 none none 0 0 0 0) := by rw [show lac (laN 0 0) none 0 0 none none 0 0 0 0 = wrA lzc 0 (lacL (laN 0 0) none 0 0 none none 0 0 0 0) from (lwr0_17 _ _ _ _ _ _ _ _ _ _ _ _ _ _ _ _ _ _ _ _ _ _ _ _ _ _ _ _ _ _ _ _ _ _).symm]; exact Blk.stL _ _ HW.out.2
  refine bodyPost_ret (v := .agg (lac (laN 0 0) none 0 0 none none 0 0 0 0)) (results_cell Tryz.results142 rfl (run_loadVar_mid _ _ _ 98 (lacL (laN 0 0) none 0 0 none none 0 0 0 0) _ HB.all Tryz.underlying98 rfl (by kernel_rfl))) rfl ⟨?_, setL_below (Nat.le_refl _) _ _ _ HW.out.1⟩
  rfl
 go_upto_region 3 with fail
 refine wp_region_lit ?_
 refine wpList_move_any rfl (.tmp 0) rfl (.int .i64 wt) rfl ?_
 refine wpList_move_any rfl (.tmp 1) rfl (.int .i64 tr) rfl ?_
 refine wpList_build_any rfl 98 #[(7, .tmp 14), (8, .tmp 15)] rfl #[(7, .int .i64 wt), (8, .int .i64 tr)] (by simp only [List.map_toArray, List.map_cons, List.map_nil]; rfl) (.agg (lac (laN wt tr) none 0 0 none none 0 0 0 0)) (by kernel_rfl) ?_
 refine wpList_store_mid rfl 98 (.tmp 4) (.tmp 16) rfl w.heap.size 0 (lac (laN wt tr) none 0 0 none none 0 0 0 0) rfl rfl (HW.out.2.there 0 17 (by simp)) (by kernel_rfl) (by simp [Value.oneCell']) ?_
 rw [setCells_L]
 refine wpList_nil ?_
 go_wp2
 have HB : Blk (setL W w.heap.size 0 (lacL (laN wt tr) none 0 0 none none 0 0 0 0)) w.heap.size 98 (lac (laN wt tr) none 0 0 none none 0 0 0 0) := by rw [show lac (laN wt tr) none 0 0 none none 0 0 0 0 = wrA lzc 0 (lacL (laN wt tr) none 0 0 none none 0 0 0 0) from (lwr0_17 _ _ _ _ _ _ _ _ _ _ _ _ _ _ _ _ _ _ _ _ _ _ _ _ _ _ _ _ _ _ _ _ _ _).symm]; exact Blk.stL _ _ HW.out.2
 refine bodyPost_ret (v := .agg (lac (laN wt tr) none 0 0 none none 0 0 0 0)) (results_cell Tryz.results142 rfl (run_loadVar_mid _ _ _ 98 (lacL (laN wt tr) none 0 0 none none 0 0 0 0) _ HB.all Tryz.underlying98 rfl (by kernel_rfl))) rfl ⟨?_, setL_below (Nat.le_refl _) _ _ _ HW.out.1⟩
 rfl
end Go.Proofs.YtkfgijkkffbpmaaGreat
namespace Go.Proofs.YtkfgijkkffbpmaaGreat
open Go.RowKit
def updS (σ : Nat -> Value) (od : Option Nat) (v : Value) : Nat -> Value := match od with
 | some d => fun s => if s = d then v else σ s
 | none => σ
def StpY (P : Program) (ops : Array Oper) (Φ : Nat -> Value -> World -> Prop) (R : Value -> World -> Prop) (M : World -> World -> Prop) (i : Nat) (o : Oper) (ρ : Operand -> Value) (u : World) : Prop :=
 (wantV ops o ρ = true /\ ((∃ v u', (execOp ρ o).run P u = .ok (.value v) u' /\ Φ i v u' /\ R v u' /\ M u u') \/ (∃ f args, (execOp ρ o).run P u = .ok (.enter f args) u /\ Calls P f args u fun e u' => ∃ v, e = .returned v /\ Φ i v u' /\ R v u' /\ M u u') \/ (o.dst = none /\ ∃ u', (execOp ρ o).run P u = .ok .skip u' /\ R undef u' /\ M u u')))
 \/ (wantV ops o ρ = false /\ Φ i undef u /\ R undef u)
structure InvY (md : Region.Mode) (ops : Array Oper) (Φ : Nat -> Value -> World -> Prop) (R : (Nat -> Bool) -> (Nat -> Value) -> World -> Prop) (a0 : Act) (l : Array Bool) (a : Act) (u : World) : Prop where
 r : R (fun i => l.getD i false) (fun s => a.tmps.getD s undef) u
 ls : l.size = ops.size
 df : a.defers = a0.defers
 sz : a.tmps.size = a0.tmps.size
 old : ∀ s, (∀ i d, dstOf ops i = some d -> l.getD i false = true -> d ≠ s) -> a.tmps.getD s undef = a0.tmps.getD s undef
 val : ∀ i d, dstOf ops i = some d -> l.getD i false = true -> Φ i (a.tmps.getD d undef) u
 cl : ∀ i o, ops[i]? = some o -> l.getD i false = true -> ∀ e ∈ o.after, Region.binds md e = true -> l.getD e.on false = true
theorem InvY.next {md : Region.Mode} {ops : Array Oper} {Φ : Nat -> Value -> World -> Prop} {R : (Nat -> Bool) -> (Nat -> Value) -> World -> Prop} {M : World -> World -> Prop} {a0 : Act} {l : Array Bool} {a : Act} {u u' : World} (h : InvY md ops Φ R a0 l a u) (hB : dstC ops a0.tmps.size = true)
 (hmono : ∀ i v u u', Φ i v u -> M u u' -> Φ i v u') {i : Nat} {o : Oper} (ho : ops[i]? = some o) (hdep : ∀ e ∈ o.after, Region.binds md e = true -> l.getD e.on false = true) {v : Value} (hv : ∀ d, o.dst = some d -> Φ i v u') (hr : R (updB (fun j => l.getD j false) i) (updS (fun s => a.tmps.getD s undef) o.dst v) u') (hb : M u u') :
 InvY md ops Φ R a0 (l.setIfInBounds i true) (a.put o.dst v) u' := by
 have hi : i < ops.size := (Array.getElem?_eq_some_iff.1 ho).1
 have hil : i < l.size := by rw [h.ls]; exact hi
 have hcl : ∀ j oj, ops[j]? = some oj -> (l.setIfInBounds i true).getD j false = true -> ∀ e ∈ oj.after, Region.binds md e = true -> (l.setIfInBounds i true).getD e.on false = true := by
  intro j oj hoj hlj e he hbd
  rw [getD_set hil]
  split
  ·rfl
  rw [getD_set hil] at hlj
  by_cases e1 : j = i
  ·subst e1
   rw [ho] at hoj
   cases hoj
   exact hdep e he hbd
  rw [if_neg e1] at hlj
  exact h.cl j oj hoj hlj e he hbd
 rw [<- getD_upd hil] at hr
 cases hod : o.dst with
 | none =>
  have hd : dstOf ops i = none := by simp [dstOf, ho, hod]
  rw [hod] at hr
  refine ⟨hr, by simpa using h.ls, h.df, h.sz, fun s hs => ?_, fun j e hj hl => ?_, hcl⟩
  ·exact h.old s (fun j e hj hl => hs j e hj (by rw [getD_set hil]; split; rfl; exact hl))
  have e2 : j ≠ i := fun e2 => by subst e2; rw [hd] at hj; cases hj
  rw [getD_set hil, if_neg e2] at hl
  exact hmono _ _ _ _ (h.val j e hj hl) hb
 | some d =>
  have hd : dstOf ops i = some d := by simp [dstOf, ho, hod]
  obtain ⟨hlt, hun⟩ := dstC_of hB hi hd
  have hlt' : d < a.tmps.size := by rw [h.sz]; exact hlt
  rw [hod] at hr
  have hr' : R (fun j => (l.setIfInBounds i true).getD j false) (fun s => (a.put (some d) v).tmps.getD s undef) u' := by
   have e9 : (fun s => (a.put (some d) v).tmps.getD s undef) = updS (fun s => a.tmps.getD s undef) (some d) v := by funext s; exact getD_put hlt'
   rw [e9]; exact hr
  refine ⟨hr', by simpa using h.ls, h.df, by simpa [Act.put] using h.sz, fun s hs => ?_, fun j e hj hl => ?_, hcl⟩
  ·have hne : d ≠ s := hs i d hd (by rw [getD_set hil, if_pos rfl])
   rw [getD_put hlt', if_neg (Ne.symm hne)]
   exact h.old s (fun j e hj hl => hs j e hj (by rw [getD_set hil]; split; rfl; exact hl))
  rw [getD_put hlt']
  by_cases e1 : e = d
  ·subst e1
   obtain rfl := hun j (dstOf_lt hj) hj
   rw [if_pos rfl]
   exact hv _ hod
  rw [if_neg e1]
  have e2 : j ≠ i := fun e2 => by subst e2; rw [hd] at hj; exact e1 (Option.some.inj hj).symm
  rw [getD_set hil, if_neg e2] at hl
  exact hmono _ _ _ _ (h.val j e hj hl) hb
theorem wpAny_valy {P : Program} {ops : Array Oper} {Q : Exit -> Act -> World -> Prop} {md : Region.Mode} {a0 : Act} {w0 : World} (R : (Nat -> Bool) -> (Nat -> Value) -> World -> Prop) (M : World -> World -> Prop) (Φ : Nat -> Value -> World -> Prop)
 (hordB : ordB md ops = true) (hB : dstC ops a0.tmps.size = true) (hmono : ∀ i v u u', Φ i v u -> M u u' -> Φ i v u') (hM : ∀ u, M u u) (h0 : R (fun _ => false) (fun s => a0.tmps.getD s undef) w0)
 (hend : ∀ (vs : Nat -> Value) (σ : Nat -> Value) u, R (fun i => decide (i < ops.size)) σ u -> (∀ i d, dstOf ops i = some d -> vs i = σ d) -> (∀ i d, dstOf ops i = some d -> Φ i (vs i) u) -> Q .normal (putsL a0 0 ops.toList vs) u)
 (hstep : ∀ u i o (ρ : Operand -> Value) (l : Nat -> Bool), R l (fun s => ρ (.tmp s)) u -> ops[i]? = some o -> l i = false -> (∀ j oj, ops[j]? = some oj -> l j = true -> ∀ e ∈ oj.after, Region.binds md e = true -> l e.on = true) ->
  (∀ s, isDst ops s = false -> ρ (.tmp s) = a0.eval (.tmp s)) -> (∀ v, ρ (.const v) = v) -> (∀ f, ρ (.func f) = .func (.func f) #[] #[]) ->
  (∀ e ∈ o.after, Region.binds md e = true -> l e.on = true) -> (∀ j d, dstOf ops j = some d -> l j = true -> Φ j (ρ (.tmp d)) u) -> StpY P ops Φ (fun v u' => R (updB l i) (updS (fun s => ρ (.tmp s)) o.dst v) u') M i o ρ u)
 (fuel : Nat) (l : Array Bool) (hs : l.size = ops.size) (hc : l.toList.count false <= fuel) (hl : ∀ i, l.getD i false = false) : wpAny P md ops Q fuel l a0 w0 := by
 refine wpAny_inv (InvY md ops Φ R a0) hordB ?_ ?_ fuel l a0 w0 hs hc ?_
 ·intro l a u h hall
  have hall' : ∀ i, i < ops.size -> l.getD i false = true := fun i hi => by rw [getD_eq (by rw [h.ls]; exact hi) false true]; exact hall i hi
  have e : putsL a0 0 ops.toList (fun i => a.tmps.getD ((dstOf ops i).getD 0) undef) = a := by
   refine putsL_eqW ops.toList 0 a0 _ h.df.symm h.sz.symm (fun j o d ho hd => ?_) (fun s => ?_) (fun j o d ho hd => ?_)
   ·rw [Nat.zero_add]
    have : dstOf ops j = some d := by rw [Array.getElem?_toList] at ho; simp [dstOf, ho, hd]
    show a.tmps.getD ((dstOf ops j).getD 0) undef = _
    rw [this]; rfl
   ·by_cases hx : ∃ j d, dstOf ops j = some d /\ l.getD j false = true /\ d = s
    ·obtain ⟨j, d, hd, _, rfl⟩ := hx
     right
     unfold dstOf at hd
     cases ho : ops[j]? with
     | none => rw [ho] at hd; cases hd
     | some o => rw [ho] at hd; exact ⟨j, o, by rw [Array.getElem?_toList]; exact ho, hd⟩
    left
    exact (h.old s (fun i d hd hl e => hx ⟨i, d, hd, hl, e⟩)).symm
   rw [Array.getElem?_toList] at ho
   have hi : j < ops.size := (Array.getElem?_eq_some_iff.1 ho).1
   have hd' : dstOf ops j = some d := by simp [dstOf, ho, hd]
   rw [h.sz]
   exact (dstC_of hB hi hd').1
  rw [<- e]
  refine hend _ (fun s => a.tmps.getD s undef) u ?_ (fun i d hd => by show a.tmps.getD ((dstOf ops i).getD 0) undef = _; rw [hd]; rfl) (fun i d hd => ?_)
  ·have e2 : (fun i => l.getD i false) = (fun i => decide (i < ops.size)) := by
    funext i
    by_cases hi : i < ops.size
    ·rw [hall' i hi]; simp [hi]
    have : ¬ i < l.size := by rw [h.ls]; exact hi
    simp [Array.getD, hi, this]
   rw [<- e2]
   exact h.r
  show Φ i (a.tmps.getD ((dstOf ops i).getD 0) undef) u
  rw [hd]
  exact h.val i d hd (hall' i (dstOf_lt hd))
 ·intro l a u i o h ho hli hdep K hK
  have hi : i < ops.size := (Array.getElem?_eq_some_iff.1 ho).1
  have hw : Region.wanted o (yielded ops a.tmps) = wantV ops o a.eval := wanted_eq (fun j d hj => by
   rw [h.sz]; exact (dstC_of hB (dstOf_lt hj) hj).1)
  have hst := hstep u i o a.eval (fun j => l.getD j false) h.r ho (by show l.getD i false = false; rw [getD_eq (by rw [h.ls]; exact hi) false true]; exact hli) (fun j oj hoj hlj e he hb => h.cl j oj hoj hlj e he hb) (fun s hns => by
   refine h.old s (fun j d hj _ e => ?_)
   subst e
   have : isDst ops d = true := by
    unfold isDst
    rw [List.any_eq_true]
    exact ⟨j, List.mem_range.2 (dstOf_lt hj), by simp [hj]⟩
   rw [this] at hns; cases hns) (fun _ => rfl) (fun _ => rfl) hdep (fun j d hd hlj => h.val j d hd hlj)
  rcases hst with ⟨hwt, ⟨v, u', hrun, hv, hr, hbl⟩ | ⟨f, args, hrun, hcall⟩ | ⟨hno, u', hrun, hr, hbl⟩⟩ | ⟨hwf, hv, hr⟩
  ·rw [if_pos (by rw [hw]; exact hwt)]
   unfold Oper.wp
   rw [hrun]
   exact hK _ _ (h.next hB hmono ho hdep (fun _ _ => hv) hr hbl)
  ·rw [if_pos (by rw [hw]; exact hwt)]
   unfold Oper.wp
   rw [hrun, Oper.upon_enter]
   refine hcall.mono ?_
   rintro e u' ⟨v, rfl, hv, hr, hbl⟩
   exact hK _ _ (h.next hB hmono ho hdep (fun _ _ => hv) hr hbl)
  ·rw [if_pos (by rw [hw]; exact hwt)]
   unfold Oper.wp
   rw [hrun, Oper.upon_skip]
   exact hK _ _ (h.next hB hmono ho hdep (fun d hd => by rw [hno] at hd; cases hd) hr hbl)
  rw [if_neg (by rw [hw, hwf]; decide)]
  exact hK _ _ (h.next hB hmono ho hdep (fun _ _ => hv) hr (hM u))
 refine ⟨?_, hs, rfl, rfl, fun _ _ => rfl, fun i d _ hl' => (by rw [hl i] at hl'; cases hl'), fun i o _ hl' => (by rw [hl i] at hl'; cases hl')⟩
 rw [show (fun i => l.getD i false) = (fun _ => false) from funext hl]
 exact h0
end Go.Proofs.YtkfgijkkffbpmaaGreat
namespace Go.Proofs.YtkfgijkkffbpmaaGreat
open Go.RowKit Go.Joins
theorem run_bldz {P : Program} {ρ : Operand -> Value} {o : Oper} {u u' : World} {t : TypeId} {ps : Array (Nat × Operand)} {qs : Array (Nat × Value)} {v : Value} (ho : o.op = .build t ps) (ha : ps.map (fun (i, x) => (i, ρ x)) = qs) (hr : (Instr.build t qs).run P u = .ok v u') : (execOp ρ o).run P u = .ok (.value v) u' := by
 unfold execOp
 simp only [ho, ha]
 rw [Sem.run_bind, hr]
 rfl
theorem rangeAt_below {w u : World} {g o : Nat} {cs : List Value} (h : w.rangeAt g o cs) (hg : g < w.heap.size) (hb : Below w.heap.size w u) : u.rangeAt g o cs := fun j v hv => (hb.cell (p := ⟨g, o + j, none⟩) hg).trans (h j v hv)
theorem rangeAt_mid {w : World} {g o : Nat} {cs : List Value} (pre l post : List Value) (h : w.rangeAt g o cs) (he : cs = pre ++ (l ++ post)) : w.rangeAt g (o + pre.length) l := fun j v hv => by
 rw [Nat.add_assoc]
 refine h (pre.length + j) v ?_
 rw [he, List.getElem?_append_right (by omega), Nat.add_sub_cancel_left, List.getElem?_append_left (List.getElem?_eq_some_iff.1 hv).1]
 exact hv
theorem Blk.rng {w : World} {g : Nat} {t : TypeId} {l : List Value} (h : Blk w g t l.toArray) : w.rangeAt g 0 l := fun j v hv => by
 rw [Nat.zero_add]
 exact h.cell j (by simpa using hv)
end Go.Proofs.YtkfgijkkffbpmaaGreat
namespace Go.Proofs.YtkfgijkkffbpmaaGreat
open Go.RowKit
def StpB (P : Program) (ops : Array Oper) (Φ : Nat -> Value -> World -> Prop) (i : Nat) (o : Oper) (ρ : Operand -> Value) (u : World) : Prop :=
 (wantV ops o ρ = true /\ ((∃ v u', (execOp ρ o).run P u = .ok (.value v) u' /\ Φ i v u' /\ Below u.heap.size u u') \/ (∃ f args, (execOp ρ o).run P u = .ok (.enter f args) u /\ Calls P f args u fun e u' => ∃ v, e = .returned v /\ Φ i v u' /\ Below u.heap.size u u')))
 \/ (wantV ops o ρ = false /\ Φ i undef u)
def lastB (md : Region.Mode) (ops : Array Oper) (N : Nat) : Bool :=
 match ops[N]? with
 | some o => o.dst.isNone && (List.range N).all (fun i => (dstOf ops i).isSome && o.after.toList.any (fun e => e.on == i && Region.binds md e))
 | none => false
theorem wpAny_st {P : Program} {ops : Array Oper} {Q : Exit -> Act -> World -> Prop} {md : Region.Mode} {a0 : Act} {w0 : World} (N : Nat) (Rb : World -> Prop) (E : (Nat -> Value) -> World -> Prop) (Φ : Nat -> Value -> World -> Prop)
 (hordB : ordB md ops = true) (hB : dstC ops a0.tmps.size = true) (hN : ops.size = N + 1) (hL : lastB md ops N = true)
 (hRb : ∀ u u', Rb u -> Below u.heap.size u u' -> Rb u') (hmono : ∀ i v u u', Φ i v u -> Below u.heap.size u u' -> Φ i v u') (h0 : Rb w0)
 (hend : ∀ (vs : Nat -> Value) (σ : Nat -> Value) u, E σ u -> (∀ i d, dstOf ops i = some d -> vs i = σ d) -> Q .normal (putsL a0 0 ops.toList vs) u)
 (hstep : ∀ u i o (ρ : Operand -> Value), i < N -> Rb u -> ops[i]? = some o -> (∀ s, isDst ops s = false -> ρ (.tmp s) = a0.eval (.tmp s)) -> (∀ v, ρ (.const v) = v) -> (∀ f, ρ (.func f) = .func (.func f) #[] #[]) ->
  (∀ e ∈ o.after, Region.binds md e = true -> ∀ d, dstOf ops e.on = some d -> Φ e.on (ρ (.tmp d)) u) -> StpB P ops Φ i o ρ u)
 (hlast : ∀ u o (ρ : Operand -> Value), Rb u -> ops[N]? = some o -> (∀ s, isDst ops s = false -> ρ (.tmp s) = a0.eval (.tmp s)) -> (∀ v, ρ (.const v) = v) ->
  (∀ j d, j < N -> dstOf ops j = some d -> Φ j (ρ (.tmp d)) u) -> wantV ops o ρ = true /\ ∃ u', (execOp ρ o).run P u = .ok .skip u' /\ E (fun s => ρ (.tmp s)) u')
 (fuel : Nat) (l : Array Bool) (hs : l.size = ops.size) (hc : l.toList.count false <= fuel) (hl : ∀ i, l.getD i false = false) : wpAny P md ops Q fuel l a0 w0 := by
 obtain ⟨oN, hoN, hdN, hall⟩ : ∃ o, ops[N]? = some o /\ o.dst = none /\ ∀ i, i < N -> (dstOf ops i).isSome = true /\ ∃ e ∈ o.after, e.on = i /\ Region.binds md e = true := by
  unfold lastB at hL
  split at hL
  ·rename_i o ho
   simp only [Bool.and_eq_true, List.all_eq_true, List.mem_range] at hL
   refine ⟨o, ho, by simpa using hL.1, fun i hi => ?_⟩
   obtain ⟨q1, q2⟩ := hL.2 i hi
   rw [List.any_eq_true] at q2
   obtain ⟨e, he, q3⟩ := q2
   simp only [Bool.and_eq_true, beq_iff_eq] at q3
   exact ⟨q1, e, Array.mem_toList_iff.1 he, q3.1, q3.2⟩
  cases hL
 refine wpAny_valy (fun l σ u => (l N = true -> E σ u) /\ (l N = false -> Rb u /\ ∀ j d, dstOf ops j = some d -> l j = true -> Φ j (σ d) u)) (fun _ _ => True) (fun _ _ _ => True) hordB hB (fun _ _ _ _ h _ => h) (fun _ => trivial) ⟨fun h => (by cases h), fun _ => ⟨h0, fun _ _ _ h => (by cases h)⟩⟩ (fun vs σ u hR hvs _ => hend vs σ u (hR.1 (by simp [hN])) hvs) ?_ fuel l hs hc hl
 intro u i o ρ l hR ho hli hcl hρ hcn hf hdep hv
 have hi : i < N + 1 := by rw [<- hN]; exact (Array.getElem?_eq_some_iff.1 ho).1
 by_cases e : i = N
 ·subst e
  rw [hoN] at ho
  cases ho
  obtain ⟨hb, hΦ⟩ := hR.2 hli
  obtain ⟨hw, u', hrun, hE⟩ := hlast u oN ρ hb hoN hρ hcn (fun j d hj hd => by
   obtain ⟨_, e, he, q1, q2⟩ := hall j hj
   exact hΦ j d hd (by rw [<- q1]; exact hdep e he q2))
  refine .inl ⟨hw, .inr (.inr ⟨hdN, u', hrun, ⟨fun _ => ?_, fun h => ?_⟩, trivial⟩)⟩
  ·rw [hdN]; exact hE
  have : updB l i i = true := by unfold updB; rw [if_pos rfl]
  rw [this] at h; cases h
 have hiN : i < N := by omega
 have hlN : l N = false := by
  cases h9 : l N with
  | false => rfl
  | true =>
   obtain ⟨_, e9, he, q1, q2⟩ := hall i hiN
   have := hcl N oN hoN h9 e9 he q2
   rw [q1, hli] at this
   cases this
 obtain ⟨hb, hΦ⟩ := hR.2 hlN
 have hup : updB l i N = false := by unfold updB; rw [if_neg (fun q => e q.symm)]; exact hlN
 obtain ⟨d, hd⟩ := Option.isSome_iff_exists.1 (hall i hiN).1
 have hod : o.dst = some d := by simpa [dstOf, ho] using hd
 have key : ∀ v u', Φ i v u' -> Below u.heap.size u u' -> (updB l i N = true -> E (updS (fun s => ρ (.tmp s)) o.dst v) u') /\ (updB l i N = false -> Rb u' /\ ∀ j d, dstOf ops j = some d -> updB l i j = true -> Φ j (updS (fun s => ρ (.tmp s)) o.dst v d) u') := by
  intro v u' h1 h2
  refine ⟨fun h => (by rw [hup] at h; cases h), fun _ => ⟨hRb u u' hb h2, fun j d' hj hl' => ?_⟩⟩
  by_cases ej : j = i
  ·subst ej
   rw [hd] at hj
   cases hj
   rw [hod]
   show Φ j (if d = d then v else _) u'
   rw [if_pos rfl]
   exact h1
  have hlj : l j = true := by unfold updB at hl'; rw [if_neg ej] at hl'; exact hl'
  have hne : d' ≠ d := fun q => ej ((dstC_of hB (show i < ops.size by omega) hd).2 j (dstOf_lt hj) (by rw [<- q]; exact hj))
  rw [hod]
  show Φ j (if d' = d then v else ρ (.tmp d')) u'
  rw [if_neg hne]
  exact hmono _ _ _ _ (hΦ j d' hj hlj) h2
 rcases hstep u i o ρ hiN hb ho hρ hcn hf (fun e9 he hbd d9 hd9 => hΦ e9.on d9 hd9 (hdep e9 he hbd)) with ⟨hw, h9⟩ | ⟨hw, h9⟩
 ·refine .inl ⟨hw, ?_⟩
  rcases h9 with ⟨v, u', hr, h1, h2⟩ | ⟨f, args, hr, hcall⟩
  ·exact .inl ⟨v, u', hr, trivial, key v u' h1 h2, trivial⟩
  refine .inr (.inl ⟨f, args, hr, hcall.mono ?_⟩)
  rintro e9 u' ⟨v, he, h1, h2⟩
  exact ⟨v, he, trivial, key v u' h1 h2, trivial⟩
 exact .inr ⟨hw, trivial, key undef u h9 (Below.refl _ _)⟩
end Go.Proofs.YtkfgijkkffbpmaaGreat
namespace Go.Proofs.YtkfgijkkffbpmaaGreat
open Go.RowKit Go.Joins
abbrev fbL (wt tr : Int) (a : Option Addr) (n c : Nat) (h : Option Addr) (m d : Nat) : List Value := [.int .i64 0, .int .i64 wt, .int .i64 tr, .slice a n c, .int .i64 0, .slice none 0 0, .slice h m d, .int .i64 0, .int .i64 0, .int .i64 0, .int .i64 0]
abbrev fbc (wt tr : Int) (a : Option Addr) (n c : Nat) (h : Option Addr) (m d : Nat) : Array Value := #[.int .i64 0, .int .i64 wt, .int .i64 tr, .slice a n c, .int .i64 0, .slice none 0 0, .slice h m d, .int .i64 0, .int .i64 0, .int .i64 0, .int .i64 0]
abbrev fz : Array Value := fbc 0 0 none 0 0 none 0 0
abbrev lnL (wt tr : Int) : List Value := lacL (laN wt tr) none 0 0 none none 0 0 0 0
theorem Tryz.infoF41 : (Tryz.prog.info? 41).map (fun i => (i.zero, i.size, i.bytes)) = some (some (.agg fz), 11, 136) := by kernel_rfl
theorem Tryz.infoL98 : (Tryz.prog.info? 98).map (fun i => (i.zero, i.size, i.bytes)) = some (some (.agg lzc), 17, 184) := by kernel_rfl
theorem run_alloc_x {P : Program} {ρ : Operand -> Value} {o : Oper} {w : World} (ty : TypeId) (ho : o.op = .alloc ty) (cs : Array Value) (n b : Nat) (hi : (P.info? ty).map (fun i => (i.zero, i.size, i.bytes)) = some (some (.agg cs), n, b)) : (execOp ρ o).run P w = .ok (.value (.pointer (some ⟨w.heap.size, 0, none⟩))) (w.alloc (.cells cs ty)) := by
 have hz : (zeroValue ty).run P w = .ok (.agg cs) w := by
  cases hq : P.info? ty with
  | none => simp [hq] at hi
  | some i => simp [hq] at hi; simp [zeroValue, typeInfo, hq, hi.1]
 unfold execOp
 simp only [ho]
 rw [Sem.run_bind]
 have h9 : (Instr.alloc ty true (.tuple #[])).run P w = .ok (.pointer (some ⟨w.heap.size, 0, none⟩)) (w.alloc (.cells cs ty)) := by
  unfold Instr.alloc
  rw [Sem.run_bind, hz]
  rfl
 rw [h9]
 rfl
theorem run_mk_x {P : Program} {ρ : Operand -> Value} {o : Oper} {u u' : World} {t : TypeId} {a b : Operand} {va vb v : Value} (ho : o.op = .makeSlice t a b) (ha : ρ a = va) (hb : ρ b = vb) (hr : (Instr.makeSlice t va vb).run P u = .ok v u') : (execOp ρ o).run P u = .ok (.value v) u' := by
 unfold execOp
 simp only [ho, ha, hb]
 rw [Sem.run_bind, hr]
 rfl
theorem RowS.ne {w : World} {g b : Nat} {t t' : TypeId} {s n : Nat} {F : Nat -> List Value} {cs : Array Value} (h : RowS w g t s n F) (hb : Blk w b t' cs) (ht : t ≠ t') : b ≠ g := by
 rintro rfl
 obtain ⟨c9, q, _⟩ := h
 unfold Blk at hb
 rw [hb] at q
 simp at q
 exact ht q.2.symm
theorem rowS_ne {w : World} {g b : Nat} {t t' : TypeId} {s n s' n' : Nat} {F F' : Nat -> List Value} (h : RowS w g t s n F) (hb : RowS w b t' s' n' F') (ht : t ≠ t') : g ≠ b := by
 rintro rfl
 obtain ⟨c9, q, _⟩ := h
 obtain ⟨c8, q8, _⟩ := hb
 rw [q8] at q
 simp at q
 exact ht q.2.symm
theorem run_move_op {P : Program} {ρ : Operand -> Value} {o : Oper} {u : World} {x : Operand} {v : Value} (ho : o.op = .move x) (hx : ρ x = v) : (execOp ρ o).run P u = .ok (.value v) u := by
 unfold execOp
 simp only [ho, hx]
 rfl
theorem RowS.stF {w : World} {g b o : Nat} {t t' : TypeId} {s n : Nat} {F : Nat -> List Value} {cs : Array Value} {vs : List Value} (h : RowS w g t s n F) (hb : Blk w b t' cs) (ht : t ≠ t') : RowS (setL w b o vs) g t s n F :=
 h.kept (setL_gw vs w o) (fun e => h.ne hb ht (Option.some.inj e))
theorem wrF (wt tr : Int) (a : Option Addr) (n c : Nat) (h : Option Addr) (m d : Nat) (wt' tr' : Int) (a' : Option Addr) (n' c' : Nat) (h' : Option Addr) (m' d' : Nat) : wrA (fbc wt' tr' a' n' c' h' m' d') 0 (fbL wt tr a n c h m d) = fbc wt tr a n c h m d := by simp [wrA]
theorem copyConfig_any (wt tr : Int) (a : Option Addr) (n cap : Nat) (f : Nat -> Ru) (w : World) (hs : SlU w a n f) (hl : n <= 2000000) :
 Calls Tryz.prog 118 #[.agg (cfc wt tr a n cap)] w fun e w' => ∃ g, e = .returned (.agg (cfc wt tr (some ⟨g, 0, none⟩) n n)) /\ RowU w' g n f /\ w.heap.size <= g /\ Below w.heap.size w w' := by
 obtain ⟨W, hW⟩ : ∃ W, W = (w.alloc (.cells (cfc wt tr a n cap) 35)).alloc (.cells (cfc 0 0 none 0 0) 35) := ⟨_, rfl⟩
 have hz : W.heap.size = w.heap.size + 1 + 1 := by rw [hW]; simp
 have bW : Below w.heap.size w W := by rw [hW]; exact bel_next (bel_alloc w _) (bel_alloc _ _)
 have A0 : Blk W w.heap.size 35 (cfc wt tr a n cap) := by rw [hW]; exact (Blk.new w _ _).below (bel_alloc _ _)
 have R0 : Blk W (w.heap.size + 1) 35 (cfc 0 0 none 0 0) := by
  rw [hW]; have := Blk.new (w.alloc (.cells (cfc wt tr a n cap) 35)) (cfc 0 0 none 0 0) 35; simpa using this
 have HS : Hid (SlU W a n f) := SlS.below hs bW
 have H0 : Hid (Blk W w.heap.size 35 (cfc wt tr a n cap) /\ Blk W (w.heap.size + 1) 35 (cfc 0 0 none 0 0) /\ Below w.heap.size w W /\ W.heap.size = w.heap.size + 1 + 1) := ⟨A0, R0, bW, hz⟩
 obtain ⟨⟨y0, y1, y2⟩, _⟩ := A0.thr
 clear hs bW A0 R0 hz
 go_enter Tryz.func118, Tryz.ntmps118
 go_upto_region 1 with fail
 rw [<- hW]
 clear hW
 go_wp2_with fail
 refine (copyOfU a n cap f _ HS.out hl).mono ?_
 rintro e w1 ⟨rfl, R1, b1⟩
 obtain ⟨g, hg⟩ : ∃ g, g = W.heap.size := ⟨_, rfl⟩
 rw [<- hg] at R1 ⊢
 clear y0 y1 y2
 obtain ⟨⟨x0, x1, x2⟩, ⟨f0, f1, f2⟩⟩ := (H0.out.1.below b1).thr
 obtain ⟨⟨z0, z1, z2⟩, ⟨e0, e1, e2⟩⟩ := (H0.out.2.1.below b1).thr
 have H1 : Hid (RowU w1 g n f /\ Below w.heap.size w w1 /\ w.heap.size + 1 + 1 = g) := ⟨R1, bel_next H0.out.2.2.1 b1, by rw [hg]; exact H0.out.2.2.2.symm⟩
 clear R1 b1 hg H0 HS
 go_wp2
 refine bodyPost_ret (v := .agg (cfc wt tr (some ⟨g, 0, none⟩) n n)) (by simp [results, Tryz.results118, go_sem, z0, z1, z2]) rfl ⟨g, rfl, ?_, ?_, ?_⟩
 ·have := H1.out.2.2
  exact (((H1.out.1.setc (by omega)).setc (by omega)).setc (by omega)).setc (by omega)
 ·have := H1.out.2.2; omega
 exact (((H1.out.2.1.setCell (p := ⟨w.heap.size, 2, none⟩) (by show w.heap.size <= w.heap.size; omega) _).setCell (p := ⟨w.heap.size + 1, 0, none⟩) (by show w.heap.size <= w.heap.size + 1; omega) _).setCell (p := ⟨w.heap.size + 1, 1, none⟩) (by show w.heap.size <= w.heap.size + 1; omega) _).setCell (p := ⟨w.heap.size + 1, 2, none⟩) (by show w.heap.size <= w.heap.size + 1; omega) _
def FbQ (w w' : World) (e : Ending) (ok : Bool) (wt tr : Int) (n : Nat) (f : Nat -> Ru) : Prop :=
 Below w.heap.size w w' /\ ((ok = false /\ e = .returned (.agg fz)) \/ (ok = true /\ ∃ g h, e = .returned (.agg (fbc wt tr (some ⟨g, 0, none⟩) n n (some ⟨h, 0, none⟩) 6 6)) /\ RowU w' g n f /\ RowS w' h 98 17 6 (fun _ => lnL wt tr) /\ w.heap.size <= g /\ w.heap.size <= h))
theorem okC_nw {wt tr : Int} {b : Bool} (h : okC wt tr b = true) : nwL wt tr = laN wt tr := by
 unfold okC at h
 simp only [Bool.and_eq_true] at h
 unfold nwL
 rw [if_pos (by simp [h.1.1, h.1.2])]
theorem implFabricNew_any (wt tr : Int) (a : Option Addr) (n cap : Nat) (f : Nat -> Ru) (w : World) (hs : SlU w a n f) (hl : n <= 2000000) (h64 : ∀ k, k < n -> -9223372036854775808 <= (f k).sh /\ (f k).sh <= 9223372036854775807) (b : Bool) (hb : b = true ↔ OkRs f n) :
 Calls Tryz.prog 75 #[.agg (cfc wt tr a n cap)] w fun e w' => FbQ w w' e (okC wt tr b) wt tr n f := by
 obtain ⟨ok, hok⟩ : ∃ ok, ok = okC wt tr b := ⟨_, rfl⟩
 obtain ⟨B, hB⟩ : ∃ B, B = w.heap.size := ⟨_, rfl⟩
 obtain ⟨W, hW⟩ : ∃ W, W = (w.alloc (.cells (cfc wt tr a n cap) 35)).alloc (.cells fz 41) := ⟨_, rfl⟩
 have bW : Below w.heap.size w W := by rw [hW]; exact bel_next (bel_alloc w _) (bel_alloc _ _)
 have A0 : Blk W B 35 (cfc wt tr a n cap) := by rw [hW, hB]; exact (Blk.new w _ _).below (bel_alloc _ _)
 have R0 : Blk W (B + 1) 41 fz := by
  rw [hW, hB]; have := Blk.new (w.alloc (.cells (cfc wt tr a n cap) 35)) fz 41; simpa using this
 have H0 : Hid (SlU w a n f /\ Below w.heap.size w W /\ Blk W B 35 (cfc wt tr a n cap) /\ Blk W (B + 1) 41 fz /\ w.heap.size = B /\ ok = okC wt tr b /\ (∀ k, k < n -> -9223372036854775808 <= (f k).sh /\ (f k).sh <= 9223372036854775807) /\ (b = true ↔ OkRs f n)) := ⟨hs, bW, A0, R0, hB.symm, hok, h64, hb⟩
 rw [<- hok]
 obtain ⟨⟨y0, y1, y2⟩, _⟩ := A0.thr
 clear hs bW A0 R0 h64 hb hok
 go_enter Tryz.func75, Tryz.ntmps75
 go_upto_region 1 with fail
 have hB1 : w.heap.size + 1 = B + 1 := by omega
 rw [<- hW, hB1, <- hB]
 clear hW hB hB1
 go_wp2_with fail
 refine (implConfigOk_any wt tr a n cap f _ (SlS.below H0.out.1 H0.out.2.1) hl H0.out.2.2.2.2.2.2.1 b H0.out.2.2.2.2.2.2.2).mono ?_
 rintro e w1 ⟨rfl, b1⟩
 rw [<- H0.out.2.2.2.2.2.1]
 have H1 : Hid (Below w.heap.size w w1 /\ Blk w1 B 35 (cfc wt tr a n cap) /\ Blk w1 (B + 1) 41 fz) := ⟨bel_next H0.out.2.1 b1, H0.out.2.2.1.below b1, H0.out.2.2.2.1.below b1⟩
 clear b1 y0 y1 y2
 cases ok
 case false =>
  go_upto_region 2 with fail
  refine wp_region_lit ?_
  refine wpList_build_any rfl 41 #[] rfl #[] (by simp) (.agg fz) (by kernel_rfl) ?_
  refine wpList_store_mid rfl 41 (.tmp 2) (.tmp 8) rfl (B + 1) 0 fz rfl rfl (H1.out.2.2.there 0 11 (by simp)) (by kernel_rfl) (by simp [Value.oneCell']) ?_
  rw [setCells_L]
  refine wpList_nil ?_
  go_wp2
  have HB : Blk (setL w1 (B + 1) 0 (fbL 0 0 none 0 0 none 0 0)) (B + 1) 41 fz := by rw [show fz = wrA fz 0 (fbL 0 0 none 0 0 none 0 0) from (wrF ..).symm]; exact Blk.stL _ _ H1.out.2.2
  refine bodyPost_ret (v := .agg fz) (results_cell Tryz.results75 rfl (run_loadVar_mid _ _ _ 41 (fbL 0 0 none 0 0 none 0 0) _ HB.all Tryz.underlying41 rfl (by kernel_rfl))) rfl ⟨setL_below (by have := H0.out.2.2.2.2.1; omega) _ _ _ H1.out.1, .inl ⟨rfl, rfl⟩⟩
 go_upto_region 3 with fail
 try go_simp
 refine wp_region_any (by kernel_rfl) ?_
 refine wpAny_st 5 (fun u => Below w.heap.size w u /\ Blk u B 35 (cfc wt tr a n cap) /\ Blk u (B + 1) 41 fz)
  (fun σ u => ∃ b9 g h, σ 3 = .pointer (some ⟨b9, 0, none⟩) /\ B + 1 < b9 /\ Blk u b9 41 (fbc wt tr (some ⟨g, 0, none⟩) n n (some ⟨h, 0, none⟩) 6 6) /\ RowU u g n f /\ RowS u h 98 17 6 (fun _ => lzc.toList) /\ B <= g /\ B <= h /\ Below w.heap.size w u /\ Blk u B 35 (cfc wt tr a n cap) /\ Blk u (B + 1) 41 fz)
  (fun i v u => match i with
   | 0 => v = .agg (cfc wt tr a n cap)
   | 1 => ∃ g, v = .agg (cfc wt tr (some ⟨g, 0, none⟩) n n) /\ RowU u g n f /\ B <= g
   | 2 => ∃ h, v = .slice (some ⟨h, 0, none⟩) 6 6 /\ RowS u h 98 17 6 (fun _ => lzc.toList) /\ B <= h
   | 3 => ∃ g h, v = .agg (fbc wt tr (some ⟨g, 0, none⟩) n n (some ⟨h, 0, none⟩) 6 6) /\ RowU u g n f /\ RowS u h 98 17 6 (fun _ => lzc.toList) /\ B <= g /\ B <= h
   | 4 => ∃ b9, v = .pointer (some ⟨b9, 0, none⟩) /\ B + 1 < b9 /\ Blk u b9 41 fz
   | _ => True) (by kernel_rfl) (by kernel_rfl) rfl (by kernel_rfl) (fun u u' h hb => ⟨bel_nx h.1 hb, h.2.1.below hb, h.2.2.below hb⟩) ?_ (by first | exact H1.out | exact ⟨H1.out.1.drew, H1.out.2.1.below ((Below.refl _ _).drew), H1.out.2.2.below ((Below.refl _ _).drew)⟩) ?_ ?_ ?_ _ _ rfl (by decide) (fun i => by simp [Array.getD]; try (split <;> rfl))
 ·intro i v u u' h hb
  match i, h with
  | 0, h => exact h
  | 1, ⟨g, e, r, q⟩ => exact ⟨g, e, r.below hb, q⟩
  | 2, ⟨g, e, r, q⟩ => exact ⟨g, e, r.below hb, q⟩
  | 3, ⟨g, h, e, r, r', q⟩ => exact ⟨g, h, e, r.below hb, r'.below hb, q⟩
  | 4, ⟨g, e, q, r⟩ => exact ⟨g, e, q, r.below hb⟩
  | _ + 5, _ => trivial
 rotate_left
 ·intro u i o ρ hi hR ho hρ hc hf hd
  obtain rfl | rfl | rfl | rfl | rfl : i = 0 \/ i = 1 \/ i = 2 \/ i = 3 \/ i = 4 := by omega
  all_goals (simp only [List.getElem?_toArray, List.getElem?_cons_zero, List.getElem?_cons_succ, Option.some.injEq] at ho; subst ho)
  ·have s0 : ρ (.tmp 1) = .pointer (some ⟨B, 0, none⟩) := (hρ 1 (by kernel_rfl)).trans rfl
   exact .inl ⟨rfl, .inl ⟨_, u, run_load_op rfl s0 (run_loadAt_mid u B 0 35 (cfc wt tr a n cap).toList _ hR.2.1.all Tryz.underlying35 rfl (by kernel_rfl)), rfl, Below.refl _ _⟩⟩
  ·have h0 : ρ (.tmp 9) = .agg (cfc wt tr a n cap) := hd ⟨0, .data⟩ (by simp) rfl 9 rfl
   refine .inl ⟨rfl, .inr ⟨_, _, run_call_op rfl (hf _) (args := #[.agg (cfc wt tr a n cap)]) (by simp [h0]) (by kernel_rfl), ?_⟩⟩
   refine (copyConfig_any wt tr a n cap f _ (SlS.below H0.out.1 hR.1) hl).mono ?_
   rintro e u' ⟨g, he, r, hg, b'⟩
   exact ⟨_, he, ⟨g, rfl, r, by have := hR.2.2.lt; omega⟩, b'⟩
  ·have hmk := run_make_st (P := Tryz.prog) 39 98 (.agg lzc) 17 184 Tryz.underlying39 Tryz.infoL98 .i64 .i64 6 (by omega) (by omega) u
   refine .inl ⟨rfl, .inl ⟨_, _, run_mk_x rfl (hc _) (hc _) hmk, ⟨_, rfl, RowS.made u lzc.toList 6 98 (by simp), by have := hR.2.2.lt; omega⟩, (Below.refl _ _).alloc (Nat.le_refl _) _⟩⟩
  ·obtain ⟨g, h1, r1, q1⟩ : ∃ g, ρ (.tmp 10) = .agg (cfc wt tr (some ⟨g, 0, none⟩) n n) /\ RowU u g n f /\ B <= g := hd ⟨1, .data⟩ (by simp) rfl 10 rfl
   obtain ⟨h, h2, r2, q2⟩ : ∃ h, ρ (.tmp 11) = .slice (some ⟨h, 0, none⟩) 6 6 /\ RowS u h 98 17 6 (fun _ => lzc.toList) /\ B <= h := hd ⟨2, .data⟩ (by simp) rfl 11 rfl
   refine .inl ⟨rfl, .inl ⟨.agg (fbc wt tr (some ⟨g, 0, none⟩) n n (some ⟨h, 0, none⟩) 6 6), u, run_bldz rfl (qs := #[(1, .agg (cfc wt tr (some ⟨g, 0, none⟩) n n)), (3, .slice (some ⟨h, 0, none⟩) 6 6)]) (by simp [h1, h2]) (by kernel_rfl), ⟨g, h, rfl, r1, r2, q1, q2⟩, Below.refl _ _⟩⟩
  exact .inl ⟨rfl, .inl ⟨_, _, run_alloc_x 41 rfl fz 11 136 Tryz.infoF41, ⟨_, rfl, by have := hR.2.2.lt; omega, Blk.new _ _ _⟩, (Below.refl _ _).alloc (Nat.le_refl _) _⟩⟩
 ·intro u o ρ hR ho hρ hc hv
  simp only [List.getElem?_toArray, List.getElem?_cons_zero, List.getElem?_cons_succ, Option.some.injEq] at ho
  subst ho
  obtain ⟨g, h, h3, r1, r2, q1, q2⟩ : ∃ g h, ρ (.tmp 12) = .agg (fbc wt tr (some ⟨g, 0, none⟩) n n (some ⟨h, 0, none⟩) 6 6) /\ RowU u g n f /\ RowS u h 98 17 6 (fun _ => lzc.toList) /\ B <= g /\ B <= h := hv 3 12 (by decide) rfl
  obtain ⟨b9, h4, q3, k1⟩ : ∃ b9, ρ (.tmp 3) = .pointer (some ⟨b9, 0, none⟩) /\ B + 1 < b9 /\ Blk u b9 41 fz := hv 4 3 (by decide) rfl
  refine ⟨rfl, setL u b9 0 (fbL wt tr (some ⟨g, 0, none⟩) n n (some ⟨h, 0, none⟩) 6 6), run_store_op rfl h4 h3 ((run_storeAt_mid u b9 0 41 (fbc wt tr (some ⟨g, 0, none⟩) n n (some ⟨h, 0, none⟩) 6 6) (k1.there 0 11 (by simp)) (by kernel_rfl) (by simp [Value.oneCell'])).trans (by rw [setCells_L])), b9, g, h, h4, q3, ?_, r1.stF k1 (by decide), r2.stF k1 (by decide), q1, q2, setL_below (by have := H0.out.2.2.2.2.1; omega) _ _ _ hR.1, Blk.stNe (by omega) _ _ hR.2.1, Blk.stNe (by omega) _ _ hR.2.2⟩
  have := Blk.stL (fbL wt tr (some ⟨g, 0, none⟩) n n (some ⟨h, 0, none⟩) 6 6) 0 k1
  rw [wrF] at this
  exact this
 intro vs σ u hE hvs
 obtain ⟨b9, g, h, e3, q3, kF, rU, rL, q1, q2, bl, kC, kR⟩ := hE
 have e4 : vs 4 = .pointer (some ⟨b9, 0, none⟩) := (hvs 4 3 rfl).trans e3
 simp only [putsL]
 rw [e4]
 have H2 : Hid (B + 1 < b9 /\ Blk u b9 41 (fbc wt tr (some ⟨g, 0, none⟩) n n (some ⟨h, 0, none⟩) 6 6) /\ RowU u g n f /\ RowS u h 98 17 6 (fun i => if i < 0 then lnL wt tr else lzc.toList) /\ B <= g /\ B <= h /\ Below w.heap.size w u /\ Blk u B 35 (cfc wt tr a n cap) /\ Blk u (B + 1) 41 fz) := ⟨q3, kF, rU, rL, q1, q2, bl, kC, kR⟩
 have c6 := kF.cell 6 rfl
 clear e4 e3 hvs q3 kF rU rL q1 q2 bl kC kR
 try go_simp
 go_wp2
 clear c6
 go_loopw [16] (fun i wr => ∃ k : Nat, k <= 6 /\ i = .int .i64 k /\ B + 1 < b9 /\ Blk wr b9 41 (fbc wt tr (some ⟨g, 0, none⟩) n n (some ⟨h, 0, none⟩) 6 6) /\ RowU wr g n f /\ RowS wr h 98 17 6 (fun i => if i < k then lnL wt tr else lzc.toList) /\ B <= g /\ B <= h /\ Below w.heap.size w wr /\ Blk wr B 35 (cfc wt tr a n cap) /\ Blk wr (B + 1) 41 fz) (fun i _ => 6 - (intOf i).toNat)
 case atStart => exact ⟨0, Nat.zero_le _, rfl, H2.out⟩
 case round =>
  obtain ⟨k, hk, rfl, HH⟩ := hrel
  have HK : Hid (_) := HH
  clear HH H2
  by_cases hlt : k < 6
  ·have hi : (k : Int) < 6 := by omega
   go_upto_region 7 with fail
   try go_simp
   refine wp_region_any (by kernel_rfl) ?_
   refine wpAny_st 9 (fun u => Below wr.heap.size wr u)
    (fun σ u => ∃ u0, Below wr.heap.size wr u0 /\ u = setL u0 h (k * 17) (lnL wt tr))
    (fun i v u => match i with
     | 0 => v = .pointer (some ⟨b9, 6, none⟩)
     | 1 => v = .slice (some ⟨h, 0, none⟩) 6 6
     | 2 => v = .int .i64 (k : Int)
     | 3 => v = .pointer (some ⟨B, 0, none⟩)
     | 4 => v = .int .i64 wt
     | 5 => v = .pointer (some ⟨B, 1, none⟩)
     | 6 => v = .int .i64 tr
     | 7 => v = .agg (lac (laN wt tr) none 0 0 none none 0 0 0 0)
     | 8 => v = .pointer (some ⟨h, k * 17, none⟩)
     | _ => True) (by kernel_rfl) (by kernel_rfl) rfl (by kernel_rfl) (fun u u' h hb => bel_nx h hb) (fun i v u u' h hb => h) (by first | exact Below.refl _ _ | exact (Below.refl _ _).drew) ?_ ?_ ?_ _ _ rfl (by decide) (fun i => by simp [Array.getD]; try (split <;> rfl))
   rotate_left
   ·intro u i o ρ hi hR ho hρ hc hf hd
    have kF := HK.out.2.1.below hR
    have kC := HK.out.2.2.2.2.2.2.2.1.below hR
    obtain rfl | rfl | rfl | rfl | rfl | rfl | rfl | rfl | rfl : i = 0 \/ i = 1 \/ i = 2 \/ i = 3 \/ i = 4 \/ i = 5 \/ i = 6 \/ i = 7 \/ i = 8 := by omega
    all_goals (simp only [List.getElem?_toArray, List.getElem?_cons_zero, List.getElem?_cons_succ, Option.some.injEq] at ho; subst ho)
    ·have s0 : ρ (.tmp 3) = .pointer (some ⟨b9, 0, none⟩) := (hρ 3 (by kernel_rfl)).trans rfl
     exact .inl ⟨rfl, .inl ⟨_, u, run_field_op rfl s0 (by go_simp), rfl, Below.refl _ _⟩⟩
    ·have s0 : ρ (.tmp 19) = .pointer (some ⟨b9, 6, none⟩) := hd ⟨0, .data⟩ (by simp) rfl 19 rfl
     have c6 := kF.cell 6 rfl
     exact .inl ⟨rfl, .inl ⟨_, u, run_load_op rfl s0 (by go_simp), rfl, Below.refl _ _⟩⟩
    ·have s0 : ρ (.tmp 4) = .int .i64 (k : Int) := (hρ 4 (by kernel_rfl)).trans rfl
     exact .inl ⟨rfl, .inl ⟨_, u, run_move_op rfl s0, rfl, Below.refl _ _⟩⟩
    ·have s0 : ρ (.tmp 1) = .pointer (some ⟨B, 0, none⟩) := (hρ 1 (by kernel_rfl)).trans rfl
     exact .inl ⟨rfl, .inl ⟨_, u, run_field_op rfl s0 (by go_simp), rfl, Below.refl _ _⟩⟩
    ·have s0 : ρ (.tmp 22) = .pointer (some ⟨B, 0, none⟩) := hd ⟨3, .data⟩ (by simp) rfl 22 rfl
     have c0 := kC.cell 0 rfl
     exact .inl ⟨rfl, .inl ⟨_, u, run_load_op rfl s0 (by go_simp), rfl, Below.refl _ _⟩⟩
    ·have s0 : ρ (.tmp 1) = .pointer (some ⟨B, 0, none⟩) := (hρ 1 (by kernel_rfl)).trans rfl
     exact .inl ⟨rfl, .inl ⟨_, u, run_field_op rfl s0 (by go_simp), rfl, Below.refl _ _⟩⟩
    ·have s0 : ρ (.tmp 24) = .pointer (some ⟨B, 1, none⟩) := hd ⟨5, .data⟩ (by simp) rfl 24 rfl
     have c1 := kC.cell 1 rfl
     exact .inl ⟨rfl, .inl ⟨_, u, run_load_op rfl s0 (by go_simp), rfl, Below.refl _ _⟩⟩
    ·have h1 : ρ (.tmp 23) = .int .i64 wt := hd ⟨4, .data⟩ (by simp) rfl 23 rfl
     have h2 : ρ (.tmp 25) = .int .i64 tr := hd ⟨6, .data⟩ (by simp) rfl 25 rfl
     refine .inl ⟨rfl, .inr ⟨_, _, run_call_op rfl (hf _) (args := #[.int .i64 wt, .int .i64 tr]) (by simp [h1, h2]) (by kernel_rfl), ?_⟩⟩
     refine (implLineNew_any wt tr _).mono ?_
     rintro e u' ⟨he, b'⟩
     rw [okC_nw H0.out.2.2.2.2.2.1.symm] at he
     exact ⟨_, he, rfl, b'⟩
    have h1 : ρ (.tmp 20) = .slice (some ⟨h, 0, none⟩) 6 6 := hd ⟨1, .data⟩ (by simp) rfl 20 rfl
    have h2 : ρ (.tmp 21) = .int .i64 (k : Int) := hd ⟨2, .data⟩ (by simp) rfl 21 rfl
    exact .inl ⟨rfl, .inl ⟨_, u, run_index_op rfl h1 h2 (by go_simp), rfl, Below.refl _ _⟩⟩
   ·intro u o ρ hR ho hρ hc hv
    simp only [List.getElem?_toArray, List.getElem?_cons_zero, List.getElem?_cons_succ, Option.some.injEq] at ho
    subst ho
    have h7 : ρ (.tmp 26) = .agg (lac (laN wt tr) none 0 0 none none 0 0 0 0) := hv 7 26 (by decide) rfl
    have h8 : ρ (.tmp 27) = .pointer (some ⟨h, k * 17, none⟩) := hv 8 27 (by decide) rfl
    have rL := HK.out.2.2.2.1.below hR
    refine ⟨rfl, setL u h (k * 17) (lnL wt tr), run_store_op rfl h8 h7 ((run_storeAt_mid u h (k * 17) 98 (lac (laN wt tr) none 0 0 none none 0 0 0 0) (fun j hj => ?_) (by kernel_rfl) (by simp [Value.oneCell'])).trans (by rw [setCells_L])), u, hR, rfl⟩
    have hj' : j < 17 := hj
    obtain ⟨v, hv⟩ := rL.ex hlt (j := j) hj'
    exact ⟨by rw [hv]; rfl, rL.fro _⟩
   intro vs σ u hE hvs
   obtain ⟨u0, hb0, rfl⟩ := hE
   obtain ⟨q3, kF, rU, rL, q1, q2, bl, kC, kR⟩ := HK.out
   have kF1 := kF.below hb0
   have kC1 := kC.below hb0
   have kR1 := kR.below hb0
   have rU1 := RowS.below rU hb0
   have rL1 := RowS.below rL hb0
   have H3 : Hid (Blk (setL u0 h (k * 17) (lnL wt tr)) b9 41 (fbc wt tr (some ⟨g, 0, none⟩) n n (some ⟨h, 0, none⟩) 6 6) /\ RowU (setL u0 h (k * 17) (lnL wt tr)) g n f /\ RowS (setL u0 h (k * 17) (lnL wt tr)) h 98 17 6 (fun i => if i < k + 1 then lnL wt tr else lzc.toList) /\ B <= g /\ B <= h /\ Below w.heap.size w (setL u0 h (k * 17) (lnL wt tr)) /\ Blk (setL u0 h (k * 17) (lnL wt tr)) B 35 (cfc wt tr a n cap) /\ Blk (setL u0 h (k * 17) (lnL wt tr)) (B + 1) 41 fz) := by
    refine ⟨Blk.stNe (rL1.ne kF1 (by decide)) _ _ kF1, RowS.kept rU1 (setL_gw _ _ _) (fun e => rowS_ne rU1 rL1 (by decide) (Option.some.inj e).symm), ?_, q1, q2, setL_below (by have := H0.out.2.2.2.2.1; omega) _ _ _ (bel_nx bl hb0), Blk.stNe (rL1.ne kC1 (by decide)) _ _ kC1, Blk.stNe (rL1.ne kR1 (by decide)) _ _ kR1⟩
    refine (rL1.set hlt (lnL wt tr) rfl).congr (fun i hi => ?_)
    by_cases e : i = k
    ·subst e; simp
    simp only [if_neg e]
    by_cases e' : i < k
    ·rw [if_pos e', if_pos (by omega)]
    rw [if_neg e', if_neg (by omega)]
   obtain ⟨W3, hW3⟩ : ∃ W3, W3 = setL u0 h (k * 17) (lnL wt tr) := ⟨_, rfl⟩
   rw [<- hW3] at H3 ⊢
   simp only [putsL]
   clear hW3 kF kC kR rU rL kF1 kC1 kR1 rU1 rL1 q1 q2 bl hvs HK
   try go_simp
   go_wp2
   go_roundw
   case rel => exact ⟨k + 1, by omega, by go_num, q3, H3.out⟩
   case measure => simp [intOf]; omega
  have hi : ¬ (k : Int) < 6 := by omega
  have e9 : k = 6 := by omega
  subst e9
  clear hi hlt hk
  go_upto_region 9 with fail
  refine wp_region_lit ?_
  refine wpList_load_mid rfl 41 (.tmp 3) rfl b9 0 rfl (fbL wt tr (some ⟨g, 0, none⟩) n n (some ⟨h, 0, none⟩) 6 6) _ HK.out.2.1.all Tryz.underlying41 rfl (by kernel_rfl) ?_
  refine wpList_store_mid rfl 41 (.tmp 2) (.tmp 29) rfl (B + 1) 0 (fbc wt tr (some ⟨g, 0, none⟩) n n (some ⟨h, 0, none⟩) 6 6) rfl rfl (HK.out.2.2.2.2.2.2.2.2.there 0 11 (by simp)) (by kernel_rfl) (by simp [Value.oneCell']) ?_
  rw [setCells_L]
  refine wpList_nil ?_
  go_wp2
  have HB : Blk (setL wr (B + 1) 0 (fbL wt tr (some ⟨g, 0, none⟩) n n (some ⟨h, 0, none⟩) 6 6)) (B + 1) 41 (fbc wt tr (some ⟨g, 0, none⟩) n n (some ⟨h, 0, none⟩) 6 6) := by
   have := Blk.stL (fbL wt tr (some ⟨g, 0, none⟩) n n (some ⟨h, 0, none⟩) 6 6) 0 HK.out.2.2.2.2.2.2.2.2
   rw [wrF] at this
   exact this
  obtain ⟨q3, kF, rU, rL, q1, q2, bl, kC, kR⟩ := HK.out
  refine bodyPost_ret (v := .agg (fbc wt tr (some ⟨g, 0, none⟩) n n (some ⟨h, 0, none⟩) 6 6)) (results_cell Tryz.results75 rfl (run_loadVar_mid _ _ _ 41 (fbL wt tr (some ⟨g, 0, none⟩) n n (some ⟨h, 0, none⟩) 6 6) _ HB.all Tryz.underlying41 rfl (by kernel_rfl))) rfl ⟨setL_below (by have := H0.out.2.2.2.2.1; omega) _ _ _ bl, .inr ⟨rfl, g, h, rfl, rU.stF kR (by decide), ?_, by have := H0.out.2.2.2.2.1; omega, by have := H0.out.2.2.2.2.1; omega⟩⟩
  exact (rL.stF kR (by decide)).congr (fun i hi => by rw [if_pos hi])
end Go.Proofs.YtkfgijkkffbpmaaGreat
namespace Go.Proofs.YtkfgijkkffbpmaaGreat
open Go.RowKit
def reachB (md : Region.Mode) (ops : Array Oper) : Nat -> Nat -> Nat -> Bool
 | 0, i, j => i == j
 | k + 1, i, j => i == j || match ops[i]? with
  | some o => o.after.toList.any (fun e => Region.binds md e && reachB md ops k e.on j)
  | none => false
def tailB (md : Region.Mode) (ops : Array Oper) (N : Nat) : Bool :=
 (List.range N).all (fun i => (dstOf ops i).isSome) && (List.range ops.size).all (fun i => decide (i < N) || (List.range i).all (fun j => reachB md ops ops.size i j))
theorem reachB_l {md : Region.Mode} {ops : Array Oper} {l : Nat -> Bool} (hcl : ∀ j oj, ops[j]? = some oj -> l j = true -> ∀ e ∈ oj.after, Region.binds md e = true -> l e.on = true) : ∀ k i j, reachB md ops k i j = true -> l i = true -> l j = true
 | 0, i, j, h, hi => by
  have e : i = j := by simpa [reachB] using h
  rw [<- e]; exact hi
 | k + 1, i, j, h, hi => by
  unfold reachB at h
  rw [Bool.or_eq_true] at h
  rcases h with h | h
  ·have e : i = j := by simpa using h
   rw [<- e]; exact hi
  split at h
  ·rename_i o ho
   rw [List.any_eq_true] at h
   obtain ⟨e, he, q⟩ := h
   rw [Bool.and_eq_true] at q
   exact reachB_l hcl k e.on j q.2 (hcl i o ho hi e (Array.mem_toList_iff.1 he) q.1)
  cases h
theorem reachB_d {md : Region.Mode} {ops : Array Oper} {l : Nat -> Bool} (hcl : ∀ j oj, ops[j]? = some oj -> l j = true -> ∀ e ∈ oj.after, Region.binds md e = true -> l e.on = true) {k i j : Nat} {o : Oper} (ho : ops[i]? = some o) (hdep : ∀ e ∈ o.after, Region.binds md e = true -> l e.on = true) (hne : i ≠ j) (h : reachB md ops k i j = true) : l j = true := by
 cases k with
 | zero => exact absurd (by simpa [reachB] using h) hne
 | succ k =>
  unfold reachB at h
  rw [Bool.or_eq_true] at h
  rcases h with h | h
  ·exact absurd (by simpa using h) hne
  rw [ho] at h
  simp only [List.any_eq_true] at h
  obtain ⟨e, he, q⟩ := h
  rw [Bool.and_eq_true] at q
  exact reachB_l hcl k e.on j q.2 (hdep e (Array.mem_toList_iff.1 he) q.1)
def noDst (ops : Array Oper) (N s : Nat) : Bool := (List.range N).all (fun j => dstOf ops j != some s)
def StpT (P : Program) (ops : Array Oper) (E : (Nat -> Value) -> World -> Prop) (o : Oper) (ρ : Operand -> Value) (u : World) : Prop :=
 wantV ops o ρ = true /\ ((∃ v u', (execOp ρ o).run P u = .ok (.value v) u' /\ E (updS (fun s => ρ (.tmp s)) o.dst v) u') \/ (∃ f args, (execOp ρ o).run P u = .ok (.enter f args) u /\ Calls P f args u fun e u' => ∃ v, e = .returned v /\ E (updS (fun s => ρ (.tmp s)) o.dst v) u') \/ (o.dst = none /\ ∃ u', (execOp ρ o).run P u = .ok .skip u' /\ E (fun s => ρ (.tmp s)) u'))
theorem wpAny_tl {P : Program} {ops : Array Oper} {Q : Exit -> Act -> World -> Prop} {md : Region.Mode} {a0 : Act} {w0 : World} (N : Nat) (Rb : World -> Prop) (E : Nat -> (Nat -> Value) -> World -> Prop) (Φ : Nat -> Value -> World -> Prop)
 (hordB : ordB md ops = true) (hB : dstC ops a0.tmps.size = true) (hN : N < ops.size) (hL : tailB md ops N = true)
 (hRb : ∀ u u', Rb u -> Below u.heap.size u u' -> Rb u') (hmono : ∀ i v u u', Φ i v u -> Below u.heap.size u u' -> Φ i v u') (h0 : Rb w0)
 (hend : ∀ (vs : Nat -> Value) (σ : Nat -> Value) u, E (ops.size - 1) σ u -> (∀ i d, dstOf ops i = some d -> vs i = σ d) -> Q .normal (putsL a0 0 ops.toList vs) u)
 (hstep : ∀ u i o (ρ : Operand -> Value), i < N -> Rb u -> ops[i]? = some o -> (∀ s, noDst ops N s = true -> ρ (.tmp s) = a0.eval (.tmp s)) -> (∀ v, ρ (.const v) = v) -> (∀ f, ρ (.func f) = .func (.func f) #[] #[]) ->
  (∀ e ∈ o.after, Region.binds md e = true -> ∀ d, dstOf ops e.on = some d -> Φ e.on (ρ (.tmp d)) u) -> StpB P ops Φ i o ρ u)
 (hfirst : ∀ u o (ρ : Operand -> Value), Rb u -> ops[N]? = some o -> (∀ s, noDst ops N s = true -> ρ (.tmp s) = a0.eval (.tmp s)) -> (∀ v, ρ (.const v) = v) -> (∀ f, ρ (.func f) = .func (.func f) #[] #[]) ->
  (∀ j d, j < N -> dstOf ops j = some d -> Φ j (ρ (.tmp d)) u) -> StpT P ops (E N) o ρ u)
 (htail : ∀ u i o (ρ : Operand -> Value), N <= i -> ops[i + 1]? = some o -> E i (fun s => ρ (.tmp s)) u -> (∀ s, isDst ops s = false -> ρ (.tmp s) = a0.eval (.tmp s)) -> (∀ v, ρ (.const v) = v) -> (∀ f, ρ (.func f) = .func (.func f) #[] #[]) -> StpT P ops (E (i + 1)) o ρ u)
 (fuel : Nat) (l : Array Bool) (hs : l.size = ops.size) (hc : l.toList.count false <= fuel) (hl : ∀ i, l.getD i false = false) : wpAny P md ops Q fuel l a0 w0 := by
 obtain ⟨hds, hre⟩ : (∀ i, i < N -> (dstOf ops i).isSome = true) /\ ∀ i, N <= i -> i < ops.size -> ∀ j, j < i -> reachB md ops ops.size i j = true := by
  unfold tailB at hL
  simp only [Bool.and_eq_true, List.all_eq_true, List.mem_range, Bool.or_eq_true, decide_eq_true_eq] at hL
  exact ⟨hL.1, fun i h1 h2 j hj => (hL.2 i h2).elim (fun h => absurd h (by omega)) (fun h => h j hj)⟩
 refine wpAny_valy (fun l σ u => (∀ i, N <= i -> i < ops.size -> l i = true -> (i + 1 = ops.size \/ l (i + 1) = false) -> E i σ u) /\ (l N = false -> Rb u /\ (∀ s, noDst ops N s = true -> σ s = a0.eval (.tmp s)) /\ ∀ j d, j < N -> dstOf ops j = some d -> l j = true -> Φ j (σ d) u)) (fun _ _ => True) (fun _ _ _ => True) hordB hB (fun _ _ _ _ h _ => h) (fun _ => trivial) ⟨fun _ _ _ h _ => (by cases h), fun _ => ⟨h0, fun _ _ => rfl, fun _ _ _ _ h => (by cases h)⟩⟩ (fun vs σ u hR hvs _ => hend vs σ u (hR.1 (ops.size - 1) (by omega) (by omega) (by simp; omega) (.inl (by omega))) hvs) ?_ fuel l hs hc hl
 intro u i o ρ l hR ho hli hcl hρ hcn hf hdep hv
 have hi : i < ops.size := (Array.getElem?_eq_some_iff.1 ho).1
 by_cases e : i < N
 ·have hlt : ∀ t, N <= t -> t < ops.size -> l t = false := by
   intro t h1 h2
   cases h9 : l t with
   | false => rfl
   | true => have := reachB_l hcl _ t i (hre t h1 h2 i (by omega)) h9; rw [hli] at this; cases this
  obtain ⟨hb, hσ, hΦ⟩ := hR.2 (hlt N (Nat.le_refl _) hN)
  have hup : ∀ t, N <= t -> updB l i t = l t := fun t h1 => by unfold updB; rw [if_neg (by omega)]
  obtain ⟨d, hd⟩ := Option.isSome_iff_exists.1 (hds i e)
  have hod : o.dst = some d := by simpa [dstOf, ho] using hd
  have key : ∀ v u', Φ i v u' -> Below u.heap.size u u' -> (∀ t, N <= t -> t < ops.size -> updB l i t = true -> (t + 1 = ops.size \/ updB l i (t + 1) = false) -> E t (updS (fun s => ρ (.tmp s)) o.dst v) u') /\ (updB l i N = false -> Rb u' /\ (∀ s, noDst ops N s = true -> updS (fun s => ρ (.tmp s)) o.dst v s = a0.eval (.tmp s)) /\ ∀ j d, j < N -> dstOf ops j = some d -> updB l i j = true -> Φ j (updS (fun s => ρ (.tmp s)) o.dst v d) u') := by
   intro v u' h1 h2
   have hnd : ∀ s, noDst ops N s = true -> updS (fun s => ρ (.tmp s)) o.dst v s = a0.eval (.tmp s) := by
    intro s hs9
    have hne : s ≠ d := by
     rintro rfl
     unfold noDst at hs9
     rw [List.all_eq_true] at hs9
     have := hs9 i (List.mem_range.2 e)
     rw [hd] at this
     simp at this
    rw [hod]
    show (if s = d then v else ρ (.tmp s)) = _
    rw [if_neg hne]
    exact hσ s hs9
   refine ⟨fun t q1 q2 q3 _ => (by rw [hup t q1, hlt t q1 q2] at q3; cases q3), fun _ => ⟨hRb u u' hb h2, hnd, fun j d' hjN hj hl' => ?_⟩⟩
   by_cases ej : j = i
   ·subst ej
    rw [hd] at hj
    cases hj
    rw [hod]
    show Φ j (if d = d then v else _) u'
    rw [if_pos rfl]
    exact h1
   have hlj : l j = true := by unfold updB at hl'; rw [if_neg ej] at hl'; exact hl'
   have hne : d' ≠ d := fun q => ej ((dstC_of hB hi hd).2 j (dstOf_lt hj) (by rw [<- q]; exact hj))
   rw [hod]
   show Φ j (if d' = d then v else ρ (.tmp d')) u'
   rw [if_neg hne]
   exact hmono _ _ _ _ (hΦ j d' hjN hj hlj) h2
  rcases hstep u i o ρ e hb ho hσ hcn hf (fun e9 he hbd d9 hd9 => by
   have hl9 := hdep e9 he hbd
   by_cases q : e9.on < N
   ·exact hΦ e9.on d9 q hd9 hl9
   rw [hlt e9.on (by omega) (dstOf_lt hd9)] at hl9; cases hl9) with ⟨hw, h9⟩ | ⟨hw, h9⟩
  ·refine .inl ⟨hw, ?_⟩
   rcases h9 with ⟨v, u', hr, h1, h2⟩ | ⟨f, args, hr, hcall⟩
   ·exact .inl ⟨v, u', hr, trivial, key v u' h1 h2, trivial⟩
   refine .inr (.inl ⟨f, args, hr, hcall.mono ?_⟩)
   rintro e9 u' ⟨v, he, h1, h2⟩
   exact ⟨v, he, trivial, key v u' h1 h2, trivial⟩
  exact .inr ⟨hw, trivial, key undef u h9 (Below.refl _ _)⟩
 have hbef : ∀ j, j < i -> l j = true := fun j hj => reachB_d hcl ho hdep (by omega) (hre i (by omega) hi j hj)
 have haft : ∀ t, i < t -> t < ops.size -> l t = false := by
  intro t h1 h2
  cases h9 : l t with
  | false => rfl
  | true => have := reachB_l hcl _ t i (hre t (by omega) h2 i h1) h9; rw [hli] at this; cases this
 have hst : StpT P ops (E i) o ρ u := by
  by_cases eN : i = N
  ·subst eN
   obtain ⟨hb, hσ, hΦ⟩ := hR.2 hli
   exact hfirst u o ρ hb ho hσ hcn hf (fun j d hj hd => hΦ j d hj hd (hbef j hj))
  obtain ⟨i', rfl⟩ : ∃ i', i = i' + 1 := ⟨i - 1, by omega⟩
  exact htail u i' o ρ (by omega) ho (hR.1 i' (by omega) (by omega) (hbef i' (by omega)) (.inr hli)) hρ hcn hf
 have key : ∀ σ u', E i σ u' -> (∀ t, N <= t -> t < ops.size -> updB l i t = true -> (t + 1 = ops.size \/ updB l i (t + 1) = false) -> E t σ u') /\ (updB l i N = false -> Rb u' /\ (∀ s, noDst ops N s = true -> σ s = a0.eval (.tmp s)) /\ ∀ j d, j < N -> dstOf ops j = some d -> updB l i j = true -> Φ j (σ d) u') := by
  intro σ u' hE
  have hii : updB l i i = true := by unfold updB; rw [if_pos rfl]
  have hup : ∀ t, t ≠ i -> updB l i t = l t := fun t h1 => by unfold updB; rw [if_neg h1]
  refine ⟨fun t q1 q2 q3 q4 => ?_, fun q => ?_⟩
  ·rcases Nat.lt_trichotomy t i with q | q | q
   ·rcases q4 with q4 | q4
    ·omega
    by_cases q5 : t + 1 = i
    ·rw [q5, hii] at q4; cases q4
    rw [hup _ q5, hbef (t + 1) (by omega)] at q4; cases q4
   ·subst q; exact hE
   rw [hup t (by omega), haft t q q2] at q3; cases q3
  by_cases eN : N = i
  ·rw [eN, hii] at q; cases q
  rw [hup N eN, hbef N (by omega)] at q; cases q
 obtain ⟨hw, h9⟩ := hst
 refine .inl ⟨hw, ?_⟩
 rcases h9 with ⟨v, u', hr, hE⟩ | ⟨f, args, hr, hcall⟩ | ⟨hd, u', hr, hE⟩
 ·exact .inl ⟨v, u', hr, trivial, key _ u' hE, trivial⟩
 ·refine .inr (.inl ⟨f, args, hr, hcall.mono ?_⟩)
  rintro e9 u' ⟨v, he, hE⟩
  exact ⟨v, he, trivial, key _ u' hE, trivial⟩
 refine .inr (.inr ⟨hd, u', hr, ?_, trivial⟩)
 rw [hd]
 exact key _ u' hE
end Go.Proofs.YtkfgijkkffbpmaaGreat
