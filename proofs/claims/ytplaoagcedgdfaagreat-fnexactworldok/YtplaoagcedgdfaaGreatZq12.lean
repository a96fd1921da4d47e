/- Parts of the proof. -/
import Derived.Test.YtplaoagcedgdfaaGreatZq11
import Derived.Test.YtplaoagcedgdfaaGreatZq9
import Derived.Deep.RegionWith
import Derived.Test.YtplaoagcedgdfaaGreatZq1
import Derived.Test.YtplaoagcedgdfaaGreatZq2
import Derived.LoopN
import Derived.Lib.AppendZerosOnto
import Derived.Lib.SliceRun
import Derived.Lib.Walk
import Derived.Deep.RegionHeld3
set_option linter.unusedSectionVars false
set_option linter.unusedVariables false
set_option linter.unusedSimpArgs false
set_option maxHeartbeats 8000000
set_option maxRecDepth 20000
namespace Go.Proofs.YtplaoagcedgdfaaGreat
open Go.RowKit Go.Proofs.Tryz
theorem ug (v : Value) (w : World) : (method 429 291 v "loop.example/g00129/impl.req").run prog w = .ok (282, v) w := by kernel_rfl
theorem sL (v : Value) (w : World) : (callFunc 282 #[v]).run prog w = .ok (.enter 282 #[v]) w := by kernel_rfl
theorem uh (v : Value) (w : World) : (method 429 292 v "loop.example/g00129/impl.req").run prog w = .ok (283, v) w := by kernel_rfl
theorem sM (v : Value) (w : World) : (callFunc 283 #[v]).run prog w = .ok (.enter 283 #[v]) w := by kernel_rfl
theorem ui (v : Value) (w : World) : (method 429 293 v "loop.example/g00129/impl.req").run prog w = .ok (284, v) w := by kernel_rfl
theorem sN (v : Value) (w : World) : (callFunc 284 #[v]).run prog w = .ok (.enter 284 #[v]) w := by kernel_rfl
theorem uj (v : Value) (w : World) : (method 429 294 v "loop.example/g00129/impl.req").run prog w = .ok (285, v) w := by kernel_rfl
theorem sO (v : Value) (w : World) : (callFunc 285 #[v]).run prog w = .ok (.enter 285 #[v]) w := by kernel_rfl
theorem uk (v : Value) (w : World) : (method 429 296 v "loop.example/g00129/impl.req").run prog w = .ok (286, v) w := by kernel_rfl
theorem sP (v : Value) (w : World) : (callFunc 286 #[v]).run prog w = .ok (.enter 286 #[v]) w := by kernel_rfl
theorem ul (v : Value) (w : World) : (method 429 298 v "loop.example/g00129/impl.req").run prog w = .ok (287, v) w := by kernel_rfl
theorem sQ (v : Value) (w : World) : (callFunc 287 #[v]).run prog w = .ok (.enter 287 #[v]) w := by kernel_rfl
theorem sR (v : Value) (w : World) : (method 429 300 v "loop.example/g00129/impl.req").run prog w = .ok (288, v) w := by kernel_rfl
theorem qD (v : Value) (w : World) : (callFunc 288 #[v]).run prog w = .ok (.enter 288 #[v]) w := by kernel_rfl
theorem sS (v : Value) (w : World) : (method 429 302 v "loop.example/g00129/impl.req").run prog w = .ok (289, v) w := by kernel_rfl
theorem qE (v : Value) (w : World) : (callFunc 289 #[v]).run prog w = .ok (.enter 289 #[v]) w := by kernel_rfl
theorem sU (v : Value) (w : World) : (method 429 304 v "loop.example/g00129/impl.req").run prog w = .ok (290, v) w := by kernel_rfl
theorem qF (v : Value) (w : World) : (callFunc 290 #[v]).run prog w = .ok (.enter 290 #[v]) w := by kernel_rfl
theorem sV (v : Value) (w : World) : (method 429 306 v "loop.example/g00129/impl.req").run prog w = .ok (291, v) w := by kernel_rfl
theorem qG (v : Value) (w : World) : (callFunc 291 #[v]).run prog w = .ok (.enter 291 #[v]) w := by kernel_rfl
theorem qH {ws : List Int} (h : ws.length = 1) : bN ws = aw (ws.getD 0 0) 0 65535 := by
 unfold bN aw
 rw [Bool.eq_iff_iff]
 simp only [decide_eq_true_eq]
 constructor
 ·intro hh; exact hh 0 (by omega)
 intro hh k hk
 obtain rfl : k = 0 := by omega
 exact hh
theorem qI {ws : List Int} (h : ws.length = 2) : bN ws = (aw (ws.getD 0 0) 0 65535 && aw (ws.getD 1 0) 0 65535) := by
 unfold bN aw
 rw [Bool.eq_iff_iff]
 simp only [decide_eq_true_eq, Bool.and_eq_true]
 constructor
 ·intro hh; exact ⟨hh 0 (by omega), hh 1 (by omega)⟩
 intro hh k hk
 obtain rfl | rfl : k = 0 \/ k = 1 := by omega
 ·exact hh.1
 exact hh.2
theorem qJ {bs : List Bool} (h : bs.length = 1) : bs = [bs.getD 0 false] := by
 match bs, h with
 | [x], _ => rfl
theorem lQ {ws : List Int} (h : ws.length = 1) : ws = [ws.getD 0 0] := by
 match ws, h with
 | [x], _ => rfl
theorem lR {ws : List Int} (h : ws.length = 2) : ws = [ws.getD 0 0, ws.getD 1 0] := by
 match ws, h with
 | [x, y], _ => rfl
section
variable (pl nn wa : Int) (ws : List Int) (l1 l2 : Nat) (h1 : l1 = ws.length)
include pl nn wa ws l1 l2 h1
theorem ve : bv 1 pl nn wa ws l1 l2 = (bM pl nn 2000 && (decide (wa = 0) && (decide (l1 = 0) && (decide (l2 = 0))))) := by
 by_cases hl : l1 = 0
 ·have hW : bN ws = true := dB (fun k hk => by omega)
  rw [Bool.eq_iff_iff]; simp [bv, dw, bG, aw, dg, bM, hW, hl]; omega
 rw [Bool.eq_iff_iff]; simp [bv, dw, bG, hl]
theorem vf : bv 2 pl nn wa ws l1 l2 = (bM pl nn 2000 && (decide (wa = 0) && (decide (l1 = 0) && (decide (l2 = 0))))) := by
 by_cases hl : l1 = 0
 ·have hW : bN ws = true := dB (fun k hk => by omega)
  rw [Bool.eq_iff_iff]; simp [bv, dw, bG, aw, dg, bM, hW, hl]; omega
 rw [Bool.eq_iff_iff]; simp [bv, dw, bG, hl]
theorem vg : bv 3 pl nn wa ws l1 l2 = (bM pl nn 125 && (decide (wa = 0) && (decide (l1 = 0) && (decide (l2 = 0))))) := by
 by_cases hl : l1 = 0
 ·have hW : bN ws = true := dB (fun k hk => by omega)
  rw [Bool.eq_iff_iff]; simp [bv, dw, bG, aw, dg, bM, hW, hl]; omega
 rw [Bool.eq_iff_iff]; simp [bv, dw, bG, hl]
theorem vh : bv 4 pl nn wa ws l1 l2 = (bM pl nn 125 && (decide (wa = 0) && (decide (l1 = 0) && (decide (l2 = 0))))) := by
 by_cases hl : l1 = 0
 ·have hW : bN ws = true := dB (fun k hk => by omega)
  rw [Bool.eq_iff_iff]; simp [bv, dw, bG, aw, dg, bM, hW, hl]; omega
 rw [Bool.eq_iff_iff]; simp [bv, dw, bG, hl]
theorem vi : bv 5 pl nn wa ws l1 l2 = (decide (l2 = 1) && (aw pl 0 65535 && (decide (nn = 0) && (decide (wa = 0) && (decide (l1 = 0)))))) := by
 by_cases hl : l1 = 0
 ·have hW : bN ws = true := dB (fun k hk => by omega)
  rw [Bool.eq_iff_iff]; simp [bv, dw, bG, aw, dg, bM, hW, hl]; omega
 rw [Bool.eq_iff_iff]; simp [bv, dw, bG, hl]
theorem vj : bv 6 pl nn wa ws l1 l2 = (decide (l1 = 1) && (aw pl 0 65535 && (aw (ws.getD 0 0) 0 65535 && (decide (nn = 0) && (decide (wa = 0) && (decide (l2 = 0))))))) := by
 by_cases hl : l1 = 1
 ·rw [Bool.eq_iff_iff, bv, qH (by omega)]; simp [bv, dw, bG, aw, dg, bM, hl]; omega
 rw [Bool.eq_iff_iff]; simp [bv, dw, bG, hl]
theorem um : bv 15 pl nn wa ws l1 l2 = (bM pl (l2 : Int) 1968 && (decide (nn = 0) && (decide (wa = 0) && (decide (l1 = 0))))) := by
 by_cases hl : l1 = 0
 ·have hW : bN ws = true := dB (fun k hk => by omega)
  rw [Bool.eq_iff_iff]; simp [bv, dw, bG, aw, dg, bM, hW, hl]; omega
 rw [Bool.eq_iff_iff]; simp [bv, dw, bG, hl]
theorem uo : bv 16 pl nn wa ws l1 l2 = (bM pl (l1 : Int) 123 && (bN ws && (decide (nn = 0) && (decide (wa = 0) && (decide (l2 = 0)))))) := by
 cases hW : bN ws
 ·simp [bv, hW]
 rw [Bool.eq_iff_iff]; simp [bv, dw, bG, aw, dg, bM, hW]; omega
theorem uq : bv 22 pl nn wa ws l1 l2 = (decide (l1 = 2) && (aw pl 0 65535 && (aw (ws.getD 0 0) 0 65535 && (aw (ws.getD 1 0) 0 65535 && (decide (nn = 0) && (decide (wa = 0) && (decide (l2 = 0)))))))) := by
 by_cases hl : l1 = 2
 ·rw [Bool.eq_iff_iff, bv, qI (by omega)]; simp [bv, dw, bG, aw, dg, bM, hl]; omega
 rw [Bool.eq_iff_iff]; simp [bv, dw, bG, hl]
theorem ur : bv 23 pl nn wa ws l1 l2 = (bM pl nn 125 && (bM wa (l1 : Int) 121 && (bN ws && (decide (l2 = 0))))) := by
 cases hW : bN ws
 ·simp [bv, hW]
 rw [Bool.eq_iff_iff]; simp [bv, dw, bG, aw, dg, bM, hW]; omega
end
theorem cD (kd pl nn wa : Int) (a1 a2 : Option Addr) (l1 l2 c1 c2 : Nat) (w : World) (q : Value)
 (hq : ∀ u, Below w.heap.size w u -> Calls prog 248 #[rq kd pl nn wa a1 a2 l1 l2 c1 c2] u fun e u' => e = .returned q /\ Below u.heap.size u u')
 (hi : ∀ u, Below w.heap.size w u -> Calls prog 249 #[q] u fun e u' => e = .returned (.bool false) /\ Below u.heap.size u u')
 : Calls prog 233 #[rq kd pl nn wa a1 a2 l1 l2 c1 c2] w fun e w' => e = .returned .nilIface /\ Below w.heap.size w w' := by
 obtain ⟨B0, X0⟩ := bx w #[.int .i64 kd, .int .i64 pl, .int .i64 nn, .slice a1 l1 c1, .slice a2 l2 c2, .int .i64 wa] 84
 obtain ⟨x0, x1, x2, x3, x4, x5⟩ := X0.six
 go_enter func233, ntmps233
 go_wp2_with fail
 refine (hq _ B0).mono ?_
 rintro e w1 ⟨rfl, b'⟩
 have B1 := ak B0 b'
 have Y := X0.below b'
 clear X0 x0 x1 x2 x3 x4 x5 hq
 go_upto_region 2 with fail
 refine wp_region_any (by kernel_rfl) ?_
 (try (change wpAny _ _ _ _ _ _ _ (World.drew _)))
 refine wpAny_ready (rs := [0]) (by kernel_rfl) (by simp) ?_
 refine AllReady.cons rfl (fun K hK => ?_) AllReady.nil
 go_simp
 refine hK _ _ ?_
 clear hK K
 refine wpAny_ready (rs := [1]) (by kernel_rfl) (by simp) ?_
 refine AllReady.cons rfl (fun K hK => ?_) AllReady.nil
 go_simp
 go_wp2_with (go_at_call 249; refine (hi _ (by first | exact B1 | exact B1.drew)).mono ?_; rintro e w2 ⟨rfl, b2'⟩; have B2 := ak (by first | exact B1 | exact B1.drew) b2'; have Y2 := (Y.below (Below.refl _ _).drew).below b2'; clear b2' Y hi)
 try (refine hK _ _ ?_; clear hK K)
 obtain ⟨y0, y1, y2, y3, y4, y5⟩ := Y2.six
 refine wpAny_ready (rs := [2]) (by kernel_rfl) (by simp) ?_
 refine AllReady.cons rfl (fun K hK => ?_) AllReady.nil
 go_simp
 refine hK _ _ ?_
 clear hK K
 refine wpAny_ready (rs := [3, 5]) (by kernel_rfl) (by simp) ?_
 refine AllReady.cons rfl (fun K hK => ?_) ?_
 ·skip
  go_simp
  refine hK _ _ ?_
  clear hK K
  refine wpAny_ready (rs := [4, 5]) (by kernel_rfl) (by simp) ?_
  refine AllReady.cons rfl (fun K hK => ?_) ?_
  ·skip
   go_simp
   refine hK _ _ ?_
   clear hK K
   refine wpAny_ready (rs := [5]) (by kernel_rfl) (by simp) ?_
   refine AllReady.cons rfl (fun K hK => ?_) AllReady.nil
   go_simp
   refine hK _ _ ?_
   clear hK K
   refine wpAny_ready (rs := [6]) (by kernel_rfl) (by simp) ?_
   refine AllReady.cons rfl (fun K hK => ?_) AllReady.nil
   go_simp
   refine hK _ _ ?_
   clear hK K
   refine wpAny_ready (rs := [7]) (by kernel_rfl) (by simp) ?_
   refine AllReady.cons rfl (fun K hK => ?_) AllReady.nil
   go_simp
   refine hK _ _ ?_
   clear hK K
   refine wpAny_done (by kernel_rfl) ?_ _
   go_wp2
   go_ret
   exact ⟨rfl, B2⟩
  refine AllReady.cons rfl (fun K hK => ?_) AllReady.nil
  go_simp
  refine hK _ _ ?_
  clear hK K
  refine wpAny_ready (rs := [4]) (by kernel_rfl) (by simp) ?_
  refine AllReady.cons rfl (fun K hK => ?_) AllReady.nil
  go_simp
  refine hK _ _ ?_
  clear hK K
  refine wpAny_ready (rs := [6]) (by kernel_rfl) (by simp) ?_
  refine AllReady.cons rfl (fun K hK => ?_) AllReady.nil
  go_simp
  refine hK _ _ ?_
  clear hK K
  refine wpAny_ready (rs := [7]) (by kernel_rfl) (by simp) ?_
  refine AllReady.cons rfl (fun K hK => ?_) AllReady.nil
  go_simp
  refine hK _ _ ?_
  clear hK K
  refine wpAny_done (by kernel_rfl) ?_ _
  go_wp2
  go_ret
  exact ⟨rfl, B2⟩
 refine AllReady.cons rfl (fun K hK => ?_) AllReady.nil
 go_simp
 refine hK _ _ ?_
 clear hK K
 refine wpAny_ready (rs := [3]) (by kernel_rfl) (by simp) ?_
 refine AllReady.cons rfl (fun K hK => ?_) AllReady.nil
 go_simp
 refine hK _ _ ?_
 clear hK K
 refine wpAny_ready (rs := [4]) (by kernel_rfl) (by simp) ?_
 refine AllReady.cons rfl (fun K hK => ?_) AllReady.nil
 go_simp
 refine hK _ _ ?_
 clear hK K
 refine wpAny_ready (rs := [6]) (by kernel_rfl) (by simp) ?_
 refine AllReady.cons rfl (fun K hK => ?_) AllReady.nil
 go_simp
 refine hK _ _ ?_
 clear hK K
 refine wpAny_ready (rs := [7]) (by kernel_rfl) (by simp) ?_
 refine AllReady.cons rfl (fun K hK => ?_) AllReady.nil
 go_simp
 refine hK _ _ ?_
 clear hK K
 refine wpAny_done (by kernel_rfl) ?_ _
 go_wp2
 go_ret
 exact ⟨rfl, B2⟩
theorem dG (kd pl nn wa : Int) (a1 a2 : Option Addr) (l1 l2 c1 c2 : Nat) (w : World) (T : TypeId) (v : Value) (F : Nat) (bsm : Bool)
 (hq : ∀ u, Below w.heap.size w u -> Calls prog 248 #[rq kd pl nn wa a1 a2 l1 l2 c1 c2] u fun e u' => e = .returned (.iface T v) /\ Below u.heap.size u u')
 (hi : ∀ u, Below w.heap.size w u -> Calls prog 249 #[(.iface T v)] u fun e u' => e = .returned (.bool true) /\ Below u.heap.size u u')
 (hc : ∀ u, (callFunc F #[v]).run prog u = .ok (.enter F #[v]) u)
 (hm : ∀ u, (method 429 T v "loop.example/g00129/impl.req").run prog u = .ok (F, v) u)
 (hr : ∀ u, Below w.heap.size w u -> Calls prog F #[v] u fun e u' => ∃ x, e = .returned x /\ Below u.heap.size u u' /\ Calls prog 206 #[x, rq kd pl nn wa a1 a2 l1 l2 c1 c2] u' fun e u3 => e = .returned (.bool bsm) /\ Below u'.heap.size u' u3) :
 Calls prog 233 #[rq kd pl nn wa a1 a2 l1 l2 c1 c2] w fun e w' => e = .returned (bif bsm then .iface T v else .nilIface) /\ Below w.heap.size w w' := by
 obtain ⟨B0, X0⟩ := bx w #[.int .i64 kd, .int .i64 pl, .int .i64 nn, .slice a1 l1 c1, .slice a2 l2 c2, .int .i64 wa] 84
 obtain ⟨x0, x1, x2, x3, x4, x5⟩ := X0.six
 go_enter func233, ntmps233
 go_wp2_with fail
 refine (hq _ B0).mono ?_
 rintro e w1 ⟨rfl, b'⟩
 have B1 := ak B0 b'
 have Y := X0.below b'
 clear X0 x0 x1 x2 x3 x4 x5 hq
 go_upto_region 2 with fail
 refine wp_region_any (by kernel_rfl) ?_
 (try (change wpAny _ _ _ _ _ _ _ (World.drew _)))
 refine wpAny_ready (rs := [0]) (by kernel_rfl) (by simp) ?_
 refine AllReady.cons rfl (fun K hK => ?_) AllReady.nil
 go_simp
 refine hK _ _ ?_
 clear hK K
 refine wpAny_ready (rs := [1]) (by kernel_rfl) (by simp) ?_
 refine AllReady.cons rfl (fun K hK => ?_) AllReady.nil
 go_simp
 go_wp2_with (go_at_call 249; refine (hi _ (by first | exact B1 | exact B1.drew)).mono ?_; rintro e w2 ⟨rfl, b2'⟩; have B2 := ak (by first | exact B1 | exact B1.drew) b2'; have Y2 := (Y.below (Below.refl _ _).drew).below b2'; clear b2' Y hi)
 try (refine hK _ _ ?_; clear hK K)
 obtain ⟨y0, y1, y2, y3, y4, y5⟩ := Y2.six
 refine wpAny_ready (rs := [2]) (by kernel_rfl) (by simp) ?_
 refine AllReady.cons rfl (fun K hK => ?_) AllReady.nil
 go_simp
 refine hK _ _ ?_
 clear hK K
 refine wpAny_ready (rs := [3, 5]) (by kernel_rfl) (by simp) ?_
 refine AllReady.cons rfl (fun K hK => ?_) ?_
 ·skip
  go_simp
  refine hK _ _ ?_
  clear hK K
  refine wpAny_ready (rs := [4, 5]) (by kernel_rfl) (by simp) ?_
  refine AllReady.cons rfl (fun K hK => ?_) ?_
  ·skip
   go_simp
   go_wp2_with (refine (hr _ B2).mono ?_; rintro e w3 ⟨x, rfl, b3', hs⟩; have B3 := ak B2 b3'; have Y3 := Y2.below b3'; clear b3' Y2 y0 y1 y2 y3 y4 y5)
   try (refine hK _ _ ?_; clear hK K)
   obtain ⟨y0, y1, y2, y3, y4, y5⟩ := Y3.six
   refine wpAny_ready (rs := [5]) (by kernel_rfl) (by simp) ?_
   refine AllReady.cons rfl (fun K hK => ?_) AllReady.nil
   go_simp
   refine hK _ _ ?_
   clear hK K
   refine wpAny_ready (rs := [6]) (by kernel_rfl) (by simp) ?_
   refine AllReady.cons rfl (fun K hK => ?_) AllReady.nil
   go_simp
   go_wp2_with (go_at_call 206; refine hs.mono ?_; rintro e w4 ⟨rfl, b4'⟩; have B4 := ak B3 b4'; clear b4' hs)
   try (refine hK _ _ ?_; clear hK K)
   refine wpAny_ready (rs := [7]) (by kernel_rfl) (by simp) ?_
   refine AllReady.cons rfl (fun K hK => ?_) AllReady.nil
   go_simp
   refine hK _ _ ?_
   clear hK K
   refine wpAny_done (by kernel_rfl) ?_ _
   cases bsm
   ·go_wp2
    go_ret
    exact ⟨rfl, B4⟩
   go_wp2
   go_ret
   exact ⟨rfl, B4⟩
  refine AllReady.cons rfl (fun K hK => ?_) AllReady.nil
  go_simp
  refine hK _ _ ?_
  clear hK K
  refine wpAny_ready (rs := [4]) (by kernel_rfl) (by simp) ?_
  refine AllReady.cons rfl (fun K hK => ?_) AllReady.nil
  go_simp
  go_wp2_with (refine (hr _ B2).mono ?_; rintro e w3 ⟨x, rfl, b3', hs⟩; have B3 := ak B2 b3'; have Y3 := Y2.below b3'; clear b3' Y2 y0 y1 y2 y3 y4 y5)
  try (refine hK _ _ ?_; clear hK K)
  obtain ⟨y0, y1, y2, y3, y4, y5⟩ := Y3.six
  refine wpAny_ready (rs := [6]) (by kernel_rfl) (by simp) ?_
  refine AllReady.cons rfl (fun K hK => ?_) AllReady.nil
  go_simp
  go_wp2_with (go_at_call 206; refine hs.mono ?_; rintro e w4 ⟨rfl, b4'⟩; have B4 := ak B3 b4'; clear b4' hs)
  try (refine hK _ _ ?_; clear hK K)
  refine wpAny_ready (rs := [7]) (by kernel_rfl) (by simp) ?_
  refine AllReady.cons rfl (fun K hK => ?_) AllReady.nil
  go_simp
  refine hK _ _ ?_
  clear hK K
  refine wpAny_done (by kernel_rfl) ?_ _
  cases bsm
  ·go_wp2
   go_ret
   exact ⟨rfl, B4⟩
  go_wp2
  go_ret
  exact ⟨rfl, B4⟩
 refine AllReady.cons rfl (fun K hK => ?_) AllReady.nil
 go_simp
 refine hK _ _ ?_
 clear hK K
 refine wpAny_ready (rs := [3]) (by kernel_rfl) (by simp) ?_
 refine AllReady.cons rfl (fun K hK => ?_) AllReady.nil
 go_simp
 refine hK _ _ ?_
 clear hK K
 refine wpAny_ready (rs := [4]) (by kernel_rfl) (by simp) ?_
 refine AllReady.cons rfl (fun K hK => ?_) AllReady.nil
 go_simp
 go_wp2_with (refine (hr _ B2).mono ?_; rintro e w3 ⟨x, rfl, b3', hs⟩; have B3 := ak B2 b3'; have Y3 := Y2.below b3'; clear b3' Y2 y0 y1 y2 y3 y4 y5)
 try (refine hK _ _ ?_; clear hK K)
 obtain ⟨y0, y1, y2, y3, y4, y5⟩ := Y3.six
 refine wpAny_ready (rs := [6]) (by kernel_rfl) (by simp) ?_
 refine AllReady.cons rfl (fun K hK => ?_) AllReady.nil
 go_simp
 go_wp2_with (go_at_call 206; refine hs.mono ?_; rintro e w4 ⟨rfl, b4'⟩; have B4 := ak B3 b4'; clear b4' hs)
 try (refine hK _ _ ?_; clear hK K)
 refine wpAny_ready (rs := [7]) (by kernel_rfl) (by simp) ?_
 refine AllReady.cons rfl (fun K hK => ?_) AllReady.nil
 go_simp
 refine hK _ _ ?_
 clear hK K
 refine wpAny_done (by kernel_rfl) ?_ _
 cases bsm
 ·go_wp2
  go_ret
  exact ⟨rfl, B4⟩
 go_wp2
 go_ret
 exact ⟨rfl, B4⟩
section
variable (pl nn wa : Int) (a1 a2 : Option Addr) (l1 l2 c1 c2 : Nat) (ws : List Int) (bs : List Bool) (w : World) (h1 : l1 = ws.length) (h2 : l2 = bs.length) (s1 : aQ w a1 ws) (s2 : aW w a2 bs) (hl1 : ws.length <= 2000000) (hl2 : bs.length <= 2000000) (b : Bool)
include pl nn wa a1 a2 l1 l2 c1 c2 ws bs w h1 h2 s1 s2 hl1 hl2 b
theorem jx (hb : bv 1 pl nn wa ws l1 l2 = b) :
 Calls prog 233 #[rq 1 pl nn wa a1 a2 l1 l2 c1 c2] w fun e w' => e = .returned (bif b then .iface 291 (.agg #[.int .i64 pl, .int .i64 nn]) else .nilIface) /\ Below w.heap.size w w' := by
 subst hb
 rw [ve _ _ _ _ _ _ h1]
 rw [show (bM pl nn 2000 && (decide (wa = 0) && (decide (l1 = 0) && (decide (l2 = 0))))) = ((bM pl nn 2000) && (decide (wa = 0) && (decide (l1 = 0) && (decide (l2 = 0))))) from by simp only [Bool.and_assoc]]
 cases hI : (bM pl nn 2000)
 ·rw [Bool.false_and]
  exact cD 1 pl nn wa a1 a2 l1 l2 c1 c2 w _ (fun u hu => il pl nn wa a1 a2 l1 l2 c1 c2 u) (fun u hu => kC _ _ u _ hI)
 rw [Bool.true_and]
 refine dG 1 pl nn wa a1 a2 l1 l2 c1 c2 w _ _ 282 _ (fun u hu => il pl nn wa a1 a2 l1 l2 c1 c2 u) (fun u hu => kC _ _ u _ hI) (sL _) (ug _) (fun u hu => (vq _ _ u).mono ?_)
 rintro e u' ⟨rfl, bu⟩
 refine ⟨_, rfl, bu, ?_⟩
 have hu2 := ak hu bu
 by_cases hww : wa = 0
 rotate_left
 ·rw [decide_eq_false hww]
  exact db _ _ _ _ _ _ _ _ _ _ _ _ _ _ _ _ _ _ _ rfl (fun h => hww h.symm)
 rw [decide_eq_true hww, Bool.true_and]
 by_cases hll1 : l1 = 0
 rotate_left
 ·rw [decide_eq_false hll1]
  exact dU _ _ _ _ _ _ _ _ _ _ _ _ _ _ _ _ _ _ _ rfl hww (by omega) (by omega) (by omega)
 rw [decide_eq_true hll1, Bool.true_and]
 by_cases hll2 : l2 = 0
 rotate_left
 ·rw [decide_eq_false hll2]
  exact dp _ _ _ _ _ _ _ _ _ _ _ _ _ _ _ _ _ _ _ rfl hww [] rfl hll1 (.inl rfl) (.inl rfl) (by simp) (by omega) (by omega) (by omega)
 rw [decide_eq_true hll2]
 exact cR _ _ _ _ _ _ _ _ _ _ _ _ _ _ _ _ _ _ _ rfl hww [] rfl hll1 (.inl rfl) (.inl rfl) (by simp) [] rfl hll2 (.inl rfl) (.inl rfl) (by simp)
theorem jy (hb : bv 2 pl nn wa ws l1 l2 = b) :
 Calls prog 233 #[rq 2 pl nn wa a1 a2 l1 l2 c1 c2] w fun e w' => e = .returned (bif b then .iface 292 (.agg #[.int .i64 pl, .int .i64 nn]) else .nilIface) /\ Below w.heap.size w w' := by
 subst hb
 rw [vf _ _ _ _ _ _ h1]
 rw [show (bM pl nn 2000 && (decide (wa = 0) && (decide (l1 = 0) && (decide (l2 = 0))))) = ((bM pl nn 2000) && (decide (wa = 0) && (decide (l1 = 0) && (decide (l2 = 0))))) from by simp only [Bool.and_assoc]]
 cases hI : (bM pl nn 2000)
 ·rw [Bool.false_and]
  exact cD 2 pl nn wa a1 a2 l1 l2 c1 c2 w _ (fun u hu => im pl nn wa a1 a2 l1 l2 c1 c2 u) (fun u hu => kD _ _ u _ hI)
 rw [Bool.true_and]
 refine dG 2 pl nn wa a1 a2 l1 l2 c1 c2 w _ _ 283 _ (fun u hu => im pl nn wa a1 a2 l1 l2 c1 c2 u) (fun u hu => kD _ _ u _ hI) (sM _) (uh _) (fun u hu => (vr _ _ u).mono ?_)
 rintro e u' ⟨rfl, bu⟩
 refine ⟨_, rfl, bu, ?_⟩
 have hu2 := ak hu bu
 by_cases hww : wa = 0
 rotate_left
 ·rw [decide_eq_false hww]
  exact db _ _ _ _ _ _ _ _ _ _ _ _ _ _ _ _ _ _ _ rfl (fun h => hww h.symm)
 rw [decide_eq_true hww, Bool.true_and]
 by_cases hll1 : l1 = 0
 rotate_left
 ·rw [decide_eq_false hll1]
  exact dU _ _ _ _ _ _ _ _ _ _ _ _ _ _ _ _ _ _ _ rfl hww (by omega) (by omega) (by omega)
 rw [decide_eq_true hll1, Bool.true_and]
 by_cases hll2 : l2 = 0
 rotate_left
 ·rw [decide_eq_false hll2]
  exact dp _ _ _ _ _ _ _ _ _ _ _ _ _ _ _ _ _ _ _ rfl hww [] rfl hll1 (.inl rfl) (.inl rfl) (by simp) (by omega) (by omega) (by omega)
 rw [decide_eq_true hll2]
 exact cR _ _ _ _ _ _ _ _ _ _ _ _ _ _ _ _ _ _ _ rfl hww [] rfl hll1 (.inl rfl) (.inl rfl) (by simp) [] rfl hll2 (.inl rfl) (.inl rfl) (by simp)
theorem jz (hb : bv 3 pl nn wa ws l1 l2 = b) :
 Calls prog 233 #[rq 3 pl nn wa a1 a2 l1 l2 c1 c2] w fun e w' => e = .returned (bif b then .iface 293 (.agg #[.int .i64 pl, .int .i64 nn]) else .nilIface) /\ Below w.heap.size w w' := by
 subst hb
 rw [vg _ _ _ _ _ _ h1]
 rw [show (bM pl nn 125 && (decide (wa = 0) && (decide (l1 = 0) && (decide (l2 = 0))))) = ((bM pl nn 125) && (decide (wa = 0) && (decide (l1 = 0) && (decide (l2 = 0))))) from by simp only [Bool.and_assoc]]
 cases hI : (bM pl nn 125)
 ·rw [Bool.false_and]
  exact cD 3 pl nn wa a1 a2 l1 l2 c1 c2 w _ (fun u hu => io pl nn wa a1 a2 l1 l2 c1 c2 u) (fun u hu => kE _ _ u _ hI)
 rw [Bool.true_and]
 refine dG 3 pl nn wa a1 a2 l1 l2 c1 c2 w _ _ 284 _ (fun u hu => io pl nn wa a1 a2 l1 l2 c1 c2 u) (fun u hu => kE _ _ u _ hI) (sN _) (ui _) (fun u hu => (vt _ _ u).mono ?_)
 rintro e u' ⟨rfl, bu⟩
 refine ⟨_, rfl, bu, ?_⟩
 have hu2 := ak hu bu
 by_cases hww : wa = 0
 rotate_left
 ·rw [decide_eq_false hww]
  exact db _ _ _ _ _ _ _ _ _ _ _ _ _ _ _ _ _ _ _ rfl (fun h => hww h.symm)
 rw [decide_eq_true hww, Bool.true_and]
 by_cases hll1 : l1 = 0
 rotate_left
 ·rw [decide_eq_false hll1]
  exact dU _ _ _ _ _ _ _ _ _ _ _ _ _ _ _ _ _ _ _ rfl hww (by omega) (by omega) (by omega)
 rw [decide_eq_true hll1, Bool.true_and]
 by_cases hll2 : l2 = 0
 rotate_left
 ·rw [decide_eq_false hll2]
  exact dp _ _ _ _ _ _ _ _ _ _ _ _ _ _ _ _ _ _ _ rfl hww [] rfl hll1 (.inl rfl) (.inl rfl) (by simp) (by omega) (by omega) (by omega)
 rw [decide_eq_true hll2]
 exact cR _ _ _ _ _ _ _ _ _ _ _ _ _ _ _ _ _ _ _ rfl hww [] rfl hll1 (.inl rfl) (.inl rfl) (by simp) [] rfl hll2 (.inl rfl) (.inl rfl) (by simp)
theorem jA (hb : bv 4 pl nn wa ws l1 l2 = b) :
 Calls prog 233 #[rq 4 pl nn wa a1 a2 l1 l2 c1 c2] w fun e w' => e = .returned (bif b then .iface 294 (.agg #[.int .i64 pl, .int .i64 nn]) else .nilIface) /\ Below w.heap.size w w' := by
 subst hb
 rw [vh _ _ _ _ _ _ h1]
 rw [show (bM pl nn 125 && (decide (wa = 0) && (decide (l1 = 0) && (decide (l2 = 0))))) = ((bM pl nn 125) && (decide (wa = 0) && (decide (l1 = 0) && (decide (l2 = 0))))) from by simp only [Bool.and_assoc]]
 cases hI : (bM pl nn 125)
 ·rw [Bool.false_and]
  exact cD 4 pl nn wa a1 a2 l1 l2 c1 c2 w _ (fun u hu => iq pl nn wa a1 a2 l1 l2 c1 c2 u) (fun u hu => kF _ _ u _ hI)
 rw [Bool.true_and]
 refine dG 4 pl nn wa a1 a2 l1 l2 c1 c2 w _ _ 285 _ (fun u hu => iq pl nn wa a1 a2 l1 l2 c1 c2 u) (fun u hu => kF _ _ u _ hI) (sO _) (uj _) (fun u hu => (vu _ _ u).mono ?_)
 rintro e u' ⟨rfl, bu⟩
 refine ⟨_, rfl, bu, ?_⟩
 have hu2 := ak hu bu
 by_cases hww : wa = 0
 rotate_left
 ·rw [decide_eq_false hww]
  exact db _ _ _ _ _ _ _ _ _ _ _ _ _ _ _ _ _ _ _ rfl (fun h => hww h.symm)
 rw [decide_eq_true hww, Bool.true_and]
 by_cases hll1 : l1 = 0
 rotate_left
 ·rw [decide_eq_false hll1]
  exact dU _ _ _ _ _ _ _ _ _ _ _ _ _ _ _ _ _ _ _ rfl hww (by omega) (by omega) (by omega)
 rw [decide_eq_true hll1, Bool.true_and]
 by_cases hll2 : l2 = 0
 rotate_left
 ·rw [decide_eq_false hll2]
  exact dp _ _ _ _ _ _ _ _ _ _ _ _ _ _ _ _ _ _ _ rfl hww [] rfl hll1 (.inl rfl) (.inl rfl) (by simp) (by omega) (by omega) (by omega)
 rw [decide_eq_true hll2]
 exact cR _ _ _ _ _ _ _ _ _ _ _ _ _ _ _ _ _ _ _ rfl hww [] rfl hll1 (.inl rfl) (.inl rfl) (by simp) [] rfl hll2 (.inl rfl) (.inl rfl) (by simp)
theorem jB (hb : bv 5 pl nn wa ws l1 l2 = b) :
 Calls prog 233 #[rq 5 pl nn wa a1 a2 l1 l2 c1 c2] w fun e w' => e = .returned (bif b then .iface 296 (.agg #[.int .i64 pl, .bool (bs.getD 0 false)]) else .nilIface) /\ Below w.heap.size w w' := by
 subst hb
 rw [vi _ _ _ _ _ _ h1]
 by_cases hL : l2 = 1
 rotate_left
 ·rw [decide_eq_false hL]
  exact cD 5 pl nn wa a1 a2 l1 l2 c1 c2 w .nilIface (fun u hu => ll pl nn wa a1 a2 l1 l2 c1 c2 u (by simp; omega)) (fun u hu => fT u)
 rw [decide_eq_true hL, Bool.true_and]
 rw [show (aw pl 0 65535 && (decide (nn = 0) && (decide (wa = 0) && (decide (l1 = 0))))) = ((aw pl 0 65535) && (decide (nn = 0) && (decide (wa = 0) && (decide (l1 = 0))))) from by simp only [Bool.and_assoc]]
 cases hI : (aw pl 0 65535)
 ·rw [Bool.false_and]
  exact cD 5 pl nn wa a1 a2 l1 l2 c1 c2 w _ (fun u hu => ir pl nn wa a1 a2 l1 l2 c1 c2 u bs h2 (by omega) (s2.below hu)) (fun u hu => kG _ _ u _ hI)
 rw [Bool.true_and]
 refine dG 5 pl nn wa a1 a2 l1 l2 c1 c2 w _ _ 286 _ (fun u hu => ir pl nn wa a1 a2 l1 l2 c1 c2 u bs h2 (by omega) (s2.below hu)) (fun u hu => kG _ _ u _ hI) (sP _) (uk _) (fun u hu => (vw _ _ u).mono ?_)
 rintro e u' ⟨rfl, n3, bu⟩
 refine ⟨_, rfl, bu, ?_⟩
 have hu2 := ak hu bu
 by_cases hnn : nn = 0
 rotate_left
 ·rw [decide_eq_false hnn]
  exact eI _ _ _ _ _ _ _ _ _ _ _ _ _ _ _ _ _ _ _ (fun h => hnn h.symm)
 rw [decide_eq_true hnn, Bool.true_and]
 by_cases hww : wa = 0
 rotate_left
 ·rw [decide_eq_false hww]
  exact db _ _ _ _ _ _ _ _ _ _ _ _ _ _ _ _ _ _ _ hnn (fun h => hww h.symm)
 rw [decide_eq_true hww, Bool.true_and]
 by_cases hll1 : l1 = 0
 rotate_left
 ·rw [decide_eq_false hll1]
  exact dU _ _ _ _ _ _ _ _ _ _ _ _ _ _ _ _ _ _ _ hnn hww (by omega) (by omega) (by omega)
 rw [decide_eq_true hll1]
 exact cR _ _ _ _ _ _ _ _ _ _ _ _ _ _ _ _ _ _ _ hnn hww [] rfl hll1 (.inl rfl) (.inl rfl) (by simp) [bs.getD 0 false] rfl hL n3 (by have := s2.below hu2; rw [qJ (bs := bs) (by omega)] at this; exact this) (by simp)
theorem jC (hb : bv 6 pl nn wa ws l1 l2 = b) :
 Calls prog 233 #[rq 6 pl nn wa a1 a2 l1 l2 c1 c2] w fun e w' => e = .returned (bif b then .iface 298 (.agg #[.int .i64 pl, .int .i64 (ws.getD 0 0)]) else .nilIface) /\ Below w.heap.size w w' := by
 subst hb
 rw [vj _ _ _ _ _ _ h1]
 by_cases hL : l1 = 1
 rotate_left
 ·rw [decide_eq_false hL]
  exact cD 6 pl nn wa a1 a2 l1 l2 c1 c2 w .nilIface (fun u hu => lm pl nn wa a1 a2 l1 l2 c1 c2 u (by simp; omega)) (fun u hu => fT u)
 rw [decide_eq_true hL, Bool.true_and]
 rw [show (aw pl 0 65535 && (aw (ws.getD 0 0) 0 65535 && (decide (nn = 0) && (decide (wa = 0) && (decide (l2 = 0)))))) = ((aw pl 0 65535 && aw (ws.getD 0 0) 0 65535) && (decide (nn = 0) && (decide (wa = 0) && (decide (l2 = 0))))) from by simp only [Bool.and_assoc]]
 cases hI : (aw pl 0 65535 && aw (ws.getD 0 0) 0 65535)
 ·rw [Bool.false_and]
  exact cD 6 pl nn wa a1 a2 l1 l2 c1 c2 w _ (fun u hu => it pl nn wa a1 a2 l1 l2 c1 c2 u ws h1 (by omega) (s1.below hu)) (fun u hu => kH _ _ u _ hI)
 rw [Bool.true_and]
 refine dG 6 pl nn wa a1 a2 l1 l2 c1 c2 w _ _ 287 _ (fun u hu => it pl nn wa a1 a2 l1 l2 c1 c2 u ws h1 (by omega) (s1.below hu)) (fun u hu => kH _ _ u _ hI) (sQ _) (ul _) (fun u hu => (vx _ _ u).mono ?_)
 rintro e u' ⟨rfl, n3, bu⟩
 refine ⟨_, rfl, bu, ?_⟩
 have hu2 := ak hu bu
 by_cases hnn : nn = 0
 rotate_left
 ·rw [decide_eq_false hnn]
  exact eI _ _ _ _ _ _ _ _ _ _ _ _ _ _ _ _ _ _ _ (fun h => hnn h.symm)
 rw [decide_eq_true hnn, Bool.true_and]
 by_cases hww : wa = 0
 rotate_left
 ·rw [decide_eq_false hww]
  exact db _ _ _ _ _ _ _ _ _ _ _ _ _ _ _ _ _ _ _ hnn (fun h => hww h.symm)
 rw [decide_eq_true hww, Bool.true_and]
 by_cases hll2 : l2 = 0
 rotate_left
 ·rw [decide_eq_false hll2]
  exact dp _ _ _ _ _ _ _ _ _ _ _ _ _ _ _ _ _ _ _ hnn hww [ws.getD 0 0] rfl hL n3 (by have := s1.below hu2; rw [lQ (ws := ws) (by omega)] at this; exact this) (by simp) (by omega) (by omega) (by omega)
 rw [decide_eq_true hll2]
 exact cR _ _ _ _ _ _ _ _ _ _ _ _ _ _ _ _ _ _ _ hnn hww [ws.getD 0 0] rfl hL n3 (by have := s1.below hu2; rw [lQ (ws := ws) (by omega)] at this; exact this) (by simp) [] rfl hll2 (.inl rfl) (.inl rfl) (by simp)
theorem iX (hb : bv 15 pl nn wa ws l1 l2 = b) :
 Calls prog 233 #[rq 15 pl nn wa a1 a2 l1 l2 c1 c2] w fun e w' => e = .returned (bif b then .iface 300 (.agg #[.int .i64 pl, .slice a2 l2 c2]) else .nilIface) /\ Below w.heap.size w w' := by
 subst hb
 rw [um _ _ _ _ _ _ h1]
 rw [show (bM pl (l2 : Int) 1968 && (decide (nn = 0) && (decide (wa = 0) && (decide (l1 = 0))))) = ((bM pl (l2 : Int) 1968) && (decide (nn = 0) && (decide (wa = 0) && (decide (l1 = 0))))) from by simp only [Bool.and_assoc]]
 cases hI : (bM pl (l2 : Int) 1968)
 ·rw [Bool.false_and]
  exact cD 15 pl nn wa a1 a2 l1 l2 c1 c2 w _ (fun u hu => gW pl nn wa a1 a2 l1 l2 c1 c2 u) (fun u hu => jt _ _ _ _ u _ hI)
 rw [Bool.true_and]
 refine dG 15 pl nn wa a1 a2 l1 l2 c1 c2 w _ _ 288 _ (fun u hu => gW pl nn wa a1 a2 l1 l2 c1 c2 u) (fun u hu => jt _ _ _ _ u _ hI) (qD _) (sR _) (fun u hu => (u0 _ _ _ _ u).mono ?_)
 rintro e u' ⟨rfl, bu⟩
 refine ⟨_, rfl, bu, ?_⟩
 have hu2 := ak hu bu
 by_cases hnn : nn = 0
 rotate_left
 ·rw [decide_eq_false hnn]
  exact eI _ _ _ _ _ _ _ _ _ _ _ _ _ _ _ _ _ _ _ (fun h => hnn h.symm)
 rw [decide_eq_true hnn, Bool.true_and]
 by_cases hww : wa = 0
 rotate_left
 ·rw [decide_eq_false hww]
  exact db _ _ _ _ _ _ _ _ _ _ _ _ _ _ _ _ _ _ _ hnn (fun h => hww h.symm)
 rw [decide_eq_true hww, Bool.true_and]
 by_cases hll1 : l1 = 0
 rotate_left
 ·rw [decide_eq_false hll1]
  exact dU _ _ _ _ _ _ _ _ _ _ _ _ _ _ _ _ _ _ _ hnn hww (by omega) (by omega) (by omega)
 rw [decide_eq_true hll1]
 exact cR _ _ _ _ _ _ _ _ _ _ _ _ _ _ _ _ _ _ _ hnn hww [] rfl hll1 (.inl rfl) (.inl rfl) (by simp) bs h2 h2 (s2.below hu2) (s2.below hu2) hl2
theorem iY (hb : bv 16 pl nn wa ws l1 l2 = b) :
 Calls prog 233 #[rq 16 pl nn wa a1 a2 l1 l2 c1 c2] w fun e w' => e = .returned (bif b then .iface 302 (.agg #[.int .i64 pl, .slice a1 l1 c1]) else .nilIface) /\ Below w.heap.size w w' := by
 subst hb
 rw [uo _ _ _ _ _ _ h1]
 rw [show (bM pl (l1 : Int) 123 && (bN ws && (decide (nn = 0) && (decide (wa = 0) && (decide (l2 = 0)))))) = ((bM pl (l1 : Int) 123 && bN ws) && (decide (nn = 0) && (decide (wa = 0) && (decide (l2 = 0))))) from by simp only [Bool.and_assoc]]
 cases hI : (bM pl (l1 : Int) 123 && bN ws)
 ·rw [Bool.false_and]
  exact cD 16 pl nn wa a1 a2 l1 l2 c1 c2 w _ (fun u hu => gX pl nn wa a1 a2 l1 l2 c1 c2 u) (fun u hu => ju _ _ _ _ ws u h1 (s1.below hu) hl1 _ hI)
 rw [Bool.true_and]
 refine dG 16 pl nn wa a1 a2 l1 l2 c1 c2 w _ _ 289 _ (fun u hu => gX pl nn wa a1 a2 l1 l2 c1 c2 u) (fun u hu => ju _ _ _ _ ws u h1 (s1.below hu) hl1 _ hI) (qE _) (sS _) (fun u hu => (u1 _ _ _ _ u).mono ?_)
 rintro e u' ⟨rfl, bu⟩
 refine ⟨_, rfl, bu, ?_⟩
 have hu2 := ak hu bu
 by_cases hnn : nn = 0
 rotate_left
 ·rw [decide_eq_false hnn]
  exact eI _ _ _ _ _ _ _ _ _ _ _ _ _ _ _ _ _ _ _ (fun h => hnn h.symm)
 rw [decide_eq_true hnn, Bool.true_and]
 by_cases hww : wa = 0
 rotate_left
 ·rw [decide_eq_false hww]
  exact db _ _ _ _ _ _ _ _ _ _ _ _ _ _ _ _ _ _ _ hnn (fun h => hww h.symm)
 rw [decide_eq_true hww, Bool.true_and]
 by_cases hll2 : l2 = 0
 rotate_left
 ·rw [decide_eq_false hll2]
  exact dp _ _ _ _ _ _ _ _ _ _ _ _ _ _ _ _ _ _ _ hnn hww ws h1 h1 (s1.below hu2) (s1.below hu2) hl1 (by omega) (by omega) (by omega)
 rw [decide_eq_true hll2]
 exact cR _ _ _ _ _ _ _ _ _ _ _ _ _ _ _ _ _ _ _ hnn hww ws h1 h1 (s1.below hu2) (s1.below hu2) hl1 [] rfl hll2 (.inl rfl) (.inl rfl) (by simp)
theorem iZ (hb : bv 22 pl nn wa ws l1 l2 = b) :
 Calls prog 233 #[rq 22 pl nn wa a1 a2 l1 l2 c1 c2] w fun e w' => e = .returned (bif b then .iface 304 (.agg #[.int .i64 pl, .int .i64 (ws.getD 0 0), .int .i64 (ws.getD 1 0)]) else .nilIface) /\ Below w.heap.size w w' := by
 subst hb
 rw [uq _ _ _ _ _ _ h1]
 by_cases hL : l1 = 2
 rotate_left
 ·rw [decide_eq_false hL]
  exact cD 22 pl nn wa a1 a2 l1 l2 c1 c2 w .nilIface (fun u hu => kh pl nn wa a1 a2 l1 l2 c1 c2 u (by simp; omega)) (fun u hu => fT u)
 rw [decide_eq_true hL, Bool.true_and]
 rw [show (aw pl 0 65535 && (aw (ws.getD 0 0) 0 65535 && (aw (ws.getD 1 0) 0 65535 && (decide (nn = 0) && (decide (wa = 0) && (decide (l2 = 0))))))) = ((aw pl 0 65535 && (aw (ws.getD 0 0) 0 65535 && aw (ws.getD 1 0) 0 65535)) && (decide (nn = 0) && (decide (wa = 0) && (decide (l2 = 0))))) from by simp only [Bool.and_assoc]]
 cases hI : (aw pl 0 65535 && (aw (ws.getD 0 0) 0 65535 && aw (ws.getD 1 0) 0 65535))
 ·rw [Bool.false_and]
  exact cD 22 pl nn wa a1 a2 l1 l2 c1 c2 w _ (fun u hu => gZ pl nn wa a1 a2 l1 l2 c1 c2 u ws h1 (by omega) (s1.below hu)) (fun u hu => jv _ _ _ u _ hI)
 rw [Bool.true_and]
 refine dG 22 pl nn wa a1 a2 l1 l2 c1 c2 w _ _ 290 _ (fun u hu => gZ pl nn wa a1 a2 l1 l2 c1 c2 u ws h1 (by omega) (s1.below hu)) (fun u hu => jv _ _ _ u _ hI) (qF _) (sU _) (fun u hu => (u2 _ _ _ u).mono ?_)
 rintro e u' ⟨rfl, n3, bu⟩
 refine ⟨_, rfl, bu, ?_⟩
 have hu2 := ak hu bu
 by_cases hnn : nn = 0
 rotate_left
 ·rw [decide_eq_false hnn]
  exact eI _ _ _ _ _ _ _ _ _ _ _ _ _ _ _ _ _ _ _ (fun h => hnn h.symm)
 rw [decide_eq_true hnn, Bool.true_and]
 by_cases hww : wa = 0
 rotate_left
 ·rw [decide_eq_false hww]
  exact db _ _ _ _ _ _ _ _ _ _ _ _ _ _ _ _ _ _ _ hnn (fun h => hww h.symm)
 rw [decide_eq_true hww, Bool.true_and]
 by_cases hll2 : l2 = 0
 rotate_left
 ·rw [decide_eq_false hll2]
  exact dp _ _ _ _ _ _ _ _ _ _ _ _ _ _ _ _ _ _ _ hnn hww [ws.getD 0 0, ws.getD 1 0] rfl hL n3 (by have := s1.below hu2; rw [lR (ws := ws) (by omega)] at this; exact this) (by simp) (by omega) (by omega) (by omega)
 rw [decide_eq_true hll2]
 exact cR _ _ _ _ _ _ _ _ _ _ _ _ _ _ _ _ _ _ _ hnn hww [ws.getD 0 0, ws.getD 1 0] rfl hL n3 (by have := s1.below hu2; rw [lR (ws := ws) (by omega)] at this; exact this) (by simp) [] rfl hll2 (.inl rfl) (.inl rfl) (by simp)
theorem ja (hb : bv 23 pl nn wa ws l1 l2 = b) :
 Calls prog 233 #[rq 23 pl nn wa a1 a2 l1 l2 c1 c2] w fun e w' => e = .returned (bif b then .iface 306 (.agg #[.int .i64 pl, .int .i64 nn, .int .i64 wa, .slice a1 l1 c1]) else .nilIface) /\ Below w.heap.size w w' := by
 subst hb
 rw [ur _ _ _ _ _ _ h1]
 rw [show (bM pl nn 125 && (bM wa (l1 : Int) 121 && (bN ws && (decide (l2 = 0))))) = ((bM pl nn 125 && (bM wa (l1 : Int) 121 && bN ws)) && (decide (l2 = 0))) from by simp only [Bool.and_assoc]]
 cases hI : (bM pl nn 125 && (bM wa (l1 : Int) 121 && bN ws))
 ·rw [Bool.false_and]
  exact cD 23 pl nn wa a1 a2 l1 l2 c1 c2 w _ (fun u hu => gY pl nn wa a1 a2 l1 l2 c1 c2 u) (fun u hu => jw _ _ _ _ _ _ ws u h1 (s1.below hu) hl1 _ hI)
 rw [Bool.true_and]
 refine dG 23 pl nn wa a1 a2 l1 l2 c1 c2 w _ _ 291 _ (fun u hu => gY pl nn wa a1 a2 l1 l2 c1 c2 u) (fun u hu => jw _ _ _ _ _ _ ws u h1 (s1.below hu) hl1 _ hI) (qG _) (sV _) (fun u hu => (u4 _ _ _ _ _ _ u).mono ?_)
 rintro e u' ⟨rfl, bu⟩
 refine ⟨_, rfl, bu, ?_⟩
 have hu2 := ak hu bu
 by_cases hll2 : l2 = 0
 rotate_left
 ·rw [decide_eq_false hll2]
  exact dp _ _ _ _ _ _ _ _ _ _ _ _ _ _ _ _ _ _ _ rfl rfl ws h1 h1 (s1.below hu2) (s1.below hu2) hl1 (by omega) (by omega) (by omega)
 rw [decide_eq_true hll2]
 exact cR _ _ _ _ _ _ _ _ _ _ _ _ _ _ _ _ _ _ _ rfl rfl ws h1 h1 (s1.below hu2) (s1.below hu2) hl1 [] rfl hll2 (.inl rfl) (.inl rfl) (by simp)
end
theorem iu (kd : Int) (pl nn wa : Int) (a1 a2 : Option Addr) (l1 l2 c1 c2 : Nat) (ws : List Int) (bs : List Bool) (w : World) (h1 : l1 = ws.length) (h2 : l2 = bs.length) (s1 : aQ w a1 ws) (s2 : aW w a2 bs) (hl1 : ws.length <= 2000000) (hl2 : bs.length <= 2000000) (k1 : ¬ kd = 1) (k2 : ¬ kd = 2) (k3 : ¬ kd = 3) (k4 : ¬ kd = 4) (k5 : ¬ kd = 5) (k6 : ¬ kd = 6) (k15 : ¬ kd = 15) (k16 : ¬ kd = 16) (k22 : ¬ kd = 22) (k23 : ¬ kd = 23) :
 Calls prog 233 #[rq kd pl nn wa a1 a2 l1 l2 c1 c2] w fun e w' => e = .returned .nilIface /\ Below w.heap.size w w' :=
 cD kd pl nn wa a1 a2 l1 l2 c1 c2 w .nilIface (fun u hu => js kd pl nn wa a1 a2 l1 l2 c1 c2 u k1 k2 k3 k4 k5 k6 k15 k16 k22 k23) (fun u hu => fT u)
abbrev WfQ (kd pl nn wa : Int) (ws : List Int) : Prop := (∀ n ∈ ws, -9223372036854775808 <= n /\ n <= 9223372036854775807) /\ (Lit.int .i64 kd).wf = true /\ (Lit.int .i64 pl).wf = true /\ (Lit.int .i64 nn).wf = true /\ (Lit.int .i64 wa).wf = true
theorem gk (kd pl nn wa : Int) (a1 a2 : Option Addr) (l1 l2 c1 c2 : Nat) (ws : List Int) (bs : List Bool) (w : World) (h1 : l1 = ws.length) (h2 : l2 = bs.length) (s1 : aQ w a1 ws) (s2 : aW w a2 bs) (hl1 : ws.length <= 2000000) (hl2 : bs.length <= 2000000) :
 Calls prog 119 #[rq kd pl nn wa a1 a2 l1 l2 c1 c2] w fun e w' => e = .returned (.bool (bv kd pl nn wa ws l1 l2)) /\ Below w.heap.size w w' :=
 lk kd pl nn wa a1 a2 l1 l2 c1 c2 ws w h1 s1 hl1 (by omega) _ rfl
theorem us (T : TypeId) (v : Value) (w : World) : (binOp .neq 278 (.iface T v) .nilIface).run prog w = .ok (.bool true) w := by kernel_rfl
theorem sW (w : World) : (binOp .neq 278 .nilIface .nilIface).run prog w = .ok (.bool false) w := by kernel_rfl
theorem cb (kd pl nn wa : Int) (a1 a2 : Option Addr) (l1 l2 c1 c2 : Nat) (w : World) (b : Bool) (T : TypeId) (v : Value)
 (hq : ∀ u, Below w.heap.size w u -> Calls prog 233 #[rq kd pl nn wa a1 a2 l1 l2 c1 c2] u fun e u' => e = .returned (bif b then .iface T v else .nilIface) /\ Below u.heap.size u u') :
 Calls prog 200 #[rq kd pl nn wa a1 a2 l1 l2 c1 c2] w fun e w' => e = .returned (.bool b) /\ Below w.heap.size w w' := by
 have B0 := ac w (.cells #[.int .i64 kd, .int .i64 pl, .int .i64 nn, .slice a1 l1 c1, .slice a2 l2 c2, .int .i64 wa] 84)
 have q1 := us T v
 have q2 := sW
 go_enter func200, ntmps200
 go_wp2_with fail
 refine (hq _ B0).mono ?_
 rintro e w1 ⟨rfl, b'⟩
 have B1 := ak B0 b'
 clear hq
 cases b
 ·simp only [cond_false]
  go_wp2
  go_ret
  exact ⟨rfl, B1⟩
 simp only [cond_true]
 go_wp2
 go_ret
 exact ⟨rfl, B1⟩
theorem jb {kd pl nn wa : Int} {ws : List Int} {l1 l2 : Nat} (h : bv kd pl nn wa ws l1 l2 = true) : kd = 1 \/ kd = 2 \/ kd = 3 \/ kd = 4 \/ kd = 5 \/ kd = 6 \/ kd = 15 \/ kd = 16 \/ kd = 22 \/ kd = 23 := by
 by_cases hk : kd = 1 \/ kd = 2 \/ kd = 3 \/ kd = 4 \/ kd = 5 \/ kd = 6 \/ kd = 15 \/ kd = 16 \/ kd = 22 \/ kd = 23
 ·exact hk
 have e : bv kd pl nn wa ws l1 l2 = false := by
  have k1 : ¬ kd = 1 := by omega
  have k2 : ¬ kd = 2 := by omega
  have k3 : ¬ kd = 3 := by omega
  have k4 : ¬ kd = 4 := by omega
  have k5 : ¬ kd = 5 := by omega
  have k6 : ¬ kd = 6 := by omega
  have k7 : ¬ kd = 15 := by omega
  have k8 : ¬ kd = 16 := by omega
  have k9 : ¬ kd = 22 := by omega
  have k10 : ¬ kd = 23 := by omega
  simp [bv, dw, k1, k2, k3, k4, k5, k6, k7, k8, k9, k10]
 rw [e] at h
 cases h
theorem gm (kd pl nn wa : Int) (a1 a2 : Option Addr) (l1 l2 c1 c2 : Nat) (ws : List Int) (bs : List Bool) (w : World) (h1 : l1 = ws.length) (h2 : l2 = bs.length) (s1 : aQ w a1 ws) (s2 : aW w a2 bs) (hl1 : ws.length <= 2000000) (hl2 : bs.length <= 2000000) :
 Calls prog 200 #[rq kd pl nn wa a1 a2 l1 l2 c1 c2] w fun e w' => e = .returned (.bool (bv kd pl nn wa ws l1 l2)) /\ Below w.heap.size w w' := by
 by_cases hk : kd = 1 \/ kd = 2 \/ kd = 3 \/ kd = 4 \/ kd = 5 \/ kd = 6 \/ kd = 15 \/ kd = 16 \/ kd = 22 \/ kd = 23
 ·obtain rfl | rfl | rfl | rfl | rfl | rfl | rfl | rfl | rfl | rfl := hk
  ·exact cb 1 pl nn wa a1 a2 l1 l2 c1 c2 w _ _ _ (fun u hu => jx pl nn wa a1 a2 l1 l2 c1 c2 ws bs u h1 h2 (s1.below hu) (s2.below hu) hl1 hl2 _ rfl)
  ·exact cb 2 pl nn wa a1 a2 l1 l2 c1 c2 w _ _ _ (fun u hu => jy pl nn wa a1 a2 l1 l2 c1 c2 ws bs u h1 h2 (s1.below hu) (s2.below hu) hl1 hl2 _ rfl)
  ·exact cb 3 pl nn wa a1 a2 l1 l2 c1 c2 w _ _ _ (fun u hu => jz pl nn wa a1 a2 l1 l2 c1 c2 ws bs u h1 h2 (s1.below hu) (s2.below hu) hl1 hl2 _ rfl)
  ·exact cb 4 pl nn wa a1 a2 l1 l2 c1 c2 w _ _ _ (fun u hu => jA pl nn wa a1 a2 l1 l2 c1 c2 ws bs u h1 h2 (s1.below hu) (s2.below hu) hl1 hl2 _ rfl)
  ·exact cb 5 pl nn wa a1 a2 l1 l2 c1 c2 w _ _ _ (fun u hu => jB pl nn wa a1 a2 l1 l2 c1 c2 ws bs u h1 h2 (s1.below hu) (s2.below hu) hl1 hl2 _ rfl)
  ·exact cb 6 pl nn wa a1 a2 l1 l2 c1 c2 w _ _ _ (fun u hu => jC pl nn wa a1 a2 l1 l2 c1 c2 ws bs u h1 h2 (s1.below hu) (s2.below hu) hl1 hl2 _ rfl)
  ·exact cb 15 pl nn wa a1 a2 l1 l2 c1 c2 w _ _ _ (fun u hu => iX pl nn wa a1 a2 l1 l2 c1 c2 ws bs u h1 h2 (s1.below hu) (s2.below hu) hl1 hl2 _ rfl)
  ·exact cb 16 pl nn wa a1 a2 l1 l2 c1 c2 w _ _ _ (fun u hu => iY pl nn wa a1 a2 l1 l2 c1 c2 ws bs u h1 h2 (s1.below hu) (s2.below hu) hl1 hl2 _ rfl)
  ·exact cb 22 pl nn wa a1 a2 l1 l2 c1 c2 w _ _ _ (fun u hu => iZ pl nn wa a1 a2 l1 l2 c1 c2 ws bs u h1 h2 (s1.below hu) (s2.below hu) hl1 hl2 _ rfl)
  exact cb 23 pl nn wa a1 a2 l1 l2 c1 c2 w _ _ _ (fun u hu => ja pl nn wa a1 a2 l1 l2 c1 c2 ws bs u h1 h2 (s1.below hu) (s2.below hu) hl1 hl2 _ rfl)
 have e : bv kd pl nn wa ws l1 l2 = false := by
  cases e : bv kd pl nn wa ws l1 l2
  ·rfl
  exact absurd (jb e) hk
 rw [e]
 exact cb kd pl nn wa a1 a2 l1 l2 c1 c2 w false 0 .nilIface (fun u hu => iu kd pl nn wa a1 a2 l1 l2 c1 c2 ws bs u h1 h2 (s1.below hu) (s2.below hu) hl1 hl2 (by omega) (by omega) (by omega) (by omega) (by omega) (by omega) (by omega) (by omega) (by omega) (by omega))
def vH (kd nn : Int) (l1 l2 : Nat) : Int := if kd = 5 \/ kd = 15 then l2 else if kd = 6 \/ kd = 22 then 1 else if kd = 16 then l1 else nn
def vI (kd : Int) : Int := if kd = 1 \/ kd = 5 \/ kd = 15 then 0 else if kd = 2 then 1 else if kd = 4 then 3 else 2
def spcV (b : Bool) (kd pl nn : Int) (l1 l2 : Nat) : Value := bif b then .tuple #[.int .i64 (vI kd), .int .i64 pl, .int .i64 (vH kd nn l1 l2)] else .tuple #[.int .i64 (-1), .int .i64 0, .int .i64 0]
def wb (x : Int) : List Int := [x / 256 % 256, x % 256]
def wg : List Int -> List Int
 | [] => []
 | x :: r => x / 256 % 256 :: x % 256 :: wg r
def Nw (w w' : World) (e : Ending) (zs : List Int) : Prop :=
 ∃ g c n, e = .returned (.slice (some ⟨g, 0, none⟩) n c) /\ n = zs.length /\ vX w' w.heap.size (.slice (some ⟨g, 0, none⟩) n c) zs /\ Below w.heap.size w w'
def packL (bs : List Bool) : List Int := (List.range ((bs.length + 7) / 8)).map (fun i => pv bs bs.length i)
def vy (zs : List Int) (i : Nat) : Int := if i + 2 <= zs.length then zs.getD i 0 * 256 + zs.getD (i + 1) 0 else 0
def wsF (zs : List Int) (f : Nat) : List Int := (List.range ((zs.length - f) / 2)).map (fun k => vy zs (f + 2 * k))
def wsT (zs : List Int) (f k : Nat) : List Int := (List.range k).map (fun k => vy zs (f + 2 * k))
def NwI (w w' : World) (e : Ending) (zs : List Int) : Prop := ∃ a c n, e = .returned (.slice a n c) /\ n = zs.length /\ bT w' w.heap.size (.slice a n c) zs /\ Below w.heap.size w w'
def cK (k : Int) : Bool := decide (k = 1 \/ k = 2 \/ k = 3 \/ k = 4 \/ k = 5 \/ k = 6 \/ k = 15 \/ k = 16 \/ k = 22 \/ k = 23)
theorem gH (k : Int) (w : World) (b : Bool) (hb : cK k = b) : Calls prog 260 #[.int .i64 k] w fun e w' => e = .returned (.bool b) /\ w' = w := by
 by_cases hk : k = 1 \/ k = 2 \/ k = 3 \/ k = 4 \/ k = 5 \/ k = 6 \/ k = 15 \/ k = 16 \/ k = 22 \/ k = 23
 ·have e : cK k = true := decide_eq_true hk
  rw [e] at hb
  subst hb
  clear e
  obtain rfl | rfl | rfl | rfl | rfl | rfl | rfl | rfl | rfl | rfl := hk
  all_goals (
   go_enter func260, ntmps260
   go_wp2
   go_ret
   exact ⟨rfl, rfl⟩)
 have e : cK k = false := decide_eq_false hk
 rw [e] at hb
 subst hb
 have h1 : ¬ k = 1 := by omega
 have h2 : ¬ k = 2 := by omega
 have h3 : ¬ k = 3 := by omega
 have h4 : ¬ k = 4 := by omega
 have h5 : ¬ k = 5 := by omega
 have h6 : ¬ k = 6 := by omega
 have h15 : ¬ k = 15 := by omega
 have h16 : ¬ k = 16 := by omega
 have h22 : ¬ k = 22 := by omega
 have h23 : ¬ k = 23 := by omega
 clear hk e
 go_enter func260, ntmps260
 go_wp2
 go_ret
 exact ⟨rfl, rfl⟩
theorem jD (k : Int) (w : World) (b : Bool) (hb : cK k = b) : Calls prog 176 #[.int .i64 k] w fun e w' => e = .returned (.bool b) /\ w' = w := by
 by_cases hk : k = 1 \/ k = 2 \/ k = 3 \/ k = 4 \/ k = 5 \/ k = 6 \/ k = 15 \/ k = 16 \/ k = 22 \/ k = 23
 ·have e : cK k = true := decide_eq_true hk
  rw [e] at hb
  subst hb
  clear e
  obtain rfl | rfl | rfl | rfl | rfl | rfl | rfl | rfl | rfl | rfl := hk
  all_goals (
   go_enter func176, ntmps176
   go_wp2_with (go_at_call 36; go_in)
   go_ret
   exact ⟨rfl, rfl⟩)
 have e : cK k = false := decide_eq_false hk
 rw [e] at hb
 subst hb
 have h15 : ¬ k = 15 := by omega
 have h16 : ¬ k = 16 := by omega
 have h22 : ¬ k = 22 := by omega
 have h23 : ¬ k = 23 := by omega
 have hq : (k == 23) = false := by simp [h23]
 have hq1 : (k == 15) = false := by simp [h15]
 have hq2 : (k == 16) = false := by simp [h16]
 have hq3 : (k == 22) = false := by simp [h22]
 by_cases h1 : 1 <= k
 ·have h6 : ¬ k <= 6 := by omega
  clear hk e
  go_enter func176, ntmps176
  go_wp2_with (go_at_call 36; go_in)
  go_ret
  exact ⟨rfl, rfl⟩
 clear hk e
 go_enter func176, ntmps176
 go_wp2_with (go_at_call 36; go_in)
 go_ret
 exact ⟨rfl, rfl⟩
def GP (w w' : World) (e : Ending) (kd pl nn wa : Int) (ws : List Int) (bs : List Bool) (code : Int) : Prop :=
 ∃ a1 a2 l1 l2 c1 c2, e = .returned (.tuple #[rq kd pl nn wa a1 a2 l1 l2 c1 c2, .int .i64 code]) /\ l1 = ws.length /\ l2 = bs.length /\ bT w' w.heap.size (.slice a1 l1 c1) ws /\ cG w' w.heap.size (.slice a2 l2 c2) bs /\ Below w.heap.size w w'
def bf (a n w b : Bool) (pl nn : Int) (l1 l2 : Nat) : Bool := (a || decide (pl = 0)) && ((n || decide (nn = 0)) && ((w || decide (l1 = 0)) && (b || decide (l2 = 0))))
def gn (kd pl nn : Int) (l1 l2 : Nat) : Bool :=
 if kd = 1 \/ kd = 2 then bf false false false true pl nn l1 l2 && (aw l2 1 2000 && decide (l2 % 8 = 0))
 else if kd = 3 \/ kd = 4 \/ kd = 23 then bf false false true false pl nn l1 l2 && aw l1 1 125
 else if kd = 5 then bf true false false true pl nn l1 l2 && decide (l2 = 1)
 else if kd = 6 then bf true false true false pl nn l1 l2 && decide (l1 = 1)
 else if kd = 22 then bf true false true false pl nn l1 l2 && decide (l1 = 2)
 else if kd = 15 then bf true true false false pl nn l1 l2 && aw nn 1 1968
 else bf true true false false pl nn l1 l2 && aw nn 1 123
def dk (kd fl pl nn : Int) (ws : List Int) (l1 l2 : Nat) : Bool := cK kd && (aw fl 0 255 && (bN ws && (aw pl 0 65535 && (if 0 < fl then bf false false false false pl nn l1 l2 else gn kd pl nn l1 l2))))
theorem mN (kd fl pl nn : Int) (a1 a2 : Option Addr) (l1 l2 c1 c2 : Nat) (w : World) (hm1 : l1 <= 2000000) (hm2 : l2 <= 20000000) (z : Bool) (hz : bf false false false false pl nn l1 l2 = z) :
 Calls prog 177 #[rp kd fl pl nn a1 a2 l1 l2 c1 c2, .bool false, .bool false, .bool false, .bool false] w fun e w' => e = .returned (.bool z) /\ Below w.heap.size w w' := by
 have B0 := ac w (.cells #[.int .i64 kd, .int .i64 fl, .int .i64 pl, .int .i64 nn, .slice a1 l1 c1, .slice a2 l2 c2] 118)
 subst hz
 by_cases hA : pl = 0
 ·skip
  by_cases hN : nn = 0
  ·skip
   by_cases h1 : l1 = 0
   ·skip
    by_cases h2 : l2 = 0
    ·skip
     have e : bf false false false false pl nn l1 l2 = true := by simp [bf, hA, hN, h1, h2]
     rw [e]
     clear e
     subst hA
     subst hN
     subst h1
     subst h2
     go_enter func177, ntmps177
     go_wp2
     go_ret
     exact ⟨rfl, B0⟩
    skip
    have e : bf false false false false pl nn l1 l2 = false := by simp [bf, hA, hN, h1, h2]
    rw [e]
    have h2i : ((l2 : Int) == 0) = false := by simp [h2]
    clear e
    subst hA
    subst hN
    subst h1
    go_enter func177, ntmps177
    go_wp2
    go_ret
    exact ⟨rfl, B0⟩
   skip
   have e : bf false false false false pl nn l1 l2 = false := by simp [bf, hA, hN, h1]
   rw [e]
   have h1i : ((l1 : Int) == 0) = false := by simp [h1]
   clear e
   subst hA
   subst hN
   go_enter func177, ntmps177
   go_wp2
   go_ret
   exact ⟨rfl, B0⟩
  skip
  have e : bf false false false false pl nn l1 l2 = false := by simp [bf, hA, hN]
  rw [e]
  have eN : (nn == 0) = false := by simp [hN]
  clear e
  subst hA
  go_enter func177, ntmps177
  go_wp2
  go_ret
  exact ⟨rfl, B0⟩
 skip
 have e : bf false false false false pl nn l1 l2 = false := by simp [bf, hA]
 rw [e]
 have eA : (pl == 0) = false := by simp [hA]
 clear e
 go_enter func177, ntmps177
 go_wp2
 go_ret
 exact ⟨rfl, B0⟩
theorem mO (kd fl pl nn : Int) (a1 a2 : Option Addr) (l1 l2 c1 c2 : Nat) (w : World) (hm1 : l1 <= 2000000) (hm2 : l2 <= 20000000) (z : Bool) (hz : bf false false false true pl nn l1 l2 = z) :
 Calls prog 177 #[rp kd fl pl nn a1 a2 l1 l2 c1 c2, .bool false, .bool false, .bool false, .bool true] w fun e w' => e = .returned (.bool z) /\ Below w.heap.size w w' := by
 have B0 := ac w (.cells #[.int .i64 kd, .int .i64 fl, .int .i64 pl, .int .i64 nn, .slice a1 l1 c1, .slice a2 l2 c2] 118)
 subst hz
 by_cases hA : pl = 0
 ·skip
  by_cases hN : nn = 0
  ·skip
   by_cases h1 : l1 = 0
   ·skip
    have e : bf false false false true pl nn l1 l2 = true := by simp [bf, hA, hN, h1]
    rw [e]
    clear e
    subst hA
    subst hN
    subst h1
    go_enter func177, ntmps177
    go_wp2
    go_ret
    exact ⟨rfl, B0⟩
   skip
   have e : bf false false false true pl nn l1 l2 = false := by simp [bf, hA, hN, h1]
   rw [e]
   have h1i : ((l1 : Int) == 0) = false := by simp [h1]
   clear e
   subst hA
   subst hN
   go_enter func177, ntmps177
   go_wp2
   go_ret
   exact ⟨rfl, B0⟩
  skip
  have e : bf false false false true pl nn l1 l2 = false := by simp [bf, hA, hN]
  rw [e]
  have eN : (nn == 0) = false := by simp [hN]
  clear e
  subst hA
  go_enter func177, ntmps177
  go_wp2
  go_ret
  exact ⟨rfl, B0⟩
 skip
 have e : bf false false false true pl nn l1 l2 = false := by simp [bf, hA]
 rw [e]
 have eA : (pl == 0) = false := by simp [hA]
 clear e
 go_enter func177, ntmps177
 go_wp2
 go_ret
 exact ⟨rfl, B0⟩
theorem mP (kd fl pl nn : Int) (a1 a2 : Option Addr) (l1 l2 c1 c2 : Nat) (w : World) (hm1 : l1 <= 2000000) (hm2 : l2 <= 20000000) (z : Bool) (hz : bf false false true false pl nn l1 l2 = z) :
 Calls prog 177 #[rp kd fl pl nn a1 a2 l1 l2 c1 c2, .bool false, .bool false, .bool true, .bool false] w fun e w' => e = .returned (.bool z) /\ Below w.heap.size w w' := by
 have B0 := ac w (.cells #[.int .i64 kd, .int .i64 fl, .int .i64 pl, .int .i64 nn, .slice a1 l1 c1, .slice a2 l2 c2] 118)
 subst hz
 by_cases hA : pl = 0
 ·skip
  by_cases hN : nn = 0
  ·skip
   by_cases h2 : l2 = 0
   ·skip
    have e : bf false false true false pl nn l1 l2 = true := by simp [bf, hA, hN, h2]
    rw [e]
    clear e
    subst hA
    subst hN
    subst h2
    go_enter func177, ntmps177
    go_wp2
    go_ret
    exact ⟨rfl, B0⟩
   skip
   have e : bf false false true false pl nn l1 l2 = false := by simp [bf, hA, hN, h2]
   rw [e]
   have h2i : ((l2 : Int) == 0) = false := by simp [h2]
   clear e
   subst hA
   subst hN
   go_enter func177, ntmps177
   go_wp2
   go_ret
   exact ⟨rfl, B0⟩
  skip
  have e : bf false false true false pl nn l1 l2 = false := by simp [bf, hA, hN]
  rw [e]
  have eN : (nn == 0) = false := by simp [hN]
  clear e
  subst hA
  go_enter func177, ntmps177
  go_wp2
  go_ret
  exact ⟨rfl, B0⟩
 skip
 have e : bf false false true false pl nn l1 l2 = false := by simp [bf, hA]
 rw [e]
 have eA : (pl == 0) = false := by simp [hA]
 clear e
 go_enter func177, ntmps177
 go_wp2
 go_ret
 exact ⟨rfl, B0⟩
theorem mQ (kd fl pl nn : Int) (a1 a2 : Option Addr) (l1 l2 c1 c2 : Nat) (w : World) (hm1 : l1 <= 2000000) (hm2 : l2 <= 20000000) (z : Bool) (hz : bf true false false true pl nn l1 l2 = z) :
 Calls prog 177 #[rp kd fl pl nn a1 a2 l1 l2 c1 c2, .bool true, .bool false, .bool false, .bool true] w fun e w' => e = .returned (.bool z) /\ Below w.heap.size w w' := by
 have B0 := ac w (.cells #[.int .i64 kd, .int .i64 fl, .int .i64 pl, .int .i64 nn, .slice a1 l1 c1, .slice a2 l2 c2] 118)
 subst hz
 by_cases hN : nn = 0
 ·skip
  by_cases h1 : l1 = 0
  ·skip
   have e : bf true false false true pl nn l1 l2 = true := by simp [bf, hN, h1]
   rw [e]
   clear e
   subst hN
   subst h1
   go_enter func177, ntmps177
   go_wp2
   go_ret
   exact ⟨rfl, B0⟩
  skip
  have e : bf true false false true pl nn l1 l2 = false := by simp [bf, hN, h1]
  rw [e]
  have h1i : ((l1 : Int) == 0) = false := by simp [h1]
  clear e
  subst hN
  go_enter func177, ntmps177
  go_wp2
  go_ret
  exact ⟨rfl, B0⟩
 skip
 have e : bf true false false true pl nn l1 l2 = false := by simp [bf, hN]
 rw [e]
 have eN : (nn == 0) = false := by simp [hN]
 clear e
 go_enter func177, ntmps177
 go_wp2
 go_ret
 exact ⟨rfl, B0⟩
theorem mR (kd fl pl nn : Int) (a1 a2 : Option Addr) (l1 l2 c1 c2 : Nat) (w : World) (hm1 : l1 <= 2000000) (hm2 : l2 <= 20000000) (z : Bool) (hz : bf true false true false pl nn l1 l2 = z) :
 Calls prog 177 #[rp kd fl pl nn a1 a2 l1 l2 c1 c2, .bool true, .bool false, .bool true, .bool false] w fun e w' => e = .returned (.bool z) /\ Below w.heap.size w w' := by
 have B0 := ac w (.cells #[.int .i64 kd, .int .i64 fl, .int .i64 pl, .int .i64 nn, .slice a1 l1 c1, .slice a2 l2 c2] 118)
 subst hz
 by_cases hN : nn = 0
 ·skip
  by_cases h2 : l2 = 0
  ·skip
   have e : bf true false true false pl nn l1 l2 = true := by simp [bf, hN, h2]
   rw [e]
   clear e
   subst hN
   subst h2
   go_enter func177, ntmps177
   go_wp2
   go_ret
   exact ⟨rfl, B0⟩
  skip
  have e : bf true false true false pl nn l1 l2 = false := by simp [bf, hN, h2]
  rw [e]
  have h2i : ((l2 : Int) == 0) = false := by simp [h2]
  clear e
  subst hN
  go_enter func177, ntmps177
  go_wp2
  go_ret
  exact ⟨rfl, B0⟩
 skip
 have e : bf true false true false pl nn l1 l2 = false := by simp [bf, hN]
 rw [e]
 have eN : (nn == 0) = false := by simp [hN]
 clear e
 go_enter func177, ntmps177
 go_wp2
 go_ret
 exact ⟨rfl, B0⟩
theorem mS (kd fl pl nn : Int) (a1 a2 : Option Addr) (l1 l2 c1 c2 : Nat) (w : World) (hm1 : l1 <= 2000000) (hm2 : l2 <= 20000000) (z : Bool) (hz : bf true true false false pl nn l1 l2 = z) :
 Calls prog 177 #[rp kd fl pl nn a1 a2 l1 l2 c1 c2, .bool true, .bool true, .bool false, .bool false] w fun e w' => e = .returned (.bool z) /\ Below w.heap.size w w' := by
 have B0 := ac w (.cells #[.int .i64 kd, .int .i64 fl, .int .i64 pl, .int .i64 nn, .slice a1 l1 c1, .slice a2 l2 c2] 118)
 subst hz
 by_cases h1 : l1 = 0
 ·skip
  by_cases h2 : l2 = 0
  ·skip
   have e : bf true true false false pl nn l1 l2 = true := by simp [bf, h1, h2]
   rw [e]
   clear e
   subst h1
   subst h2
   go_enter func177, ntmps177
   go_wp2
   go_ret
   exact ⟨rfl, B0⟩
  skip
  have e : bf true true false false pl nn l1 l2 = false := by simp [bf, h1, h2]
  rw [e]
  have h2i : ((l2 : Int) == 0) = false := by simp [h2]
  clear e
  subst h1
  go_enter func177, ntmps177
  go_wp2
  go_ret
  exact ⟨rfl, B0⟩
 skip
 have e : bf true true false false pl nn l1 l2 = false := by simp [bf, h1]
 rw [e]
 have h1i : ((l1 : Int) == 0) = false := by simp [h1]
 clear e
 go_enter func177, ntmps177
 go_wp2
 go_ret
 exact ⟨rfl, B0⟩
theorem pd (a n v b : Bool) (kd fl pl nn : Int) (a1 a2 : Option Addr) (l1 l2 c1 c2 : Nat) (w : World) (h : a = false /\ n = false /\ v = false /\ b = false \/ a = false /\ n = false /\ v = false /\ b = true \/ a = false /\ n = false /\ v = true /\ b = false \/ a = true /\ n = false /\ v = false /\ b = true \/ a = true /\ n = false /\ v = true /\ b = false \/ a = true /\ n = true /\ v = false /\ b = false) (hm1 : l1 <= 2000000) (hm2 : l2 <= 20000000) :
 Calls prog 177 #[rp kd fl pl nn a1 a2 l1 l2 c1 c2, .bool a, .bool n, .bool v, .bool b] w fun e w' => Below w.heap.size w w' /\ ((bf a n v b pl nn l1 l2 = true /\ e = .returned (.bool true)) \/ (bf a n v b pl nn l1 l2 = false /\ e = .returned (.bool false))) := by
 obtain ⟨rfl, rfl, rfl, rfl⟩ | ⟨rfl, rfl, rfl, rfl⟩ | ⟨rfl, rfl, rfl, rfl⟩ | ⟨rfl, rfl, rfl, rfl⟩ | ⟨rfl, rfl, rfl, rfl⟩ | ⟨rfl, rfl, rfl, rfl⟩ := h
 ·exact bo (mN _ _ _ _ _ _ _ _ _ _ _ hm1 hm2 _ rfl)
 ·exact bo (mO _ _ _ _ _ _ _ _ _ _ _ hm1 hm2 _ rfl)
 ·exact bo (mP _ _ _ _ _ _ _ _ _ _ _ hm1 hm2 _ rfl)
 ·exact bo (mQ _ _ _ _ _ _ _ _ _ _ _ hm1 hm2 _ rfl)
 ·exact bo (mR _ _ _ _ _ _ _ _ _ _ _ hm1 hm2 _ rfl)
 exact bo (mS _ _ _ _ _ _ _ _ _ _ _ hm1 hm2 _ rfl)
theorem ki (kd fl pl nn : Int) (a1 a2 : Option Addr) (l1 l2 c1 c2 : Nat) (ws : List Int) (w : World) (h1 : l1 = ws.length) (s1 : aQ w a1 ws) (hl1 : ws.length <= 2000000) (hl2 : l2 <= 20000000) (b : Bool) (hb : dk kd fl pl nn ws l1 l2 = b) :
 Calls prog 117 #[rp kd fl pl nn a1 a2 l1 l2 c1 c2] w fun e w' => e = .returned (.bool b) /\ Below w.heap.size w w' := by
 obtain ⟨B0, X0⟩ := bx w #[.int .i64 kd, .int .i64 fl, .int .i64 pl, .int .i64 nn, .slice a1 l1 c1, .slice a2 l2 c2] 118
 have S1 := bg (s1.below B0)
 have H1 : Hid (l1 = ws.length) := h1
 clear h1 s1
 subst hb
 cases hK : cK kd
 ·go_enter func117, ntmps117
  go_wp2_with (go_at_call 176; refine (jD _ _ _ hK).mono ?_; rintro e wx ⟨rfl, rfl⟩)
  go_ret
  exact ⟨by simp [dk, hK], B0⟩
 by_cases h0 : 0 < fl
 rotate_left
 rcases of_decide_eq_true hK with rfl | rfl | rfl | rfl | rfl | rfl | rfl | rfl | rfl | rfl
 all_goals
  go_enter func117, ntmps117
  go_wp2_with (first
   | (go_at_call 176; refine (jD _ _ _ hK).mono ?_; rintro e wx ⟨rfl, rfl⟩)
   | (go_at_call 175; refine (bo (da _ _ _ ws _ H1.out S1.out hl1 _ rfl)).mono ?_; rintro e wx ⟨rfl, ⟨hW, rfl⟩ | ⟨hW, rfl⟩⟩)
   | (go_at_call 36; refine (kg _ _ _ _).mono ?_; rintro e wx ⟨rfl, ⟨hN, hm, rfl⟩ | ⟨hN, rfl⟩⟩)
   | (go_at_call 177; refine (pd _ _ _ _ _ _ _ _ _ _ _ _ _ _ _ (by simp) (by have := H1.out; omega) hl2).mono ?_; rintro e w1 ⟨b', ⟨hZ, rfl⟩ | ⟨hZ, rfl⟩⟩ <;> (have B1 := ak B0 b'; obtain ⟨y0, y1, y2, y3, y4, y5⟩ := (X0.below b').six; clear B0 X0)))
  all_goals
   go_ret
   refine ⟨?_, by assumption⟩
   first | (simp [dk, gn, *, show ¬ 0 < fl by omega]; done) | (simp [dk, gn, *]; done) | (simp [dk, gn, *, show ¬ 0 < fl by omega]; rw [Bool.eq_iff_iff]; simp; omega)
theorem iv (kd fl pl nn : Int) (a1 a2 : Option Addr) (l1 l2 c1 c2 : Nat) (ws : List Int) (bs : List Bool) (w : World) (h1 : l1 = ws.length) (h2 : l2 = bs.length) (s1 : aQ w a1 ws) (s2 : aW w a2 bs) (hl1 : ws.length <= 2000000) (hl2 : bs.length <= 2000000) :
 Calls prog 117 #[rp kd fl pl nn a1 a2 l1 l2 c1 c2] w fun e w' => e = .returned (.bool (dk kd fl pl nn ws l1 l2)) /\ Below w.heap.size w w' :=
 ki kd fl pl nn a1 a2 l1 l2 c1 c2 ws w h1 s1 hl1 (by omega) _ rfl
def eJ (kd pl nn : Int) (m1 m2 : Nat) (qs : List Int) (qb : List Bool) (ap an : Int) (l1 l2 : Nat) (ws : List Int) (bs : List Bool) : Bool :=
 if kd = 1 \/ kd = 2 then eV bs nn.toNat && decide (l2 = (nn.toNat + 7) / 8 * 8)
 else if kd = 3 \/ kd = 4 \/ kd = 23 then decide ((l1 : Int) = nn)
 else if kd = 5 then decide (ap = pl) && decide (bs = qb)
 else if kd = 6 \/ kd = 22 then decide (ap = pl) && decide (ws = qs)
 else if kd = 15 then decide (ap = pl) && decide (an = (m2 : Int))
 else decide (ap = pl) && decide (an = (m1 : Int))
def fU (kd pl nn wa : Int) (m1 m2 : Nat) (qs : List Int) (qb : List Bool) (kd' fl ap an : Int) (l1 l2 : Nat) (ws : List Int) (bs : List Bool) : Bool :=
 bv kd pl nn wa qs m1 m2 && (dk kd' fl ap an ws l1 l2 && (decide (kd = kd') && (!decide (fl = 0) || eJ kd pl nn m1 m2 qs qb ap an l1 l2 ws bs)))
end Go.Proofs.YtplaoagcedgdfaaGreat
namespace Go.Proofs.YtplaoagcedgdfaaGreat
open Go.RowKit Go.Joins Go.Proofs.Tryz
def eK (Q : VQ) : Bool := bv Q.kd Q.pl Q.n Q.wa Q.ws Q.ws.length Q.bs.length
def jE (Q : VQ) (A : VA) : Bool := fU Q.kd Q.pl Q.n Q.wa Q.ws.length Q.bs.length Q.ws Q.bs A.kd A.fl A.pl A.n A.ws.length A.bs.length A.ws A.bs
def cd (P : VP) : Bool := aw P.p 0 5 && (aw P.t 1 247 && eK P.q)
def fk (A : VA) : Bool := (A.kd == 0) && ((A.fl == 0) && ((A.pl == 0) && ((A.n == 0) && (((A.ws.length : Int) == 0) && ((A.bs.length : Int) == 0)))))
def aI (g : Nat -> Bool) : Nat -> Bool
 | 0 => true
 | n + 1 => aI g n && g n
theorem eC {g : Nat -> Bool} : ∀ {n : Nat}, aI g n = true ↔ ∀ k, k < n -> g k = true
 | 0 => by simp [aI]
 | n + 1 => by
  simp only [aI, Bool.and_eq_true, eC (n := n)]
  constructor
  ·rintro ⟨h1, h2⟩ k hk
   by_cases e : k = n
   ·subst e; exact h2
   exact h1 k (by omega)
  intro h
  exact ⟨fun k hk => h k (by omega), h n (by omega)⟩
theorem cM {g : Nat -> Bool} {n k : Nat} (hk : k < n) (h : g k = false) : aI g n = false := by
 cases e : aI g n with
 | false => rfl
 | true => rw [eC.1 e k hk] at h; cases h
theorem cF {g : Nat -> Bool} {n : Nat} (h : aI g n = true) (hk : g n = true) : aI g (n + 1) = true := by
 simp [aI, h, hk]
def cH (bs : List Bool) : Nat -> Nat
 | 0 => 0
 | n + 1 => cH bs n + (if bs.getD n false then 0 else 1)
theorem iO (bs : List Bool) : ∀ n, cH bs n <= n
 | 0 => Nat.le_refl _
 | n + 1 => by
  have := iO bs n
  simp only [cH]
  split <;> omega
theorem lS {bs : List Bool} : ∀ {n : Nat}, cH bs n = 0 ↔ aI (fun i => bs.getD i false) n = true
 | 0 => by simp [cH, aI]
 | n + 1 => by
  simp only [cH, aI, Bool.and_eq_true, <- lS (n := n)]
  split <;> simp_all
def dD (D : VD) (i : Nat) : Bool := if D.hs.getD i false then jE (D.pt i).q (D.tl i) else fk (D.tl i)
def eD (D : VD) : Bool :=
 aw D.so 0 1000000000 && (aw D.ta 0 1000000000 && (eK D.q && (decide (1 <= D.np /\ D.np <= 8) && (aI (fun i => cd (D.pt i)) D.np && (decide (D.hs.length = D.np) && (decide (D.nt = D.np) && (aI (dD D) D.np && decide (0 < cH D.hs D.hs.length))))))))
def bE (X : VT) (i : Nat) : Bool := eD (X.f i) && (aw (X.f i).id 0 (X.nx - 1) && (decide (i = 0) || decide ((X.f (i - 1)).id < (X.f i).id)))
def dJ (X : VT) : Bool := aw X.nx 0 1000000000 && (decide (X.m <= 16) && aI (bE X) X.m)
def gz (X : VT) : Nat -> Nat := fun n => aF n (fun i => cH (X.f i).hs (X.f i).hs.length)
def ce (Q : VQ) : Prop := Q.ws.length <= 2000000 /\ Q.bs.length <= 2000000
def eL (A : VA) : Prop := A.ws.length <= 2000000 /\ A.bs.length <= 2000000
def fV (D : VD) : Prop := ce D.q /\ D.np <= 2000000 /\ D.hs.length <= 2000000 /\ D.nt <= 2000000 /\ (∀ i, i < D.np -> ce (D.pt i).q) /\ (∀ i, i < D.nt -> eL (D.tl i))
def jF (X : VT) : Prop := X.m <= 2000000 /\ ∀ i, i < X.m -> fV (X.f i)
theorem eG {s n N : Nat} {f : Nat -> Nat -> Tr} (h : (Tr.list s n f).sz <= N) : n <= N /\ ∀ k, k < n -> ao s (f k) <= N := by
 rw [Tr.sz_list] at h
 refine ⟨by omega, fun k hk => ?_⟩
 have := cg (fun k => ao s (f k)) hk
 omega
theorem VD.bd {D : VD} (h : ao 13 (aa (dT D)) <= 2000000) : fV D := by
 rw [lF] at h
 have h1 := eG (s := 8) (n := D.np) (f := fun i => aa (pT (D.pt i))) (N := 2000000) (by omega)
 have h2 := eG (s := 6) (n := D.nt) (f := fun i => aa (aT (D.tl i))) (N := 2000000) (by omega)
 refine ⟨⟨by omega, by omega⟩, h1.1, by omega, h2.1, fun i hi => ?_, fun i hi => ?_⟩
 ·have := h1.2 i hi
  rw [lE] at this
  exact ⟨by omega, by omega⟩
 have := h2.2 i hi
 rw [dX] at this
 exact ⟨by omega, by omega⟩
theorem VT.bd {X : VT} (h : ao 2 (aa (tT X)) <= 2000000) : jF X := by
 rw [fR] at h
 have h1 := eG (s := 13) (n := X.m) (f := fun i => aa (dT (X.f i))) (N := 2000000) (by omega)
 exact ⟨h1.1, fun i hi => VD.bd (h1.2 i hi)⟩
def eZ (w : World) (g o : Nat) (D : VD) : Prop := g < w.heap.size /\ ∃ vs, vs.length = 13 /\ w.rangeAt g o vs /\ ay w 0 (aa (dT D)) vs
theorem eZ.below {w w' : World} {g o : Nat} {D : VD} (h : eZ w g o D) (hb : Below w.heap.size w w') : eZ w' g o D := by
 obtain ⟨h1, vs, h2, h3, h4⟩ := h
 exact ⟨Nat.lt_of_lt_of_le h1 hb.size, vs, h2, fun j v hv => (hb.cell (p := ⟨g, o + j, none⟩) h1).trans (h3 j v hv), h4.below hb⟩
theorem eZ.cells {w : World} {g o : Nat} {D : VD} (h : eZ w g o D) : g < w.heap.size /\ ∃ a1 c1 a2 c2 a3 c3 a4 c4 a5 c5, w.rangeAt g o (dL D a1 D.q.ws.length c1 a2 D.q.bs.length c2 a3 D.np c3 a4 D.hs.length c4 a5 D.nt c5) /\ Rd w 0 (ah D.q.ws) (.slice a1 D.q.ws.length c1) /\ Rd w 0 (af D.q.bs) (.slice a2 D.q.bs.length c2) /\ Rd w 0 (.list 8 D.np (fun i => aa (pT (D.pt i)))) (.slice a3 D.np c3) /\ Rd w 0 (af D.hs) (.slice a4 D.hs.length c4) /\ Rd w 0 (.list 6 D.nt (fun i => aa (aT (D.tl i)))) (.slice a5 D.nt c5) := by
 obtain ⟨h1, vs, h2, h3, h4⟩ := h
 obtain ⟨a1, c1, a2, c2, a3, c3, a4, c4, a5, c5, rfl, r1, r2, r3, r4, r5⟩ := VD.cells h4 h2
 exact ⟨h1, a1, c1, a2, c2, a3, c3, a4, c4, a5, c5, h3, r1, r2, r3, r4, r5⟩
end Go.Proofs.YtplaoagcedgdfaaGreat
