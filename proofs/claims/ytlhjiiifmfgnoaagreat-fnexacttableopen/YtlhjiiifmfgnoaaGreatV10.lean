/- Texts that the proof needs, joined: Q5 Q6 R2 R3 R4 G1 G2. -/
import Derived.Test.YtlhjiiifmfgnoaaGreatV9
import Derived.Test.YtlhjiiifmfgnoaaGreatV8
import Derived.Deep.RegionWith
import Derived.Test.YtlhjiiifmfgnoaaGreatV5
import Derived.Lib.AppendZerosOnto
import Derived.Lib.SliceRun
import Derived.Lib.Walk
import Derived.Deep.RegionHeld3
set_option linter.unusedVariables false
set_option linter.unusedSimpArgs false
set_option maxHeartbeats 8000000
set_option maxRecDepth 20000
namespace Go.Proofs.YtlhjiiifmfgnoaaGreat
open Go.RowKit
theorem meth_1 (v : Value) (w : World) : (method 289 147 v "loop.example/g00129/impl.req").run Tryz.prog w = .ok (153, v) w := by kernel_rfl
theorem callf_1 (v : Value) (w : World) : (callFunc 153 #[v]).run Tryz.prog w = .ok (.enter 153 #[v]) w := by kernel_rfl
theorem meth_2 (v : Value) (w : World) : (method 289 148 v "loop.example/g00129/impl.req").run Tryz.prog w = .ok (154, v) w := by kernel_rfl
theorem callf_2 (v : Value) (w : World) : (callFunc 154 #[v]).run Tryz.prog w = .ok (.enter 154 #[v]) w := by kernel_rfl
theorem meth_3 (v : Value) (w : World) : (method 289 149 v "loop.example/g00129/impl.req").run Tryz.prog w = .ok (155, v) w := by kernel_rfl
theorem callf_3 (v : Value) (w : World) : (callFunc 155 #[v]).run Tryz.prog w = .ok (.enter 155 #[v]) w := by kernel_rfl
theorem meth_4 (v : Value) (w : World) : (method 289 150 v "loop.example/g00129/impl.req").run Tryz.prog w = .ok (156, v) w := by kernel_rfl
theorem callf_4 (v : Value) (w : World) : (callFunc 156 #[v]).run Tryz.prog w = .ok (.enter 156 #[v]) w := by kernel_rfl
theorem meth_5 (v : Value) (w : World) : (method 289 152 v "loop.example/g00129/impl.req").run Tryz.prog w = .ok (157, v) w := by kernel_rfl
theorem callf_5 (v : Value) (w : World) : (callFunc 157 #[v]).run Tryz.prog w = .ok (.enter 157 #[v]) w := by kernel_rfl
theorem meth_6 (v : Value) (w : World) : (method 289 154 v "loop.example/g00129/impl.req").run Tryz.prog w = .ok (158, v) w := by kernel_rfl
theorem callf_6 (v : Value) (w : World) : (callFunc 158 #[v]).run Tryz.prog w = .ok (.enter 158 #[v]) w := by kernel_rfl
theorem meth_15 (v : Value) (w : World) : (method 289 156 v "loop.example/g00129/impl.req").run Tryz.prog w = .ok (159, v) w := by kernel_rfl
theorem callf_15 (v : Value) (w : World) : (callFunc 159 #[v]).run Tryz.prog w = .ok (.enter 159 #[v]) w := by kernel_rfl
theorem meth_16 (v : Value) (w : World) : (method 289 158 v "loop.example/g00129/impl.req").run Tryz.prog w = .ok (160, v) w := by kernel_rfl
theorem callf_16 (v : Value) (w : World) : (callFunc 160 #[v]).run Tryz.prog w = .ok (.enter 160 #[v]) w := by kernel_rfl
theorem meth_22 (v : Value) (w : World) : (method 289 160 v "loop.example/g00129/impl.req").run Tryz.prog w = .ok (161, v) w := by kernel_rfl
theorem callf_22 (v : Value) (w : World) : (callFunc 161 #[v]).run Tryz.prog w = .ok (.enter 161 #[v]) w := by kernel_rfl
theorem meth_23 (v : Value) (w : World) : (method 289 162 v "loop.example/g00129/impl.req").run Tryz.prog w = .ok (162, v) w := by kernel_rfl
theorem callf_23 (v : Value) (w : World) : (callFunc 162 #[v]).run Tryz.prog w = .ok (.enter 162 #[v]) w := by kernel_rfl
theorem allW_one {ws : List Int} (h : ws.length = 1) : allW ws = inB (ws.getD 0 0) 0 65535 := by
 unfold allW inB
 rw [Bool.eq_iff_iff]
 simp only [decide_eq_true_eq]
 constructor
 ·intro hh; exact hh 0 (by omega)
 intro hh k hk
 obtain rfl : k = 0 := by omega
 exact hh
theorem allW_two {ws : List Int} (h : ws.length = 2) : allW ws = (inB (ws.getD 0 0) 0 65535 && inB (ws.getD 1 0) 0 65535) := by
 unfold allW inB
 rw [Bool.eq_iff_iff]
 simp only [decide_eq_true_eq, Bool.and_eq_true]
 constructor
 ·intro hh; exact ⟨hh 0 (by omega), hh 1 (by omega)⟩
 intro hh k hk
 obtain rfl | rfl : k = 0 \/ k = 1 := by omega
 ·exact hh.1
 exact hh.2
theorem list_one {bs : List Bool} (h : bs.length = 1) : bs = [bs.getD 0 false] := by
 match bs, h with
 | [x], _ => rfl
theorem ints_one {ws : List Int} (h : ws.length = 1) : ws = [ws.getD 0 0] := by
 match ws, h with
 | [x], _ => rfl
theorem ints_two {ws : List Int} (h : ws.length = 2) : ws = [ws.getD 0 0, ws.getD 1 0] := by
 match ws, h with
 | [x, y], _ => rfl
theorem okI_1 (pl nn wa : Int) (ws : List Int) (l1 l2 : Nat) (h1 : l1 = ws.length) : okR 1 pl nn wa ws l1 l2 = (rnB pl nn 2000 && (decide (wa = 0) && (decide (l1 = 0) && (decide (l2 = 0))))) := by
 by_cases hl : l1 = 0
 ·have hW : allW ws = true := allW_good (fun k hk => by omega)
  rw [Bool.eq_iff_iff]; simp [okR, okK, zrB, inB, fitB, rnB, hW, hl]; omega
 rw [Bool.eq_iff_iff]; simp [okR, okK, zrB, hl]
theorem okI_2 (pl nn wa : Int) (ws : List Int) (l1 l2 : Nat) (h1 : l1 = ws.length) : okR 2 pl nn wa ws l1 l2 = (rnB pl nn 2000 && (decide (wa = 0) && (decide (l1 = 0) && (decide (l2 = 0))))) := by
 by_cases hl : l1 = 0
 ·have hW : allW ws = true := allW_good (fun k hk => by omega)
  rw [Bool.eq_iff_iff]; simp [okR, okK, zrB, inB, fitB, rnB, hW, hl]; omega
 rw [Bool.eq_iff_iff]; simp [okR, okK, zrB, hl]
theorem okI_3 (pl nn wa : Int) (ws : List Int) (l1 l2 : Nat) (h1 : l1 = ws.length) : okR 3 pl nn wa ws l1 l2 = (rnB pl nn 125 && (decide (wa = 0) && (decide (l1 = 0) && (decide (l2 = 0))))) := by
 by_cases hl : l1 = 0
 ·have hW : allW ws = true := allW_good (fun k hk => by omega)
  rw [Bool.eq_iff_iff]; simp [okR, okK, zrB, inB, fitB, rnB, hW, hl]; omega
 rw [Bool.eq_iff_iff]; simp [okR, okK, zrB, hl]
theorem okI_4 (pl nn wa : Int) (ws : List Int) (l1 l2 : Nat) (h1 : l1 = ws.length) : okR 4 pl nn wa ws l1 l2 = (rnB pl nn 125 && (decide (wa = 0) && (decide (l1 = 0) && (decide (l2 = 0))))) := by
 by_cases hl : l1 = 0
 ·have hW : allW ws = true := allW_good (fun k hk => by omega)
  rw [Bool.eq_iff_iff]; simp [okR, okK, zrB, inB, fitB, rnB, hW, hl]; omega
 rw [Bool.eq_iff_iff]; simp [okR, okK, zrB, hl]
theorem okI_5 (pl nn wa : Int) (ws : List Int) (l1 l2 : Nat) (h1 : l1 = ws.length) : okR 5 pl nn wa ws l1 l2 = (decide (l2 = 1) && (inB pl 0 65535 && (decide (nn = 0) && (decide (wa = 0) && (decide (l1 = 0)))))) := by
 by_cases hl : l1 = 0
 ·have hW : allW ws = true := allW_good (fun k hk => by omega)
  rw [Bool.eq_iff_iff]; simp [okR, okK, zrB, inB, fitB, rnB, hW, hl]; omega
 rw [Bool.eq_iff_iff]; simp [okR, okK, zrB, hl]
theorem okI_6 (pl nn wa : Int) (ws : List Int) (l1 l2 : Nat) (h1 : l1 = ws.length) : okR 6 pl nn wa ws l1 l2 = (decide (l1 = 1) && (inB pl 0 65535 && (inB (ws.getD 0 0) 0 65535 && (decide (nn = 0) && (decide (wa = 0) && (decide (l2 = 0))))))) := by
 by_cases hl : l1 = 1
 ·rw [Bool.eq_iff_iff, okR, allW_one (by omega)]; simp [okR, okK, zrB, inB, fitB, rnB, hl]; omega
 rw [Bool.eq_iff_iff]; simp [okR, okK, zrB, hl]
theorem okI_15 (pl nn wa : Int) (ws : List Int) (l1 l2 : Nat) (h1 : l1 = ws.length) : okR 15 pl nn wa ws l1 l2 = (rnB pl (l2 : Int) 1968 && (decide (nn = 0) && (decide (wa = 0) && (decide (l1 = 0))))) := by
 by_cases hl : l1 = 0
 ·have hW : allW ws = true := allW_good (fun k hk => by omega)
  rw [Bool.eq_iff_iff]; simp [okR, okK, zrB, inB, fitB, rnB, hW, hl]; omega
 rw [Bool.eq_iff_iff]; simp [okR, okK, zrB, hl]
theorem okI_16 (pl nn wa : Int) (ws : List Int) (l1 l2 : Nat) (h1 : l1 = ws.length) : okR 16 pl nn wa ws l1 l2 = (rnB pl (l1 : Int) 123 && (allW ws && (decide (nn = 0) && (decide (wa = 0) && (decide (l2 = 0)))))) := by
 cases hW : allW ws
 ·simp [okR, hW]
 rw [Bool.eq_iff_iff]; simp [okR, okK, zrB, inB, fitB, rnB, hW]; omega
theorem okI_22 (pl nn wa : Int) (ws : List Int) (l1 l2 : Nat) (h1 : l1 = ws.length) : okR 22 pl nn wa ws l1 l2 = (decide (l1 = 2) && (inB pl 0 65535 && (inB (ws.getD 0 0) 0 65535 && (inB (ws.getD 1 0) 0 65535 && (decide (nn = 0) && (decide (wa = 0) && (decide (l2 = 0)))))))) := by
 by_cases hl : l1 = 2
 ·rw [Bool.eq_iff_iff, okR, allW_two (by omega)]; simp [okR, okK, zrB, inB, fitB, rnB, hl]; omega
 rw [Bool.eq_iff_iff]; simp [okR, okK, zrB, hl]
theorem okI_23 (pl nn wa : Int) (ws : List Int) (l1 l2 : Nat) (h1 : l1 = ws.length) : okR 23 pl nn wa ws l1 l2 = (rnB pl nn 125 && (rnB wa (l1 : Int) 121 && (allW ws && (decide (l2 = 0))))) := by
 cases hW : allW ws
 ·simp [okR, hW]
 rw [Bool.eq_iff_iff]; simp [okR, okK, zrB, inB, fitB, rnB, hW]; omega
theorem rq_false (kd pl nn wa : Int) (a1 a2 : Option Addr) (l1 l2 c1 c2 : Nat) (w : World) (q : Value)
 (hq : ∀ u, Below w.heap.size w u -> Calls Tryz.prog 111 #[rq kd pl nn wa a1 a2 l1 l2 c1 c2] u fun e u' => e = .returned q /\ Below u.heap.size u u')
 (hi : ∀ u, Below w.heap.size w u -> Calls Tryz.prog 112 #[q] u fun e u' => e = .returned (.bool false) /\ Below u.heap.size u u')
 : Calls Tryz.prog 92 #[rq kd pl nn wa a1 a2 l1 l2 c1 c2] w fun e w' => e = .returned .nilIface /\ Below w.heap.size w w' := by
 have B0 := bel_alloc w (.cells #[.int .i64 kd, .int .i64 pl, .int .i64 nn, .slice a1 l1 c1, .slice a2 l2 c2, .int .i64 wa] 39)
 have X0 := Blk.new w #[.int .i64 kd, .int .i64 pl, .int .i64 nn, .slice a1 l1 c1, .slice a2 l2 c2, .int .i64 wa] 39
 obtain ⟨x0, x1, x2, x3, x4, x5⟩ := X0.six
 go_enter Tryz.func92, Tryz.ntmps92
 go_wp2_with fail
 refine (hq _ B0).mono ?_
 rintro e w1 ⟨rfl, b'⟩
 have B1 := bel_next B0 b'
 have Y := X0.below b'
 clear X0 x0 x1 x2 x3 x4 x5 hq
 go_upto_region 2 with fail
 refine wp_region_any (by kernel_rfl) ?_
 (try (change wpAny _ _ _ _ _ _ _ (World.drew _)))
 refine wpAny_ready (rs := [0]) (by kernel_rfl) (by simp) ?_
 refine AllReady.cons rfl (fun K hK => ?_) AllReady.nil
 go_simp
 refine hK _ _ ?_
 clear hK K
 refine wpAny_ready (rs := [1]) (by kernel_rfl) (by simp) ?_
 refine AllReady.cons rfl (fun K hK => ?_) AllReady.nil
 go_simp
 go_wp2_with (go_at_call 112; refine (hi _ (by first | exact B1 | exact B1.drew)).mono ?_; rintro e w2 ⟨rfl, b2'⟩; have B2 := bel_next (by first | exact B1 | exact B1.drew) b2'; have Y2 := (Y.below (Below.refl _ _).drew).below b2'; clear b2' Y hi)
 try (refine hK _ _ ?_; clear hK K)
 obtain ⟨y0, y1, y2, y3, y4, y5⟩ := Y2.six
 refine wpAny_ready (rs := [2]) (by kernel_rfl) (by simp) ?_
 refine AllReady.cons rfl (fun K hK => ?_) AllReady.nil
 go_simp
 refine hK _ _ ?_
 clear hK K
 refine wpAny_ready (rs := [3, 5]) (by kernel_rfl) (by simp) ?_
 refine AllReady.cons rfl (fun K hK => ?_) ?_
 ·skip
  go_simp
  refine hK _ _ ?_
  clear hK K
  refine wpAny_ready (rs := [4, 5]) (by kernel_rfl) (by simp) ?_
  refine AllReady.cons rfl (fun K hK => ?_) ?_
  ·skip
   go_simp
   refine hK _ _ ?_
   clear hK K
   refine wpAny_ready (rs := [5]) (by kernel_rfl) (by simp) ?_
   refine AllReady.cons rfl (fun K hK => ?_) AllReady.nil
   go_simp
   refine hK _ _ ?_
   clear hK K
   refine wpAny_ready (rs := [6]) (by kernel_rfl) (by simp) ?_
   refine AllReady.cons rfl (fun K hK => ?_) AllReady.nil
   go_simp
   refine hK _ _ ?_
   clear hK K
   refine wpAny_ready (rs := [7]) (by kernel_rfl) (by simp) ?_
   refine AllReady.cons rfl (fun K hK => ?_) AllReady.nil
   go_simp
   refine hK _ _ ?_
   clear hK K
   refine wpAny_done (by kernel_rfl) ?_ _
   go_wp2
   go_ret
   exact ⟨rfl, B2⟩
  refine AllReady.cons rfl (fun K hK => ?_) AllReady.nil
  go_simp
  refine hK _ _ ?_
  clear hK K
  refine wpAny_ready (rs := [4]) (by kernel_rfl) (by simp) ?_
  refine AllReady.cons rfl (fun K hK => ?_) AllReady.nil
  go_simp
  refine hK _ _ ?_
  clear hK K
  refine wpAny_ready (rs := [6]) (by kernel_rfl) (by simp) ?_
  refine AllReady.cons rfl (fun K hK => ?_) AllReady.nil
  go_simp
  refine hK _ _ ?_
  clear hK K
  refine wpAny_ready (rs := [7]) (by kernel_rfl) (by simp) ?_
  refine AllReady.cons rfl (fun K hK => ?_) AllReady.nil
  go_simp
  refine hK _ _ ?_
  clear hK K
  refine wpAny_done (by kernel_rfl) ?_ _
  go_wp2
  go_ret
  exact ⟨rfl, B2⟩
 refine AllReady.cons rfl (fun K hK => ?_) AllReady.nil
 go_simp
 refine hK _ _ ?_
 clear hK K
 refine wpAny_ready (rs := [3]) (by kernel_rfl) (by simp) ?_
 refine AllReady.cons rfl (fun K hK => ?_) AllReady.nil
 go_simp
 refine hK _ _ ?_
 clear hK K
 refine wpAny_ready (rs := [4]) (by kernel_rfl) (by simp) ?_
 refine AllReady.cons rfl (fun K hK => ?_) AllReady.nil
 go_simp
 refine hK _ _ ?_
 clear hK K
 refine wpAny_ready (rs := [6]) (by kernel_rfl) (by simp) ?_
 refine AllReady.cons rfl (fun K hK => ?_) AllReady.nil
 go_simp
 refine hK _ _ ?_
 clear hK K
 refine wpAny_ready (rs := [7]) (by kernel_rfl) (by simp) ?_
 refine AllReady.cons rfl (fun K hK => ?_) AllReady.nil
 go_simp
 refine hK _ _ ?_
 clear hK K
 refine wpAny_done (by kernel_rfl) ?_ _
 go_wp2
 go_ret
 exact ⟨rfl, B2⟩
theorem rq_true (kd pl nn wa : Int) (a1 a2 : Option Addr) (l1 l2 c1 c2 : Nat) (w : World) (T : TypeId) (v : Value) (F : Nat) (bsm : Bool)
 (hq : ∀ u, Below w.heap.size w u -> Calls Tryz.prog 111 #[rq kd pl nn wa a1 a2 l1 l2 c1 c2] u fun e u' => e = .returned (.iface T v) /\ Below u.heap.size u u')
 (hi : ∀ u, Below w.heap.size w u -> Calls Tryz.prog 112 #[(.iface T v)] u fun e u' => e = .returned (.bool true) /\ Below u.heap.size u u')
 (hc : ∀ u, (callFunc F #[v]).run Tryz.prog u = .ok (.enter F #[v]) u)
 (hm : ∀ u, (method 289 T v "loop.example/g00129/impl.req").run Tryz.prog u = .ok (F, v) u)
 (hr : ∀ u, Below w.heap.size w u -> Calls Tryz.prog F #[v] u fun e u' => ∃ x, e = .returned x /\ Below u.heap.size u u' /\ Calls Tryz.prog 113 #[x, rq kd pl nn wa a1 a2 l1 l2 c1 c2] u' fun e u3 => e = .returned (.bool bsm) /\ Below u'.heap.size u' u3) :
 Calls Tryz.prog 92 #[rq kd pl nn wa a1 a2 l1 l2 c1 c2] w fun e w' => e = .returned (bif bsm then .iface T v else .nilIface) /\ Below w.heap.size w w' := by
 have B0 := bel_alloc w (.cells #[.int .i64 kd, .int .i64 pl, .int .i64 nn, .slice a1 l1 c1, .slice a2 l2 c2, .int .i64 wa] 39)
 have X0 := Blk.new w #[.int .i64 kd, .int .i64 pl, .int .i64 nn, .slice a1 l1 c1, .slice a2 l2 c2, .int .i64 wa] 39
 obtain ⟨x0, x1, x2, x3, x4, x5⟩ := X0.six
 go_enter Tryz.func92, Tryz.ntmps92
 go_wp2_with fail
 refine (hq _ B0).mono ?_
 rintro e w1 ⟨rfl, b'⟩
 have B1 := bel_next B0 b'
 have Y := X0.below b'
 clear X0 x0 x1 x2 x3 x4 x5 hq
 go_upto_region 2 with fail
 refine wp_region_any (by kernel_rfl) ?_
 (try (change wpAny _ _ _ _ _ _ _ (World.drew _)))
 refine wpAny_ready (rs := [0]) (by kernel_rfl) (by simp) ?_
 refine AllReady.cons rfl (fun K hK => ?_) AllReady.nil
 go_simp
 refine hK _ _ ?_
 clear hK K
 refine wpAny_ready (rs := [1]) (by kernel_rfl) (by simp) ?_
 refine AllReady.cons rfl (fun K hK => ?_) AllReady.nil
 go_simp
 go_wp2_with (go_at_call 112; refine (hi _ (by first | exact B1 | exact B1.drew)).mono ?_; rintro e w2 ⟨rfl, b2'⟩; have B2 := bel_next (by first | exact B1 | exact B1.drew) b2'; have Y2 := (Y.below (Below.refl _ _).drew).below b2'; clear b2' Y hi)
 try (refine hK _ _ ?_; clear hK K)
 obtain ⟨y0, y1, y2, y3, y4, y5⟩ := Y2.six
 refine wpAny_ready (rs := [2]) (by kernel_rfl) (by simp) ?_
 refine AllReady.cons rfl (fun K hK => ?_) AllReady.nil
 go_simp
 refine hK _ _ ?_
 clear hK K
 refine wpAny_ready (rs := [3, 5]) (by kernel_rfl) (by simp) ?_
 refine AllReady.cons rfl (fun K hK => ?_) ?_
 ·skip
  go_simp
  refine hK _ _ ?_
  clear hK K
  refine wpAny_ready (rs := [4, 5]) (by kernel_rfl) (by simp) ?_
  refine AllReady.cons rfl (fun K hK => ?_) ?_
  ·skip
   go_simp
   go_wp2_with (refine (hr _ B2).mono ?_; rintro e w3 ⟨x, rfl, b3', hs⟩; have B3 := bel_next B2 b3'; have Y3 := Y2.below b3'; clear b3' Y2 y0 y1 y2 y3 y4 y5)
   try (refine hK _ _ ?_; clear hK K)
   obtain ⟨y0, y1, y2, y3, y4, y5⟩ := Y3.six
   refine wpAny_ready (rs := [5]) (by kernel_rfl) (by simp) ?_
   refine AllReady.cons rfl (fun K hK => ?_) AllReady.nil
   go_simp
   refine hK _ _ ?_
   clear hK K
   refine wpAny_ready (rs := [6]) (by kernel_rfl) (by simp) ?_
   refine AllReady.cons rfl (fun K hK => ?_) AllReady.nil
   go_simp
   go_wp2_with (go_at_call 113; refine hs.mono ?_; rintro e w4 ⟨rfl, b4'⟩; have B4 := bel_next B3 b4'; clear b4' hs)
   try (refine hK _ _ ?_; clear hK K)
   refine wpAny_ready (rs := [7]) (by kernel_rfl) (by simp) ?_
   refine AllReady.cons rfl (fun K hK => ?_) AllReady.nil
   go_simp
   refine hK _ _ ?_
   clear hK K
   refine wpAny_done (by kernel_rfl) ?_ _
   cases bsm
   ·go_wp2
    go_ret
    exact ⟨rfl, B4⟩
   go_wp2
   go_ret
   exact ⟨rfl, B4⟩
  refine AllReady.cons rfl (fun K hK => ?_) AllReady.nil
  go_simp
  refine hK _ _ ?_
  clear hK K
  refine wpAny_ready (rs := [4]) (by kernel_rfl) (by simp) ?_
  refine AllReady.cons rfl (fun K hK => ?_) AllReady.nil
  go_simp
  go_wp2_with (refine (hr _ B2).mono ?_; rintro e w3 ⟨x, rfl, b3', hs⟩; have B3 := bel_next B2 b3'; have Y3 := Y2.below b3'; clear b3' Y2 y0 y1 y2 y3 y4 y5)
  try (refine hK _ _ ?_; clear hK K)
  obtain ⟨y0, y1, y2, y3, y4, y5⟩ := Y3.six
  refine wpAny_ready (rs := [6]) (by kernel_rfl) (by simp) ?_
  refine AllReady.cons rfl (fun K hK => ?_) AllReady.nil
  go_simp
  go_wp2_with (go_at_call 113; refine hs.mono ?_; rintro e w4 ⟨rfl, b4'⟩; have B4 := bel_next B3 b4'; clear b4' hs)
  try (refine hK _ _ ?_; clear hK K)
  refine wpAny_ready (rs := [7]) (by kernel_rfl) (by simp) ?_
  refine AllReady.cons rfl (fun K hK => ?_) AllReady.nil
  go_simp
  refine hK _ _ ?_
  clear hK K
  refine wpAny_done (by kernel_rfl) ?_ _
  cases bsm
  ·go_wp2
   go_ret
   exact ⟨rfl, B4⟩
  go_wp2
  go_ret
  exact ⟨rfl, B4⟩
 refine AllReady.cons rfl (fun K hK => ?_) AllReady.nil
 go_simp
 refine hK _ _ ?_
 clear hK K
 refine wpAny_ready (rs := [3]) (by kernel_rfl) (by simp) ?_
 refine AllReady.cons rfl (fun K hK => ?_) AllReady.nil
 go_simp
 refine hK _ _ ?_
 clear hK K
 refine wpAny_ready (rs := [4]) (by kernel_rfl) (by simp) ?_
 refine AllReady.cons rfl (fun K hK => ?_) AllReady.nil
 go_simp
 go_wp2_with (refine (hr _ B2).mono ?_; rintro e w3 ⟨x, rfl, b3', hs⟩; have B3 := bel_next B2 b3'; have Y3 := Y2.below b3'; clear b3' Y2 y0 y1 y2 y3 y4 y5)
 try (refine hK _ _ ?_; clear hK K)
 obtain ⟨y0, y1, y2, y3, y4, y5⟩ := Y3.six
 refine wpAny_ready (rs := [6]) (by kernel_rfl) (by simp) ?_
 refine AllReady.cons rfl (fun K hK => ?_) AllReady.nil
 go_simp
 go_wp2_with (go_at_call 113; refine hs.mono ?_; rintro e w4 ⟨rfl, b4'⟩; have B4 := bel_next B3 b4'; clear b4' hs)
 try (refine hK _ _ ?_; clear hK K)
 refine wpAny_ready (rs := [7]) (by kernel_rfl) (by simp) ?_
 refine AllReady.cons rfl (fun K hK => ?_) AllReady.nil
 go_simp
 refine hK _ _ ?_
 clear hK K
 refine wpAny_done (by kernel_rfl) ?_ _
 cases bsm
 ·go_wp2
  go_ret
  exact ⟨rfl, B4⟩
 go_wp2
 go_ret
 exact ⟨rfl, B4⟩
theorem rightQuestion_1 (pl nn wa : Int) (a1 a2 : Option Addr) (l1 l2 c1 c2 : Nat) (ws : List Int) (bs : List Bool) (w : World) (h1 : l1 = ws.length) (h2 : l2 = bs.length) (s1 : SlI w a1 ws) (s2 : SlB w a2 bs) (hl1 : ws.length <= 2000000) (hl2 : bs.length <= 2000000) (b : Bool) (hb : okR 1 pl nn wa ws l1 l2 = b) :
 Calls Tryz.prog 92 #[rq 1 pl nn wa a1 a2 l1 l2 c1 c2] w fun e w' => e = .returned (bif b then .iface 147 (.agg #[.int .i64 pl, .int .i64 nn]) else .nilIface) /\ Below w.heap.size w w' := by
 subst hb
 rw [okI_1 _ _ _ _ _ _ h1]
 rw [show (rnB pl nn 2000 && (decide (wa = 0) && (decide (l1 = 0) && (decide (l2 = 0))))) = ((rnB pl nn 2000) && (decide (wa = 0) && (decide (l1 = 0) && (decide (l2 = 0))))) from by simp only [Bool.and_assoc]]
 cases hI : (rnB pl nn 2000)
 ·rw [Bool.false_and]
  exact rq_false 1 pl nn wa a1 a2 l1 l2 c1 c2 w _ (fun u hu => questionOf_1 pl nn wa a1 a2 l1 l2 c1 c2 u) (fun u hu => isRight_1 _ _ u _ hI)
 rw [Bool.true_and]
 refine rq_true 1 pl nn wa a1 a2 l1 l2 c1 c2 w _ _ 153 _ (fun u hu => questionOf_1 pl nn wa a1 a2 l1 l2 c1 c2 u) (fun u hu => isRight_1 _ _ u _ hI) (callf_1 _) (meth_1 _) (fun u hu => (req_1 _ _ u).mono ?_)
 rintro e u' ⟨rfl, bu⟩
 refine ⟨_, rfl, bu, ?_⟩
 have hu2 := bel_next hu bu
 by_cases hww : wa = 0
 rotate_left
 ·rw [decide_eq_false hww]
  exact sameReq_w _ _ _ _ _ _ _ _ _ _ _ _ _ _ _ _ _ _ _ rfl (fun h => hww h.symm)
 rw [decide_eq_true hww, Bool.true_and]
 by_cases hll1 : l1 = 0
 rotate_left
 ·rw [decide_eq_false hll1]
  exact sameReq_1 _ _ _ _ _ _ _ _ _ _ _ _ _ _ _ _ _ _ _ rfl hww (by omega) (by omega) (by omega)
 rw [decide_eq_true hll1, Bool.true_and]
 by_cases hll2 : l2 = 0
 rotate_left
 ·rw [decide_eq_false hll2]
  exact sameReq_2 _ _ _ _ _ _ _ _ _ _ _ _ _ _ _ _ _ _ _ rfl hww [] rfl hll1 (.inl rfl) (.inl rfl) (by simp) (by omega) (by omega) (by omega)
 rw [decide_eq_true hll2]
 exact sameReq_t _ _ _ _ _ _ _ _ _ _ _ _ _ _ _ _ _ _ _ rfl hww [] rfl hll1 (.inl rfl) (.inl rfl) (by simp) [] rfl hll2 (.inl rfl) (.inl rfl) (by simp)
theorem rightQuestion_2 (pl nn wa : Int) (a1 a2 : Option Addr) (l1 l2 c1 c2 : Nat) (ws : List Int) (bs : List Bool) (w : World) (h1 : l1 = ws.length) (h2 : l2 = bs.length) (s1 : SlI w a1 ws) (s2 : SlB w a2 bs) (hl1 : ws.length <= 2000000) (hl2 : bs.length <= 2000000) (b : Bool) (hb : okR 2 pl nn wa ws l1 l2 = b) :
 Calls Tryz.prog 92 #[rq 2 pl nn wa a1 a2 l1 l2 c1 c2] w fun e w' => e = .returned (bif b then .iface 148 (.agg #[.int .i64 pl, .int .i64 nn]) else .nilIface) /\ Below w.heap.size w w' := by
 subst hb
 rw [okI_2 _ _ _ _ _ _ h1]
 rw [show (rnB pl nn 2000 && (decide (wa = 0) && (decide (l1 = 0) && (decide (l2 = 0))))) = ((rnB pl nn 2000) && (decide (wa = 0) && (decide (l1 = 0) && (decide (l2 = 0))))) from by simp only [Bool.and_assoc]]
 cases hI : (rnB pl nn 2000)
 ·rw [Bool.false_and]
  exact rq_false 2 pl nn wa a1 a2 l1 l2 c1 c2 w _ (fun u hu => questionOf_2 pl nn wa a1 a2 l1 l2 c1 c2 u) (fun u hu => isRight_2 _ _ u _ hI)
 rw [Bool.true_and]
 refine rq_true 2 pl nn wa a1 a2 l1 l2 c1 c2 w _ _ 154 _ (fun u hu => questionOf_2 pl nn wa a1 a2 l1 l2 c1 c2 u) (fun u hu => isRight_2 _ _ u _ hI) (callf_2 _) (meth_2 _) (fun u hu => (req_2 _ _ u).mono ?_)
 rintro e u' ⟨rfl, bu⟩
 refine ⟨_, rfl, bu, ?_⟩
 have hu2 := bel_next hu bu
 by_cases hww : wa = 0
 rotate_left
 ·rw [decide_eq_false hww]
  exact sameReq_w _ _ _ _ _ _ _ _ _ _ _ _ _ _ _ _ _ _ _ rfl (fun h => hww h.symm)
 rw [decide_eq_true hww, Bool.true_and]
 by_cases hll1 : l1 = 0
 rotate_left
 ·rw [decide_eq_false hll1]
  exact sameReq_1 _ _ _ _ _ _ _ _ _ _ _ _ _ _ _ _ _ _ _ rfl hww (by omega) (by omega) (by omega)
 rw [decide_eq_true hll1, Bool.true_and]
 by_cases hll2 : l2 = 0
 rotate_left
 ·rw [decide_eq_false hll2]
  exact sameReq_2 _ _ _ _ _ _ _ _ _ _ _ _ _ _ _ _ _ _ _ rfl hww [] rfl hll1 (.inl rfl) (.inl rfl) (by simp) (by omega) (by omega) (by omega)
 rw [decide_eq_true hll2]
 exact sameReq_t _ _ _ _ _ _ _ _ _ _ _ _ _ _ _ _ _ _ _ rfl hww [] rfl hll1 (.inl rfl) (.inl rfl) (by simp) [] rfl hll2 (.inl rfl) (.inl rfl) (by simp)
theorem rightQuestion_3 (pl nn wa : Int) (a1 a2 : Option Addr) (l1 l2 c1 c2 : Nat) (ws : List Int) (bs : List Bool) (w : World) (h1 : l1 = ws.length) (h2 : l2 = bs.length) (s1 : SlI w a1 ws) (s2 : SlB w a2 bs) (hl1 : ws.length <= 2000000) (hl2 : bs.length <= 2000000) (b : Bool) (hb : okR 3 pl nn wa ws l1 l2 = b) :
 Calls Tryz.prog 92 #[rq 3 pl nn wa a1 a2 l1 l2 c1 c2] w fun e w' => e = .returned (bif b then .iface 149 (.agg #[.int .i64 pl, .int .i64 nn]) else .nilIface) /\ Below w.heap.size w w' := by
 subst hb
 rw [okI_3 _ _ _ _ _ _ h1]
 rw [show (rnB pl nn 125 && (decide (wa = 0) && (decide (l1 = 0) && (decide (l2 = 0))))) = ((rnB pl nn 125) && (decide (wa = 0) && (decide (l1 = 0) && (decide (l2 = 0))))) from by simp only [Bool.and_assoc]]
 cases hI : (rnB pl nn 125)
 ·rw [Bool.false_and]
  exact rq_false 3 pl nn wa a1 a2 l1 l2 c1 c2 w _ (fun u hu => questionOf_3 pl nn wa a1 a2 l1 l2 c1 c2 u) (fun u hu => isRight_3 _ _ u _ hI)
 rw [Bool.true_and]
 refine rq_true 3 pl nn wa a1 a2 l1 l2 c1 c2 w _ _ 155 _ (fun u hu => questionOf_3 pl nn wa a1 a2 l1 l2 c1 c2 u) (fun u hu => isRight_3 _ _ u _ hI) (callf_3 _) (meth_3 _) (fun u hu => (req_3 _ _ u).mono ?_)
 rintro e u' ⟨rfl, bu⟩
 refine ⟨_, rfl, bu, ?_⟩
 have hu2 := bel_next hu bu
 by_cases hww : wa = 0
 rotate_left
 ·rw [decide_eq_false hww]
  exact sameReq_w _ _ _ _ _ _ _ _ _ _ _ _ _ _ _ _ _ _ _ rfl (fun h => hww h.symm)
 rw [decide_eq_true hww, Bool.true_and]
 by_cases hll1 : l1 = 0
 rotate_left
 ·rw [decide_eq_false hll1]
  exact sameReq_1 _ _ _ _ _ _ _ _ _ _ _ _ _ _ _ _ _ _ _ rfl hww (by omega) (by omega) (by omega)
 rw [decide_eq_true hll1, Bool.true_and]
 by_cases hll2 : l2 = 0
 rotate_left
 ·rw [decide_eq_false hll2]
  exact sameReq_2 _ _ _ _ _ _ _ _ _ _ _ _ _ _ _ _ _ _ _ rfl hww [] rfl hll1 (.inl rfl) (.inl rfl) (by simp) (by omega) (by omega) (by omega)
 rw [decide_eq_true hll2]
 exact sameReq_t _ _ _ _ _ _ _ _ _ _ _ _ _ _ _ _ _ _ _ rfl hww [] rfl hll1 (.inl rfl) (.inl rfl) (by simp) [] rfl hll2 (.inl rfl) (.inl rfl) (by simp)
theorem rightQuestion_4 (pl nn wa : Int) (a1 a2 : Option Addr) (l1 l2 c1 c2 : Nat) (ws : List Int) (bs : List Bool) (w : World) (h1 : l1 = ws.length) (h2 : l2 = bs.length) (s1 : SlI w a1 ws) (s2 : SlB w a2 bs) (hl1 : ws.length <= 2000000) (hl2 : bs.length <= 2000000) (b : Bool) (hb : okR 4 pl nn wa ws l1 l2 = b) :
 Calls Tryz.prog 92 #[rq 4 pl nn wa a1 a2 l1 l2 c1 c2] w fun e w' => e = .returned (bif b then .iface 150 (.agg #[.int .i64 pl, .int .i64 nn]) else .nilIface) /\ Below w.heap.size w w' := by
 subst hb
 rw [okI_4 _ _ _ _ _ _ h1]
 rw [show (rnB pl nn 125 && (decide (wa = 0) && (decide (l1 = 0) && (decide (l2 = 0))))) = ((rnB pl nn 125) && (decide (wa = 0) && (decide (l1 = 0) && (decide (l2 = 0))))) from by simp only [Bool.and_assoc]]
 cases hI : (rnB pl nn 125)
 ·rw [Bool.false_and]
  exact rq_false 4 pl nn wa a1 a2 l1 l2 c1 c2 w _ (fun u hu => questionOf_4 pl nn wa a1 a2 l1 l2 c1 c2 u) (fun u hu => isRight_4 _ _ u _ hI)
 rw [Bool.true_and]
 refine rq_true 4 pl nn wa a1 a2 l1 l2 c1 c2 w _ _ 156 _ (fun u hu => questionOf_4 pl nn wa a1 a2 l1 l2 c1 c2 u) (fun u hu => isRight_4 _ _ u _ hI) (callf_4 _) (meth_4 _) (fun u hu => (req_4 _ _ u).mono ?_)
 rintro e u' ⟨rfl, bu⟩
 refine ⟨_, rfl, bu, ?_⟩
 have hu2 := bel_next hu bu
 by_cases hww : wa = 0
 rotate_left
 ·rw [decide_eq_false hww]
  exact sameReq_w _ _ _ _ _ _ _ _ _ _ _ _ _ _ _ _ _ _ _ rfl (fun h => hww h.symm)
 rw [decide_eq_true hww, Bool.true_and]
 by_cases hll1 : l1 = 0
 rotate_left
 ·rw [decide_eq_false hll1]
  exact sameReq_1 _ _ _ _ _ _ _ _ _ _ _ _ _ _ _ _ _ _ _ rfl hww (by omega) (by omega) (by omega)
 rw [decide_eq_true hll1, Bool.true_and]
 by_cases hll2 : l2 = 0
 rotate_left
 ·rw [decide_eq_false hll2]
  exact sameReq_2 _ _ _ _ _ _ _ _ _ _ _ _ _ _ _ _ _ _ _ rfl hww [] rfl hll1 (.inl rfl) (.inl rfl) (by simp) (by omega) (by omega) (by omega)
 rw [decide_eq_true hll2]
 exact sameReq_t _ _ _ _ _ _ _ _ _ _ _ _ _ _ _ _ _ _ _ rfl hww [] rfl hll1 (.inl rfl) (.inl rfl) (by simp) [] rfl hll2 (.inl rfl) (.inl rfl) (by simp)
theorem rightQuestion_5 (pl nn wa : Int) (a1 a2 : Option Addr) (l1 l2 c1 c2 : Nat) (ws : List Int) (bs : List Bool) (w : World) (h1 : l1 = ws.length) (h2 : l2 = bs.length) (s1 : SlI w a1 ws) (s2 : SlB w a2 bs) (hl1 : ws.length <= 2000000) (hl2 : bs.length <= 2000000) (b : Bool) (hb : okR 5 pl nn wa ws l1 l2 = b) :
 Calls Tryz.prog 92 #[rq 5 pl nn wa a1 a2 l1 l2 c1 c2] w fun e w' => e = .returned (bif b then .iface 152 (.agg #[.int .i64 pl, .bool (bs.getD 0 false)]) else .nilIface) /\ Below w.heap.size w w' := by
 subst hb
 rw [okI_5 _ _ _ _ _ _ h1]
 by_cases hL : l2 = 1
 rotate_left
 ·rw [decide_eq_false hL]
  exact rq_false 5 pl nn wa a1 a2 l1 l2 c1 c2 w .nilIface (fun u hu => questionOf_5n pl nn wa a1 a2 l1 l2 c1 c2 u (by simp; omega)) (fun u hu => isRight_n u)
 rw [decide_eq_true hL, Bool.true_and]
 rw [show (inB pl 0 65535 && (decide (nn = 0) && (decide (wa = 0) && (decide (l1 = 0))))) = ((inB pl 0 65535) && (decide (nn = 0) && (decide (wa = 0) && (decide (l1 = 0))))) from by simp only [Bool.and_assoc]]
 cases hI : (inB pl 0 65535)
 ·rw [Bool.false_and]
  exact rq_false 5 pl nn wa a1 a2 l1 l2 c1 c2 w _ (fun u hu => questionOf_5 pl nn wa a1 a2 l1 l2 c1 c2 u bs h2 (by omega) (s2.below hu)) (fun u hu => isRight_5 _ _ u _ hI)
 rw [Bool.true_and]
 refine rq_true 5 pl nn wa a1 a2 l1 l2 c1 c2 w _ _ 157 _ (fun u hu => questionOf_5 pl nn wa a1 a2 l1 l2 c1 c2 u bs h2 (by omega) (s2.below hu)) (fun u hu => isRight_5 _ _ u _ hI) (callf_5 _) (meth_5 _) (fun u hu => (req_5 _ _ u).mono ?_)
 rintro e u' ⟨rfl, n3, bu⟩
 refine ⟨_, rfl, bu, ?_⟩
 have hu2 := bel_next hu bu
 by_cases hnn : nn = 0
 rotate_left
 ·rw [decide_eq_false hnn]
  exact sameReq_n _ _ _ _ _ _ _ _ _ _ _ _ _ _ _ _ _ _ _ (fun h => hnn h.symm)
 rw [decide_eq_true hnn, Bool.true_and]
 by_cases hww : wa = 0
 rotate_left
 ·rw [decide_eq_false hww]
  exact sameReq_w _ _ _ _ _ _ _ _ _ _ _ _ _ _ _ _ _ _ _ hnn (fun h => hww h.symm)
 rw [decide_eq_true hww, Bool.true_and]
 by_cases hll1 : l1 = 0
 rotate_left
 ·rw [decide_eq_false hll1]
  exact sameReq_1 _ _ _ _ _ _ _ _ _ _ _ _ _ _ _ _ _ _ _ hnn hww (by omega) (by omega) (by omega)
 rw [decide_eq_true hll1]
 exact sameReq_t _ _ _ _ _ _ _ _ _ _ _ _ _ _ _ _ _ _ _ hnn hww [] rfl hll1 (.inl rfl) (.inl rfl) (by simp) [bs.getD 0 false] rfl hL n3 (by have := s2.below hu2; rw [list_one (bs := bs) (by omega)] at this; exact this) (by simp)
theorem rightQuestion_6 (pl nn wa : Int) (a1 a2 : Option Addr) (l1 l2 c1 c2 : Nat) (ws : List Int) (bs : List Bool) (w : World) (h1 : l1 = ws.length) (h2 : l2 = bs.length) (s1 : SlI w a1 ws) (s2 : SlB w a2 bs) (hl1 : ws.length <= 2000000) (hl2 : bs.length <= 2000000) (b : Bool) (hb : okR 6 pl nn wa ws l1 l2 = b) :
 Calls Tryz.prog 92 #[rq 6 pl nn wa a1 a2 l1 l2 c1 c2] w fun e w' => e = .returned (bif b then .iface 154 (.agg #[.int .i64 pl, .int .i64 (ws.getD 0 0)]) else .nilIface) /\ Below w.heap.size w w' := by
 subst hb
 rw [okI_6 _ _ _ _ _ _ h1]
 by_cases hL : l1 = 1
 rotate_left
 ·rw [decide_eq_false hL]
  exact rq_false 6 pl nn wa a1 a2 l1 l2 c1 c2 w .nilIface (fun u hu => questionOf_6n pl nn wa a1 a2 l1 l2 c1 c2 u (by simp; omega)) (fun u hu => isRight_n u)
 rw [decide_eq_true hL, Bool.true_and]
 rw [show (inB pl 0 65535 && (inB (ws.getD 0 0) 0 65535 && (decide (nn = 0) && (decide (wa = 0) && (decide (l2 = 0)))))) = ((inB pl 0 65535 && inB (ws.getD 0 0) 0 65535) && (decide (nn = 0) && (decide (wa = 0) && (decide (l2 = 0))))) from by simp only [Bool.and_assoc]]
 cases hI : (inB pl 0 65535 && inB (ws.getD 0 0) 0 65535)
 ·rw [Bool.false_and]
  exact rq_false 6 pl nn wa a1 a2 l1 l2 c1 c2 w _ (fun u hu => questionOf_6 pl nn wa a1 a2 l1 l2 c1 c2 u ws h1 (by omega) (s1.below hu)) (fun u hu => isRight_6 _ _ u _ hI)
 rw [Bool.true_and]
 refine rq_true 6 pl nn wa a1 a2 l1 l2 c1 c2 w _ _ 158 _ (fun u hu => questionOf_6 pl nn wa a1 a2 l1 l2 c1 c2 u ws h1 (by omega) (s1.below hu)) (fun u hu => isRight_6 _ _ u _ hI) (callf_6 _) (meth_6 _) (fun u hu => (req_6 _ _ u).mono ?_)
 rintro e u' ⟨rfl, n3, bu⟩
 refine ⟨_, rfl, bu, ?_⟩
 have hu2 := bel_next hu bu
 by_cases hnn : nn = 0
 rotate_left
 ·rw [decide_eq_false hnn]
  exact sameReq_n _ _ _ _ _ _ _ _ _ _ _ _ _ _ _ _ _ _ _ (fun h => hnn h.symm)
 rw [decide_eq_true hnn, Bool.true_and]
 by_cases hww : wa = 0
 rotate_left
 ·rw [decide_eq_false hww]
  exact sameReq_w _ _ _ _ _ _ _ _ _ _ _ _ _ _ _ _ _ _ _ hnn (fun h => hww h.symm)
 rw [decide_eq_true hww, Bool.true_and]
 by_cases hll2 : l2 = 0
 rotate_left
 ·rw [decide_eq_false hll2]
  exact sameReq_2 _ _ _ _ _ _ _ _ _ _ _ _ _ _ _ _ _ _ _ hnn hww [ws.getD 0 0] rfl hL n3 (by have := s1.below hu2; rw [ints_one (ws := ws) (by omega)] at this; exact this) (by simp) (by omega) (by omega) (by omega)
 rw [decide_eq_true hll2]
 exact sameReq_t _ _ _ _ _ _ _ _ _ _ _ _ _ _ _ _ _ _ _ hnn hww [ws.getD 0 0] rfl hL n3 (by have := s1.below hu2; rw [ints_one (ws := ws) (by omega)] at this; exact this) (by simp) [] rfl hll2 (.inl rfl) (.inl rfl) (by simp)
theorem rightQuestion_15 (pl nn wa : Int) (a1 a2 : Option Addr) (l1 l2 c1 c2 : Nat) (ws : List Int) (bs : List Bool) (w : World) (h1 : l1 = ws.length) (h2 : l2 = bs.length) (s1 : SlI w a1 ws) (s2 : SlB w a2 bs) (hl1 : ws.length <= 2000000) (hl2 : bs.length <= 2000000) (b : Bool) (hb : okR 15 pl nn wa ws l1 l2 = b) :
 Calls Tryz.prog 92 #[rq 15 pl nn wa a1 a2 l1 l2 c1 c2] w fun e w' => e = .returned (bif b then .iface 156 (.agg #[.int .i64 pl, .slice a2 l2 c2]) else .nilIface) /\ Below w.heap.size w w' := by
 subst hb
 rw [okI_15 _ _ _ _ _ _ h1]
 rw [show (rnB pl (l2 : Int) 1968 && (decide (nn = 0) && (decide (wa = 0) && (decide (l1 = 0))))) = ((rnB pl (l2 : Int) 1968) && (decide (nn = 0) && (decide (wa = 0) && (decide (l1 = 0))))) from by simp only [Bool.and_assoc]]
 cases hI : (rnB pl (l2 : Int) 1968)
 ·rw [Bool.false_and]
  exact rq_false 15 pl nn wa a1 a2 l1 l2 c1 c2 w _ (fun u hu => questionOf_15 pl nn wa a1 a2 l1 l2 c1 c2 u) (fun u hu => isRight_15 _ _ _ _ u _ hI)
 rw [Bool.true_and]
 refine rq_true 15 pl nn wa a1 a2 l1 l2 c1 c2 w _ _ 159 _ (fun u hu => questionOf_15 pl nn wa a1 a2 l1 l2 c1 c2 u) (fun u hu => isRight_15 _ _ _ _ u _ hI) (callf_15 _) (meth_15 _) (fun u hu => (req_15 _ _ _ _ u).mono ?_)
 rintro e u' ⟨rfl, bu⟩
 refine ⟨_, rfl, bu, ?_⟩
 have hu2 := bel_next hu bu
 by_cases hnn : nn = 0
 rotate_left
 ·rw [decide_eq_false hnn]
  exact sameReq_n _ _ _ _ _ _ _ _ _ _ _ _ _ _ _ _ _ _ _ (fun h => hnn h.symm)
 rw [decide_eq_true hnn, Bool.true_and]
 by_cases hww : wa = 0
 rotate_left
 ·rw [decide_eq_false hww]
  exact sameReq_w _ _ _ _ _ _ _ _ _ _ _ _ _ _ _ _ _ _ _ hnn (fun h => hww h.symm)
 rw [decide_eq_true hww, Bool.true_and]
 by_cases hll1 : l1 = 0
 rotate_left
 ·rw [decide_eq_false hll1]
  exact sameReq_1 _ _ _ _ _ _ _ _ _ _ _ _ _ _ _ _ _ _ _ hnn hww (by omega) (by omega) (by omega)
 rw [decide_eq_true hll1]
 exact sameReq_t _ _ _ _ _ _ _ _ _ _ _ _ _ _ _ _ _ _ _ hnn hww [] rfl hll1 (.inl rfl) (.inl rfl) (by simp) bs h2 h2 (s2.below hu2) (s2.below hu2) hl2
theorem rightQuestion_16 (pl nn wa : Int) (a1 a2 : Option Addr) (l1 l2 c1 c2 : Nat) (ws : List Int) (bs : List Bool) (w : World) (h1 : l1 = ws.length) (h2 : l2 = bs.length) (s1 : SlI w a1 ws) (s2 : SlB w a2 bs) (hl1 : ws.length <= 2000000) (hl2 : bs.length <= 2000000) (b : Bool) (hb : okR 16 pl nn wa ws l1 l2 = b) :
 Calls Tryz.prog 92 #[rq 16 pl nn wa a1 a2 l1 l2 c1 c2] w fun e w' => e = .returned (bif b then .iface 158 (.agg #[.int .i64 pl, .slice a1 l1 c1]) else .nilIface) /\ Below w.heap.size w w' := by
 subst hb
 rw [okI_16 _ _ _ _ _ _ h1]
 rw [show (rnB pl (l1 : Int) 123 && (allW ws && (decide (nn = 0) && (decide (wa = 0) && (decide (l2 = 0)))))) = ((rnB pl (l1 : Int) 123 && allW ws) && (decide (nn = 0) && (decide (wa = 0) && (decide (l2 = 0))))) from by simp only [Bool.and_assoc]]
 cases hI : (rnB pl (l1 : Int) 123 && allW ws)
 ·rw [Bool.false_and]
  exact rq_false 16 pl nn wa a1 a2 l1 l2 c1 c2 w _ (fun u hu => questionOf_16 pl nn wa a1 a2 l1 l2 c1 c2 u) (fun u hu => isRight_16 _ _ _ _ ws u h1 (s1.below hu) hl1 _ hI)
 rw [Bool.true_and]
 refine rq_true 16 pl nn wa a1 a2 l1 l2 c1 c2 w _ _ 160 _ (fun u hu => questionOf_16 pl nn wa a1 a2 l1 l2 c1 c2 u) (fun u hu => isRight_16 _ _ _ _ ws u h1 (s1.below hu) hl1 _ hI) (callf_16 _) (meth_16 _) (fun u hu => (req_16 _ _ _ _ u).mono ?_)
 rintro e u' ⟨rfl, bu⟩
 refine ⟨_, rfl, bu, ?_⟩
 have hu2 := bel_next hu bu
 by_cases hnn : nn = 0
 rotate_left
 ·rw [decide_eq_false hnn]
  exact sameReq_n _ _ _ _ _ _ _ _ _ _ _ _ _ _ _ _ _ _ _ (fun h => hnn h.symm)
 rw [decide_eq_true hnn, Bool.true_and]
 by_cases hww : wa = 0
 rotate_left
 ·rw [decide_eq_false hww]
  exact sameReq_w _ _ _ _ _ _ _ _ _ _ _ _ _ _ _ _ _ _ _ hnn (fun h => hww h.symm)
 rw [decide_eq_true hww, Bool.true_and]
 by_cases hll2 : l2 = 0
 rotate_left
 ·rw [decide_eq_false hll2]
  exact sameReq_2 _ _ _ _ _ _ _ _ _ _ _ _ _ _ _ _ _ _ _ hnn hww ws h1 h1 (s1.below hu2) (s1.below hu2) hl1 (by omega) (by omega) (by omega)
 rw [decide_eq_true hll2]
 exact sameReq_t _ _ _ _ _ _ _ _ _ _ _ _ _ _ _ _ _ _ _ hnn hww ws h1 h1 (s1.below hu2) (s1.below hu2) hl1 [] rfl hll2 (.inl rfl) (.inl rfl) (by simp)
theorem rightQuestion_22 (pl nn wa : Int) (a1 a2 : Option Addr) (l1 l2 c1 c2 : Nat) (ws : List Int) (bs : List Bool) (w : World) (h1 : l1 = ws.length) (h2 : l2 = bs.length) (s1 : SlI w a1 ws) (s2 : SlB w a2 bs) (hl1 : ws.length <= 2000000) (hl2 : bs.length <= 2000000) (b : Bool) (hb : okR 22 pl nn wa ws l1 l2 = b) :
 Calls Tryz.prog 92 #[rq 22 pl nn wa a1 a2 l1 l2 c1 c2] w fun e w' => e = .returned (bif b then .iface 160 (.agg #[.int .i64 pl, .int .i64 (ws.getD 0 0), .int .i64 (ws.getD 1 0)]) else .nilIface) /\ Below w.heap.size w w' := by
 subst hb
 rw [okI_22 _ _ _ _ _ _ h1]
 by_cases hL : l1 = 2
 rotate_left
 ·rw [decide_eq_false hL]
  exact rq_false 22 pl nn wa a1 a2 l1 l2 c1 c2 w .nilIface (fun u hu => questionOf_22n pl nn wa a1 a2 l1 l2 c1 c2 u (by simp; omega)) (fun u hu => isRight_n u)
 rw [decide_eq_true hL, Bool.true_and]
 rw [show (inB pl 0 65535 && (inB (ws.getD 0 0) 0 65535 && (inB (ws.getD 1 0) 0 65535 && (decide (nn = 0) && (decide (wa = 0) && (decide (l2 = 0))))))) = ((inB pl 0 65535 && (inB (ws.getD 0 0) 0 65535 && inB (ws.getD 1 0) 0 65535)) && (decide (nn = 0) && (decide (wa = 0) && (decide (l2 = 0))))) from by simp only [Bool.and_assoc]]
 cases hI : (inB pl 0 65535 && (inB (ws.getD 0 0) 0 65535 && inB (ws.getD 1 0) 0 65535))
 ·rw [Bool.false_and]
  exact rq_false 22 pl nn wa a1 a2 l1 l2 c1 c2 w _ (fun u hu => questionOf_22 pl nn wa a1 a2 l1 l2 c1 c2 u ws h1 (by omega) (s1.below hu)) (fun u hu => isRight_22 _ _ _ u _ hI)
 rw [Bool.true_and]
 refine rq_true 22 pl nn wa a1 a2 l1 l2 c1 c2 w _ _ 161 _ (fun u hu => questionOf_22 pl nn wa a1 a2 l1 l2 c1 c2 u ws h1 (by omega) (s1.below hu)) (fun u hu => isRight_22 _ _ _ u _ hI) (callf_22 _) (meth_22 _) (fun u hu => (req_22 _ _ _ u).mono ?_)
 rintro e u' ⟨rfl, n3, bu⟩
 refine ⟨_, rfl, bu, ?_⟩
 have hu2 := bel_next hu bu
 by_cases hnn : nn = 0
 rotate_left
 ·rw [decide_eq_false hnn]
  exact sameReq_n _ _ _ _ _ _ _ _ _ _ _ _ _ _ _ _ _ _ _ (fun h => hnn h.symm)
 rw [decide_eq_true hnn, Bool.true_and]
 by_cases hww : wa = 0
 rotate_left
 ·rw [decide_eq_false hww]
  exact sameReq_w _ _ _ _ _ _ _ _ _ _ _ _ _ _ _ _ _ _ _ hnn (fun h => hww h.symm)
 rw [decide_eq_true hww, Bool.true_and]
 by_cases hll2 : l2 = 0
 rotate_left
 ·rw [decide_eq_false hll2]
  exact sameReq_2 _ _ _ _ _ _ _ _ _ _ _ _ _ _ _ _ _ _ _ hnn hww [ws.getD 0 0, ws.getD 1 0] rfl hL n3 (by have := s1.below hu2; rw [ints_two (ws := ws) (by omega)] at this; exact this) (by simp) (by omega) (by omega) (by omega)
 rw [decide_eq_true hll2]
 exact sameReq_t _ _ _ _ _ _ _ _ _ _ _ _ _ _ _ _ _ _ _ hnn hww [ws.getD 0 0, ws.getD 1 0] rfl hL n3 (by have := s1.below hu2; rw [ints_two (ws := ws) (by omega)] at this; exact this) (by simp) [] rfl hll2 (.inl rfl) (.inl rfl) (by simp)
theorem rightQuestion_23 (pl nn wa : Int) (a1 a2 : Option Addr) (l1 l2 c1 c2 : Nat) (ws : List Int) (bs : List Bool) (w : World) (h1 : l1 = ws.length) (h2 : l2 = bs.length) (s1 : SlI w a1 ws) (s2 : SlB w a2 bs) (hl1 : ws.length <= 2000000) (hl2 : bs.length <= 2000000) (b : Bool) (hb : okR 23 pl nn wa ws l1 l2 = b) :
 Calls Tryz.prog 92 #[rq 23 pl nn wa a1 a2 l1 l2 c1 c2] w fun e w' => e = .returned (bif b then .iface 162 (.agg #[.int .i64 pl, .int .i64 nn, .int .i64 wa, .slice a1 l1 c1]) else .nilIface) /\ Below w.heap.size w w' := by
 subst hb
 rw [okI_23 _ _ _ _ _ _ h1]
 rw [show (rnB pl nn 125 && (rnB wa (l1 : Int) 121 && (allW ws && (decide (l2 = 0))))) = ((rnB pl nn 125 && (rnB wa (l1 : Int) 121 && allW ws)) && (decide (l2 = 0))) from by simp only [Bool.and_assoc]]
 cases hI : (rnB pl nn 125 && (rnB wa (l1 : Int) 121 && allW ws))
 ·rw [Bool.false_and]
  exact rq_false 23 pl nn wa a1 a2 l1 l2 c1 c2 w _ (fun u hu => questionOf_23 pl nn wa a1 a2 l1 l2 c1 c2 u) (fun u hu => isRight_23 _ _ _ _ _ _ ws u h1 (s1.below hu) hl1 _ hI)
 rw [Bool.true_and]
 refine rq_true 23 pl nn wa a1 a2 l1 l2 c1 c2 w _ _ 162 _ (fun u hu => questionOf_23 pl nn wa a1 a2 l1 l2 c1 c2 u) (fun u hu => isRight_23 _ _ _ _ _ _ ws u h1 (s1.below hu) hl1 _ hI) (callf_23 _) (meth_23 _) (fun u hu => (req_23 _ _ _ _ _ _ u).mono ?_)
 rintro e u' ⟨rfl, bu⟩
 refine ⟨_, rfl, bu, ?_⟩
 have hu2 := bel_next hu bu
 by_cases hll2 : l2 = 0
 rotate_left
 ·rw [decide_eq_false hll2]
  exact sameReq_2 _ _ _ _ _ _ _ _ _ _ _ _ _ _ _ _ _ _ _ rfl rfl ws h1 h1 (s1.below hu2) (s1.below hu2) hl1 (by omega) (by omega) (by omega)
 rw [decide_eq_true hll2]
 exact sameReq_t _ _ _ _ _ _ _ _ _ _ _ _ _ _ _ _ _ _ _ rfl rfl ws h1 h1 (s1.below hu2) (s1.below hu2) hl1 [] rfl hll2 (.inl rfl) (.inl rfl) (by simp)
theorem rightQuestion_none (kd : Int) (pl nn wa : Int) (a1 a2 : Option Addr) (l1 l2 c1 c2 : Nat) (ws : List Int) (bs : List Bool) (w : World) (h1 : l1 = ws.length) (h2 : l2 = bs.length) (s1 : SlI w a1 ws) (s2 : SlB w a2 bs) (hl1 : ws.length <= 2000000) (hl2 : bs.length <= 2000000) (k1 : ¬ kd = 1) (k2 : ¬ kd = 2) (k3 : ¬ kd = 3) (k4 : ¬ kd = 4) (k5 : ¬ kd = 5) (k6 : ¬ kd = 6) (k15 : ¬ kd = 15) (k16 : ¬ kd = 16) (k22 : ¬ kd = 22) (k23 : ¬ kd = 23) :
 Calls Tryz.prog 92 #[rq kd pl nn wa a1 a2 l1 l2 c1 c2] w fun e w' => e = .returned .nilIface /\ Below w.heap.size w w' :=
 rq_false kd pl nn wa a1 a2 l1 l2 c1 c2 w .nilIface (fun u hu => questionOf_none kd pl nn wa a1 a2 l1 l2 c1 c2 u k1 k2 k3 k4 k5 k6 k15 k16 k22 k23) (fun u hu => isRight_n u)
end Go.Proofs.YtlhjiiifmfgnoaaGreat
namespace Go.Proofs.YtlhjiiifmfgnoaaGreat
open Go.RowKit
abbrev WfQ (kd pl nn wa : Int) (ws : List Int) : Prop := (∀ n ∈ ws, -9223372036854775808 <= n /\ n <= 9223372036854775807) /\ (Lit.int .i64 kd).wf = true /\ (Lit.int .i64 pl).wf = true /\ (Lit.int .i64 nn).wf = true /\ (Lit.int .i64 wa).wf = true
theorem specReqOk_q (kd pl nn wa : Int) (a1 a2 : Option Addr) (l1 l2 c1 c2 : Nat) (ws : List Int) (bs : List Bool) (w : World) (h1 : l1 = ws.length) (h2 : l2 = bs.length) (s1 : SlI w a1 ws) (s2 : SlB w a2 bs) (hl1 : ws.length <= 2000000) (hl2 : bs.length <= 2000000) :
 Calls Tryz.prog 48 #[rq kd pl nn wa a1 a2 l1 l2 c1 c2] w fun e w' => e = .returned (.bool (okR kd pl nn wa ws l1 l2)) /\ Below w.heap.size w w' :=
 specReqOk_any kd pl nn wa a1 a2 l1 l2 c1 c2 ws w h1 s1 hl1 (by omega) _ rfl
theorem neq_if (T : TypeId) (v : Value) (w : World) : (binOp .neq 121 (.iface T v) .nilIface).run Tryz.prog w = .ok (.bool true) w := by kernel_rfl
theorem neq_nil (w : World) : (binOp .neq 121 .nilIface .nilIface).run Tryz.prog w = .ok (.bool false) w := by kernel_rfl
theorem implReqOk_if (kd pl nn wa : Int) (a1 a2 : Option Addr) (l1 l2 c1 c2 : Nat) (w : World) (b : Bool) (T : TypeId) (v : Value)
 (hq : ∀ u, Below w.heap.size w u -> Calls Tryz.prog 92 #[rq kd pl nn wa a1 a2 l1 l2 c1 c2] u fun e u' => e = .returned (bif b then .iface T v else .nilIface) /\ Below u.heap.size u u') :
 Calls Tryz.prog 78 #[rq kd pl nn wa a1 a2 l1 l2 c1 c2] w fun e w' => e = .returned (.bool b) /\ Below w.heap.size w w' := by
 have B0 := bel_alloc w (.cells #[.int .i64 kd, .int .i64 pl, .int .i64 nn, .slice a1 l1 c1, .slice a2 l2 c2, .int .i64 wa] 39)
 have q1 := neq_if T v
 have q2 := neq_nil
 go_enter Tryz.func78, Tryz.ntmps78
 go_wp2_with fail
 refine (hq _ B0).mono ?_
 rintro e w1 ⟨rfl, b'⟩
 have B1 := bel_next B0 b'
 clear hq
 cases b
 ·simp only [cond_false]
  go_wp2
  go_ret
  exact ⟨rfl, B1⟩
 simp only [cond_true]
 go_wp2
 go_ret
 exact ⟨rfl, B1⟩
theorem okR_kind {kd pl nn wa : Int} {ws : List Int} {l1 l2 : Nat} (h : okR kd pl nn wa ws l1 l2 = true) : kd = 1 \/ kd = 2 \/ kd = 3 \/ kd = 4 \/ kd = 5 \/ kd = 6 \/ kd = 15 \/ kd = 16 \/ kd = 22 \/ kd = 23 := by
 by_cases hk : kd = 1 \/ kd = 2 \/ kd = 3 \/ kd = 4 \/ kd = 5 \/ kd = 6 \/ kd = 15 \/ kd = 16 \/ kd = 22 \/ kd = 23
 ·exact hk
 have e : okR kd pl nn wa ws l1 l2 = false := by
  have k1 : ¬ kd = 1 := by omega
  have k2 : ¬ kd = 2 := by omega
  have k3 : ¬ kd = 3 := by omega
  have k4 : ¬ kd = 4 := by omega
  have k5 : ¬ kd = 5 := by omega
  have k6 : ¬ kd = 6 := by omega
  have k7 : ¬ kd = 15 := by omega
  have k8 : ¬ kd = 16 := by omega
  have k9 : ¬ kd = 22 := by omega
  have k10 : ¬ kd = 23 := by omega
  simp [okR, okK, k1, k2, k3, k4, k5, k6, k7, k8, k9, k10]
 rw [e] at h
 cases h
theorem implReqOk_q (kd pl nn wa : Int) (a1 a2 : Option Addr) (l1 l2 c1 c2 : Nat) (ws : List Int) (bs : List Bool) (w : World) (h1 : l1 = ws.length) (h2 : l2 = bs.length) (s1 : SlI w a1 ws) (s2 : SlB w a2 bs) (hl1 : ws.length <= 2000000) (hl2 : bs.length <= 2000000) :
 Calls Tryz.prog 78 #[rq kd pl nn wa a1 a2 l1 l2 c1 c2] w fun e w' => e = .returned (.bool (okR kd pl nn wa ws l1 l2)) /\ Below w.heap.size w w' := by
 by_cases hk : kd = 1 \/ kd = 2 \/ kd = 3 \/ kd = 4 \/ kd = 5 \/ kd = 6 \/ kd = 15 \/ kd = 16 \/ kd = 22 \/ kd = 23
 ·obtain rfl | rfl | rfl | rfl | rfl | rfl | rfl | rfl | rfl | rfl := hk
  ·exact implReqOk_if 1 pl nn wa a1 a2 l1 l2 c1 c2 w _ _ _ (fun u hu => rightQuestion_1 pl nn wa a1 a2 l1 l2 c1 c2 ws bs u h1 h2 (s1.below hu) (s2.below hu) hl1 hl2 _ rfl)
  ·exact implReqOk_if 2 pl nn wa a1 a2 l1 l2 c1 c2 w _ _ _ (fun u hu => rightQuestion_2 pl nn wa a1 a2 l1 l2 c1 c2 ws bs u h1 h2 (s1.below hu) (s2.below hu) hl1 hl2 _ rfl)
  ·exact implReqOk_if 3 pl nn wa a1 a2 l1 l2 c1 c2 w _ _ _ (fun u hu => rightQuestion_3 pl nn wa a1 a2 l1 l2 c1 c2 ws bs u h1 h2 (s1.below hu) (s2.below hu) hl1 hl2 _ rfl)
  ·exact implReqOk_if 4 pl nn wa a1 a2 l1 l2 c1 c2 w _ _ _ (fun u hu => rightQuestion_4 pl nn wa a1 a2 l1 l2 c1 c2 ws bs u h1 h2 (s1.below hu) (s2.below hu) hl1 hl2 _ rfl)
  ·exact implReqOk_if 5 pl nn wa a1 a2 l1 l2 c1 c2 w _ _ _ (fun u hu => rightQuestion_5 pl nn wa a1 a2 l1 l2 c1 c2 ws bs u h1 h2 (s1.below hu) (s2.below hu) hl1 hl2 _ rfl)
  ·exact implReqOk_if 6 pl nn wa a1 a2 l1 l2 c1 c2 w _ _ _ (fun u hu => rightQuestion_6 pl nn wa a1 a2 l1 l2 c1 c2 ws bs u h1 h2 (s1.below hu) (s2.below hu) hl1 hl2 _ rfl)
  ·exact implReqOk_if 15 pl nn wa a1 a2 l1 l2 c1 c2 w _ _ _ (fun u hu => rightQuestion_15 pl nn wa a1 a2 l1 l2 c1 c2 ws bs u h1 h2 (s1.below hu) (s2.below hu) hl1 hl2 _ rfl)
  ·exact implReqOk_if 16 pl nn wa a1 a2 l1 l2 c1 c2 w _ _ _ (fun u hu => rightQuestion_16 pl nn wa a1 a2 l1 l2 c1 c2 ws bs u h1 h2 (s1.below hu) (s2.below hu) hl1 hl2 _ rfl)
  ·exact implReqOk_if 22 pl nn wa a1 a2 l1 l2 c1 c2 w _ _ _ (fun u hu => rightQuestion_22 pl nn wa a1 a2 l1 l2 c1 c2 ws bs u h1 h2 (s1.below hu) (s2.below hu) hl1 hl2 _ rfl)
  exact implReqOk_if 23 pl nn wa a1 a2 l1 l2 c1 c2 w _ _ _ (fun u hu => rightQuestion_23 pl nn wa a1 a2 l1 l2 c1 c2 ws bs u h1 h2 (s1.below hu) (s2.below hu) hl1 hl2 _ rfl)
 have e : okR kd pl nn wa ws l1 l2 = false := by
  cases e : okR kd pl nn wa ws l1 l2
  ·rfl
  exact absurd (okR_kind e) hk
 rw [e]
 exact implReqOk_if kd pl nn wa a1 a2 l1 l2 c1 c2 w false 0 .nilIface (fun u hu => rightQuestion_none kd pl nn wa a1 a2 l1 l2 c1 c2 ws bs u h1 h2 (s1.below hu) (s2.below hu) hl1 hl2 (by omega) (by omega) (by omega) (by omega) (by omega) (by omega) (by omega) (by omega) (by omega) (by omega))
def spcN (kd nn : Int) (l1 l2 : Nat) : Int := if kd = 5 \/ kd = 15 then l2 else if kd = 6 \/ kd = 22 then 1 else if kd = 16 then l1 else nn
def spc0 (kd : Int) : Int := if kd = 1 \/ kd = 5 \/ kd = 15 then 0 else if kd = 2 then 1 else if kd = 4 then 3 else 2
def spcV (b : Bool) (kd pl nn : Int) (l1 l2 : Nat) : Value := bif b then .tuple #[.int .i64 (spc0 kd), .int .i64 pl, .int .i64 (spcN kd nn l1 l2)] else .tuple #[.int .i64 (-1), .int .i64 0, .int .i64 0]
end Go.Proofs.YtlhjiiifmfgnoaaGreat
namespace Go.Proofs.YtlhjiiifmfgnoaaGreat
open Go.RowKit
end Go.Proofs.YtlhjiiifmfgnoaaGreat
namespace Go.Proofs.YtlhjiiifmfgnoaaGreat
open Go.RowKit
def packL (bs : List Bool) : List Int := (List.range ((bs.length + 7) / 8)).map (fun i => pv bs bs.length i)
end Go.Proofs.YtlhjiiifmfgnoaaGreat
namespace Go.Proofs.YtlhjiiifmfgnoaaGreat
open Go.RowKit
end Go.Proofs.YtlhjiiifmfgnoaaGreat
namespace Go.Proofs.YtlhjiiifmfgnoaaGreat
open Go.RowKit
def wAt (zs : List Int) (i : Nat) : Int := if i + 2 <= zs.length then zs.getD i 0 * 256 + zs.getD (i + 1) 0 else 0
def wsF (zs : List Int) (f : Nat) : List Int := (List.range ((zs.length - f) / 2)).map (fun k => wAt zs (f + 2 * k))
def wsT (zs : List Int) (f k : Nat) : List Int := (List.range k).map (fun k => wAt zs (f + 2 * k))
def NwI (w w' : World) (e : Ending) (zs : List Int) : Prop := ∃ a c n, e = .returned (.slice a n c) /\ n = zs.length /\ OwnI w' w.heap.size (.slice a n c) zs /\ Below w.heap.size w w'
end Go.Proofs.YtlhjiiifmfgnoaaGreat
namespace Go.Proofs.YtlhjiiifmfgnoaaGreat
open Go.RowKit
def kindB (k : Int) : Bool := decide (k = 1 \/ k = 2 \/ k = 3 \/ k = 4 \/ k = 5 \/ k = 6 \/ k = 15 \/ k = 16 \/ k = 22 \/ k = 23)
theorem isKind_any (k : Int) (w : World) (b : Bool) (hb : kindB k = b) : Calls Tryz.prog 133 #[.int .i64 k] w fun e w' => e = .returned (.bool b) /\ w' = w := by
 by_cases hk : k = 1 \/ k = 2 \/ k = 3 \/ k = 4 \/ k = 5 \/ k = 6 \/ k = 15 \/ k = 16 \/ k = 22 \/ k = 23
 ·have e : kindB k = true := decide_eq_true hk
  rw [e] at hb
  subst hb
  clear e
  obtain rfl | rfl | rfl | rfl | rfl | rfl | rfl | rfl | rfl | rfl := hk
  all_goals (
   go_enter Tryz.func133, Tryz.ntmps133
   go_wp2
   go_ret
   exact ⟨rfl, rfl⟩)
 have e : kindB k = false := decide_eq_false hk
 rw [e] at hb
 subst hb
 have h1 : ¬ k = 1 := by omega
 have h2 : ¬ k = 2 := by omega
 have h3 : ¬ k = 3 := by omega
 have h4 : ¬ k = 4 := by omega
 have h5 : ¬ k = 5 := by omega
 have h6 : ¬ k = 6 := by omega
 have h15 : ¬ k = 15 := by omega
 have h16 : ¬ k = 16 := by omega
 have h22 : ¬ k = 22 := by omega
 have h23 : ¬ k = 23 := by omega
 clear hk e
 go_enter Tryz.func133, Tryz.ntmps133
 go_wp2
 go_ret
 exact ⟨rfl, rfl⟩
theorem l3Kind_any (k : Int) (w : World) (b : Bool) (hb : kindB k = b) : Calls Tryz.prog 89 #[.int .i64 k] w fun e w' => e = .returned (.bool b) /\ w' = w := by
 by_cases hk : k = 1 \/ k = 2 \/ k = 3 \/ k = 4 \/ k = 5 \/ k = 6 \/ k = 15 \/ k = 16 \/ k = 22 \/ k = 23
 ·have e : kindB k = true := decide_eq_true hk
  rw [e] at hb
  subst hb
  clear e
  obtain rfl | rfl | rfl | rfl | rfl | rfl | rfl | rfl | rfl | rfl := hk
  all_goals (
   go_enter Tryz.func89, Tryz.ntmps89
   go_wp2_with (go_at_call 47; go_in)
   go_ret
   exact ⟨rfl, rfl⟩)
 have e : kindB k = false := decide_eq_false hk
 rw [e] at hb
 subst hb
 have h15 : ¬ k = 15 := by omega
 have h16 : ¬ k = 16 := by omega
 have h22 : ¬ k = 22 := by omega
 have h23 : ¬ k = 23 := by omega
 have hq : (k == 23) = false := by simp [h23]
 have hq1 : (k == 15) = false := by simp [h15]
 have hq2 : (k == 16) = false := by simp [h16]
 have hq3 : (k == 22) = false := by simp [h22]
 by_cases h1 : 1 <= k
 ·have h6 : ¬ k <= 6 := by omega
  clear hk e
  go_enter Tryz.func89, Tryz.ntmps89
  go_wp2_with (go_at_call 47; go_in)
  go_ret
  exact ⟨rfl, rfl⟩
 clear hk e
 go_enter Tryz.func89, Tryz.ntmps89
 go_wp2_with (go_at_call 47; go_in)
 go_ret
 exact ⟨rfl, rfl⟩
def GP (w w' : World) (e : Ending) (kd pl nn wa : Int) (ws : List Int) (bs : List Bool) (code : Int) : Prop :=
 ∃ a1 a2 l1 l2 c1 c2, e = .returned (.tuple #[rq kd pl nn wa a1 a2 l1 l2 c1 c2, .int .i64 code]) /\ l1 = ws.length /\ l2 = bs.length /\ OwnI w' w.heap.size (.slice a1 l1 c1) ws /\ OwnB w' w.heap.size (.slice a2 l2 c2) bs /\ Below w.heap.size w w'
end Go.Proofs.YtlhjiiifmfgnoaaGreat
