/- Questions within: the one that a Req is, where it is right. -/
import Derived.Test.YtmhdneenjoelfaaGreatQ2
import Derived.Test.YtmhdneenjoelfaaGreatQ3
import Derived.Test.YtmhdneenjoelfaaGreatQ4
import Derived.Deep.RegionWith
namespace Go.Proofs.YtmhdneenjoelfaaGreat
open Go.RowKit

set_option linter.unusedVariables false

set_option linter.unusedSimpArgs false

theorem meth_1 (v : Value) (w : World) : (method 278 145 v "loop.example/g00129/impl.req").run Tryz.prog w = .ok (161, v) w := by kernel_rfl

theorem callf_1 (v : Value) (w : World) : (callFunc 161 #[v]).run Tryz.prog w = .ok (.enter 161 #[v]) w := by kernel_rfl

theorem meth_2 (v : Value) (w : World) : (method 278 146 v "loop.example/g00129/impl.req").run Tryz.prog w = .ok (162, v) w := by kernel_rfl

theorem callf_2 (v : Value) (w : World) : (callFunc 162 #[v]).run Tryz.prog w = .ok (.enter 162 #[v]) w := by kernel_rfl

theorem meth_3 (v : Value) (w : World) : (method 278 147 v "loop.example/g00129/impl.req").run Tryz.prog w = .ok (163, v) w := by kernel_rfl

theorem callf_3 (v : Value) (w : World) : (callFunc 163 #[v]).run Tryz.prog w = .ok (.enter 163 #[v]) w := by kernel_rfl

theorem meth_4 (v : Value) (w : World) : (method 278 148 v "loop.example/g00129/impl.req").run Tryz.prog w = .ok (164, v) w := by kernel_rfl

theorem callf_4 (v : Value) (w : World) : (callFunc 164 #[v]).run Tryz.prog w = .ok (.enter 164 #[v]) w := by kernel_rfl

theorem meth_5 (v : Value) (w : World) : (method 278 150 v "loop.example/g00129/impl.req").run Tryz.prog w = .ok (165, v) w := by kernel_rfl

theorem callf_5 (v : Value) (w : World) : (callFunc 165 #[v]).run Tryz.prog w = .ok (.enter 165 #[v]) w := by kernel_rfl

theorem meth_6 (v : Value) (w : World) : (method 278 152 v "loop.example/g00129/impl.req").run Tryz.prog w = .ok (166, v) w := by kernel_rfl

theorem callf_6 (v : Value) (w : World) : (callFunc 166 #[v]).run Tryz.prog w = .ok (.enter 166 #[v]) w := by kernel_rfl

theorem meth_15 (v : Value) (w : World) : (method 278 154 v "loop.example/g00129/impl.req").run Tryz.prog w = .ok (167, v) w := by kernel_rfl

theorem callf_15 (v : Value) (w : World) : (callFunc 167 #[v]).run Tryz.prog w = .ok (.enter 167 #[v]) w := by kernel_rfl

theorem meth_16 (v : Value) (w : World) : (method 278 156 v "loop.example/g00129/impl.req").run Tryz.prog w = .ok (168, v) w := by kernel_rfl

theorem callf_16 (v : Value) (w : World) : (callFunc 168 #[v]).run Tryz.prog w = .ok (.enter 168 #[v]) w := by kernel_rfl

theorem meth_22 (v : Value) (w : World) : (method 278 158 v "loop.example/g00129/impl.req").run Tryz.prog w = .ok (169, v) w := by kernel_rfl

theorem callf_22 (v : Value) (w : World) : (callFunc 169 #[v]).run Tryz.prog w = .ok (.enter 169 #[v]) w := by kernel_rfl

theorem meth_23 (v : Value) (w : World) : (method 278 160 v "loop.example/g00129/impl.req").run Tryz.prog w = .ok (170, v) w := by kernel_rfl

theorem callf_23 (v : Value) (w : World) : (callFunc 170 #[v]).run Tryz.prog w = .ok (.enter 170 #[v]) w := by kernel_rfl

theorem allW_one {ws : List Int} (h : ws.length = 1) : allW ws = inB (ws.getD 0 0) 0 65535 := by
  unfold allW inB
  rw [Bool.eq_iff_iff]
  simp only [decide_eq_true_eq]
  constructor
  · intro hh; exact hh 0 (by omega)
  · intro hh k hk
    obtain rfl : k = 0 := by omega
    exact hh

theorem allW_two {ws : List Int} (h : ws.length = 2) : allW ws = (inB (ws.getD 0 0) 0 65535 && inB (ws.getD 1 0) 0 65535) := by
  unfold allW inB
  rw [Bool.eq_iff_iff]
  simp only [decide_eq_true_eq, Bool.and_eq_true]
  constructor
  · intro hh; exact ⟨hh 0 (by omega), hh 1 (by omega)⟩
  · intro hh k hk
    obtain rfl | rfl : k = 0 ∨ k = 1 := by omega
    · exact hh.1
    · exact hh.2

theorem list_one {bs : List Bool} (h : bs.length = 1) : bs = [bs.getD 0 false] := by
  match bs, h with
  | [x], _ => rfl

theorem ints_one {ws : List Int} (h : ws.length = 1) : ws = [ws.getD 0 0] := by
  match ws, h with
  | [x], _ => rfl

theorem ints_two {ws : List Int} (h : ws.length = 2) : ws = [ws.getD 0 0, ws.getD 1 0] := by
  match ws, h with
  | [x, y], _ => rfl

theorem okI_1 (pl nn wa : Int) (ws : List Int) (l1 l2 : Nat) (h1 : l1 = ws.length) : okR 1 pl nn wa ws l1 l2 = (rnB pl nn 2000 && (decide (wa = 0) && (decide (l1 = 0) && (decide (l2 = 0))))) := by
  by_cases hl : l1 = 0
  · have hW : allW ws = true := allW_good (fun k hk => by omega)
    rw [Bool.eq_iff_iff]; simp [okR, okK, zrB, inB, fitB, rnB, hW, hl]; omega
  · rw [Bool.eq_iff_iff]; simp [okR, okK, zrB, hl]

theorem okI_2 (pl nn wa : Int) (ws : List Int) (l1 l2 : Nat) (h1 : l1 = ws.length) : okR 2 pl nn wa ws l1 l2 = (rnB pl nn 2000 && (decide (wa = 0) && (decide (l1 = 0) && (decide (l2 = 0))))) := by
  by_cases hl : l1 = 0
  · have hW : allW ws = true := allW_good (fun k hk => by omega)
    rw [Bool.eq_iff_iff]; simp [okR, okK, zrB, inB, fitB, rnB, hW, hl]; omega
  · rw [Bool.eq_iff_iff]; simp [okR, okK, zrB, hl]

theorem okI_3 (pl nn wa : Int) (ws : List Int) (l1 l2 : Nat) (h1 : l1 = ws.length) : okR 3 pl nn wa ws l1 l2 = (rnB pl nn 125 && (decide (wa = 0) && (decide (l1 = 0) && (decide (l2 = 0))))) := by
  by_cases hl : l1 = 0
  · have hW : allW ws = true := allW_good (fun k hk => by omega)
    rw [Bool.eq_iff_iff]; simp [okR, okK, zrB, inB, fitB, rnB, hW, hl]; omega
  · rw [Bool.eq_iff_iff]; simp [okR, okK, zrB, hl]

theorem okI_4 (pl nn wa : Int) (ws : List Int) (l1 l2 : Nat) (h1 : l1 = ws.length) : okR 4 pl nn wa ws l1 l2 = (rnB pl nn 125 && (decide (wa = 0) && (decide (l1 = 0) && (decide (l2 = 0))))) := by
  by_cases hl : l1 = 0
  · have hW : allW ws = true := allW_good (fun k hk => by omega)
    rw [Bool.eq_iff_iff]; simp [okR, okK, zrB, inB, fitB, rnB, hW, hl]; omega
  · rw [Bool.eq_iff_iff]; simp [okR, okK, zrB, hl]

theorem okI_5 (pl nn wa : Int) (ws : List Int) (l1 l2 : Nat) (h1 : l1 = ws.length) : okR 5 pl nn wa ws l1 l2 = (decide (l2 = 1) && (inB pl 0 65535 && (decide (nn = 0) && (decide (wa = 0) && (decide (l1 = 0)))))) := by
  by_cases hl : l1 = 0
  · have hW : allW ws = true := allW_good (fun k hk => by omega)
    rw [Bool.eq_iff_iff]; simp [okR, okK, zrB, inB, fitB, rnB, hW, hl]; omega
  · rw [Bool.eq_iff_iff]; simp [okR, okK, zrB, hl]

theorem okI_6 (pl nn wa : Int) (ws : List Int) (l1 l2 : Nat) (h1 : l1 = ws.length) : okR 6 pl nn wa ws l1 l2 = (decide (l1 = 1) && (inB pl 0 65535 && (inB (ws.getD 0 0) 0 65535 && (decide (nn = 0) && (decide (wa = 0) && (decide (l2 = 0))))))) := by
  by_cases hl : l1 = 1
  · rw [Bool.eq_iff_iff, okR, allW_one (by omega)]; simp [okR, okK, zrB, inB, fitB, rnB, hl]; omega
  · rw [Bool.eq_iff_iff]; simp [okR, okK, zrB, hl]

theorem okI_15 (pl nn wa : Int) (ws : List Int) (l1 l2 : Nat) (h1 : l1 = ws.length) : okR 15 pl nn wa ws l1 l2 = (rnB pl (l2 : Int) 1968 && (decide (nn = 0) && (decide (wa = 0) && (decide (l1 = 0))))) := by
  by_cases hl : l1 = 0
  · have hW : allW ws = true := allW_good (fun k hk => by omega)
    rw [Bool.eq_iff_iff]; simp [okR, okK, zrB, inB, fitB, rnB, hW, hl]; omega
  · rw [Bool.eq_iff_iff]; simp [okR, okK, zrB, hl]

theorem okI_16 (pl nn wa : Int) (ws : List Int) (l1 l2 : Nat) (h1 : l1 = ws.length) : okR 16 pl nn wa ws l1 l2 = (rnB pl (l1 : Int) 123 && (allW ws && (decide (nn = 0) && (decide (wa = 0) && (decide (l2 = 0)))))) := by
  cases hW : allW ws
  · simp [okR, hW]
  · rw [Bool.eq_iff_iff]; simp [okR, okK, zrB, inB, fitB, rnB, hW]; omega

theorem okI_22 (pl nn wa : Int) (ws : List Int) (l1 l2 : Nat) (h1 : l1 = ws.length) : okR 22 pl nn wa ws l1 l2 = (decide (l1 = 2) && (inB pl 0 65535 && (inB (ws.getD 0 0) 0 65535 && (inB (ws.getD 1 0) 0 65535 && (decide (nn = 0) && (decide (wa = 0) && (decide (l2 = 0)))))))) := by
  by_cases hl : l1 = 2
  · rw [Bool.eq_iff_iff, okR, allW_two (by omega)]; simp [okR, okK, zrB, inB, fitB, rnB, hl]; omega
  · rw [Bool.eq_iff_iff]; simp [okR, okK, zrB, hl]

theorem okI_23 (pl nn wa : Int) (ws : List Int) (l1 l2 : Nat) (h1 : l1 = ws.length) : okR 23 pl nn wa ws l1 l2 = (rnB pl nn 125 && (rnB wa (l1 : Int) 121 && (allW ws && (decide (l2 = 0))))) := by
  cases hW : allW ws
  · simp [okR, hW]
  · rw [Bool.eq_iff_iff]; simp [okR, okK, zrB, inB, fitB, rnB, hW]; omega

set_option maxRecDepth 20000 in
set_option maxHeartbeats 8000000 in
theorem rq_false (kd pl nn wa : Int) (a1 a2 : Option Addr) (l1 l2 c1 c2 : Nat) (w : World) (q : Value)
    (hq : ∀ u, Below w.heap.size w u → Calls Tryz.prog 136 #[rq kd pl nn wa a1 a2 l1 l2 c1 c2] u fun e u' => e = .returned q ∧ Below u.heap.size u u')
    (hi : ∀ u, Below w.heap.size w u → Calls Tryz.prog 137 #[q] u fun e u' => e = .returned (.bool false) ∧ Below u.heap.size u u')
    : Calls Tryz.prog 122 #[rq kd pl nn wa a1 a2 l1 l2 c1 c2] w fun e w' => e = .returned .nilIface ∧ Below w.heap.size w w' := by
  have B0 := bel_alloc w (.cells #[.int .i64 kd, .int .i64 pl, .int .i64 nn, .slice a1 l1 c1, .slice a2 l2 c2, .int .i64 wa] 28)
  have X0 := Blk.new w #[.int .i64 kd, .int .i64 pl, .int .i64 nn, .slice a1 l1 c1, .slice a2 l2 c2, .int .i64 wa] 28
  obtain ⟨x0, x1, x2, x3, x4, x5⟩ := X0.six
  go_enter Tryz.func122, Tryz.ntmps122
  go_wp2_with fail
  refine (hq _ B0).mono ?_
  rintro e w1 ⟨rfl, b'⟩
  have B1 := bel_next B0 b'
  have Y := X0.below b'
  clear X0 x0 x1 x2 x3 x4 x5 hq
  go_upto_region 2 with fail
  refine wp_region_any (by kernel_rfl) ?_
  (try (change wpAny _ _ _ _ _ _ _ (World.drew _)))
  refine wpAny_ready (rs := [0]) (by kernel_rfl) (by simp) ?_
  refine AllReady.cons rfl (fun K hK => ?_) AllReady.nil
  go_simp
  refine hK _ _ ?_
  clear hK K
  refine wpAny_ready (rs := [1]) (by kernel_rfl) (by simp) ?_
  refine AllReady.cons rfl (fun K hK => ?_) AllReady.nil
  go_simp
  go_wp2_with (go_at_call 137; refine (hi _ (by first | exact B1 | exact B1.drew)).mono ?_; rintro e w2 ⟨rfl, b2'⟩; have B2 := bel_next (by first | exact B1 | exact B1.drew) b2'; have Y2 := (Y.below (Below.refl _ _).drew).below b2'; clear b2' Y hi)
  try (refine hK _ _ ?_; clear hK K)
  obtain ⟨y0, y1, y2, y3, y4, y5⟩ := Y2.six
  refine wpAny_ready (rs := [2]) (by kernel_rfl) (by simp) ?_
  refine AllReady.cons rfl (fun K hK => ?_) AllReady.nil
  go_simp
  refine hK _ _ ?_
  clear hK K
  refine wpAny_ready (rs := [3, 5]) (by kernel_rfl) (by simp) ?_
  refine AllReady.cons rfl (fun K hK => ?_) ?_
  · skip
    go_simp
    refine hK _ _ ?_
    clear hK K
    refine wpAny_ready (rs := [4, 5]) (by kernel_rfl) (by simp) ?_
    refine AllReady.cons rfl (fun K hK => ?_) ?_
    · skip
      go_simp
      refine hK _ _ ?_
      clear hK K
      refine wpAny_ready (rs := [5]) (by kernel_rfl) (by simp) ?_
      refine AllReady.cons rfl (fun K hK => ?_) AllReady.nil
      go_simp
      refine hK _ _ ?_
      clear hK K
      refine wpAny_ready (rs := [6]) (by kernel_rfl) (by simp) ?_
      refine AllReady.cons rfl (fun K hK => ?_) AllReady.nil
      go_simp
      refine hK _ _ ?_
      clear hK K
      refine wpAny_ready (rs := [7]) (by kernel_rfl) (by simp) ?_
      refine AllReady.cons rfl (fun K hK => ?_) AllReady.nil
      go_simp
      refine hK _ _ ?_
      clear hK K
      refine wpAny_done (by kernel_rfl) ?_ _
      go_wp2
      go_ret
      exact ⟨rfl, B2⟩
    · refine AllReady.cons rfl (fun K hK => ?_) AllReady.nil
      go_simp
      refine hK _ _ ?_
      clear hK K
      refine wpAny_ready (rs := [4]) (by kernel_rfl) (by simp) ?_
      refine AllReady.cons rfl (fun K hK => ?_) AllReady.nil
      go_simp
      refine hK _ _ ?_
      clear hK K
      refine wpAny_ready (rs := [6]) (by kernel_rfl) (by simp) ?_
      refine AllReady.cons rfl (fun K hK => ?_) AllReady.nil
      go_simp
      refine hK _ _ ?_
      clear hK K
      refine wpAny_ready (rs := [7]) (by kernel_rfl) (by simp) ?_
      refine AllReady.cons rfl (fun K hK => ?_) AllReady.nil
      go_simp
      refine hK _ _ ?_
      clear hK K
      refine wpAny_done (by kernel_rfl) ?_ _
      go_wp2
      go_ret
      exact ⟨rfl, B2⟩
  · refine AllReady.cons rfl (fun K hK => ?_) AllReady.nil
    go_simp
    refine hK _ _ ?_
    clear hK K
    refine wpAny_ready (rs := [3]) (by kernel_rfl) (by simp) ?_
    refine AllReady.cons rfl (fun K hK => ?_) AllReady.nil
    go_simp
    refine hK _ _ ?_
    clear hK K
    refine wpAny_ready (rs := [4]) (by kernel_rfl) (by simp) ?_
    refine AllReady.cons rfl (fun K hK => ?_) AllReady.nil
    go_simp
    refine hK _ _ ?_
    clear hK K
    refine wpAny_ready (rs := [6]) (by kernel_rfl) (by simp) ?_
    refine AllReady.cons rfl (fun K hK => ?_) AllReady.nil
    go_simp
    refine hK _ _ ?_
    clear hK K
    refine wpAny_ready (rs := [7]) (by kernel_rfl) (by simp) ?_
    refine AllReady.cons rfl (fun K hK => ?_) AllReady.nil
    go_simp
    refine hK _ _ ?_
    clear hK K
    refine wpAny_done (by kernel_rfl) ?_ _
    go_wp2
    go_ret
    exact ⟨rfl, B2⟩

set_option maxRecDepth 20000 in
set_option maxHeartbeats 8000000 in
theorem rq_true (kd pl nn wa : Int) (a1 a2 : Option Addr) (l1 l2 c1 c2 : Nat) (w : World) (T : TypeId) (v : Value) (F : Nat) (bsm : Bool)
    (hq : ∀ u, Below w.heap.size w u → Calls Tryz.prog 136 #[rq kd pl nn wa a1 a2 l1 l2 c1 c2] u fun e u' => e = .returned (.iface T v) ∧ Below u.heap.size u u')
    (hi : ∀ u, Below w.heap.size w u → Calls Tryz.prog 137 #[(.iface T v)] u fun e u' => e = .returned (.bool true) ∧ Below u.heap.size u u')
    (hc : ∀ u, (callFunc F #[v]).run Tryz.prog u = .ok (.enter F #[v]) u)
    (hm : ∀ u, (method 278 T v "loop.example/g00129/impl.req").run Tryz.prog u = .ok (F, v) u)
    (hr : ∀ u, Below w.heap.size w u → Calls Tryz.prog F #[v] u fun e u' => ∃ x, e = .returned x ∧ Below u.heap.size u u' ∧ Calls Tryz.prog 132 #[x, rq kd pl nn wa a1 a2 l1 l2 c1 c2] u' fun e u3 => e = .returned (.bool bsm) ∧ Below u'.heap.size u' u3) :
    Calls Tryz.prog 122 #[rq kd pl nn wa a1 a2 l1 l2 c1 c2] w fun e w' => e = .returned (bif bsm then .iface T v else .nilIface) ∧ Below w.heap.size w w' := by
  have B0 := bel_alloc w (.cells #[.int .i64 kd, .int .i64 pl, .int .i64 nn, .slice a1 l1 c1, .slice a2 l2 c2, .int .i64 wa] 28)
  have X0 := Blk.new w #[.int .i64 kd, .int .i64 pl, .int .i64 nn, .slice a1 l1 c1, .slice a2 l2 c2, .int .i64 wa] 28
  obtain ⟨x0, x1, x2, x3, x4, x5⟩ := X0.six
  go_enter Tryz.func122, Tryz.ntmps122
  go_wp2_with fail
  refine (hq _ B0).mono ?_
  rintro e w1 ⟨rfl, b'⟩
  have B1 := bel_next B0 b'
  have Y := X0.below b'
  clear X0 x0 x1 x2 x3 x4 x5 hq
  go_upto_region 2 with fail
  refine wp_region_any (by kernel_rfl) ?_
  (try (change wpAny _ _ _ _ _ _ _ (World.drew _)))
  refine wpAny_ready (rs := [0]) (by kernel_rfl) (by simp) ?_
  refine AllReady.cons rfl (fun K hK => ?_) AllReady.nil
  go_simp
  refine hK _ _ ?_
  clear hK K
  refine wpAny_ready (rs := [1]) (by kernel_rfl) (by simp) ?_
  refine AllReady.cons rfl (fun K hK => ?_) AllReady.nil
  go_simp
  go_wp2_with (go_at_call 137; refine (hi _ (by first | exact B1 | exact B1.drew)).mono ?_; rintro e w2 ⟨rfl, b2'⟩; have B2 := bel_next (by first | exact B1 | exact B1.drew) b2'; have Y2 := (Y.below (Below.refl _ _).drew).below b2'; clear b2' Y hi)
  try (refine hK _ _ ?_; clear hK K)
  obtain ⟨y0, y1, y2, y3, y4, y5⟩ := Y2.six
  refine wpAny_ready (rs := [2]) (by kernel_rfl) (by simp) ?_
  refine AllReady.cons rfl (fun K hK => ?_) AllReady.nil
  go_simp
  refine hK _ _ ?_
  clear hK K
  refine wpAny_ready (rs := [3, 5]) (by kernel_rfl) (by simp) ?_
  refine AllReady.cons rfl (fun K hK => ?_) ?_
  · skip
    go_simp
    refine hK _ _ ?_
    clear hK K
    refine wpAny_ready (rs := [4, 5]) (by kernel_rfl) (by simp) ?_
    refine AllReady.cons rfl (fun K hK => ?_) ?_
    · skip
      go_simp
      go_wp2_with (refine (hr _ B2).mono ?_; rintro e w3 ⟨x, rfl, b3', hs⟩; have B3 := bel_next B2 b3'; have Y3 := Y2.below b3'; clear b3' Y2 y0 y1 y2 y3 y4 y5)
      try (refine hK _ _ ?_; clear hK K)
      obtain ⟨y0, y1, y2, y3, y4, y5⟩ := Y3.six
      refine wpAny_ready (rs := [5]) (by kernel_rfl) (by simp) ?_
      refine AllReady.cons rfl (fun K hK => ?_) AllReady.nil
      go_simp
      refine hK _ _ ?_
      clear hK K
      refine wpAny_ready (rs := [6]) (by kernel_rfl) (by simp) ?_
      refine AllReady.cons rfl (fun K hK => ?_) AllReady.nil
      go_simp
      go_wp2_with (go_at_call 132; refine hs.mono ?_; rintro e w4 ⟨rfl, b4'⟩; have B4 := bel_next B3 b4'; clear b4' hs)
      try (refine hK _ _ ?_; clear hK K)
      refine wpAny_ready (rs := [7]) (by kernel_rfl) (by simp) ?_
      refine AllReady.cons rfl (fun K hK => ?_) AllReady.nil
      go_simp
      refine hK _ _ ?_
      clear hK K
      refine wpAny_done (by kernel_rfl) ?_ _
      cases bsm
      · go_wp2
        go_ret
        exact ⟨rfl, B4⟩
      · go_wp2
        go_ret
        exact ⟨rfl, B4⟩
    · refine AllReady.cons rfl (fun K hK => ?_) AllReady.nil
      go_simp
      refine hK _ _ ?_
      clear hK K
      refine wpAny_ready (rs := [4]) (by kernel_rfl) (by simp) ?_
      refine AllReady.cons rfl (fun K hK => ?_) AllReady.nil
      go_simp
      go_wp2_with (refine (hr _ B2).mono ?_; rintro e w3 ⟨x, rfl, b3', hs⟩; have B3 := bel_next B2 b3'; have Y3 := Y2.below b3'; clear b3' Y2 y0 y1 y2 y3 y4 y5)
      try (refine hK _ _ ?_; clear hK K)
      obtain ⟨y0, y1, y2, y3, y4, y5⟩ := Y3.six
      refine wpAny_ready (rs := [6]) (by kernel_rfl) (by simp) ?_
      refine AllReady.cons rfl (fun K hK => ?_) AllReady.nil
      go_simp
      go_wp2_with (go_at_call 132; refine hs.mono ?_; rintro e w4 ⟨rfl, b4'⟩; have B4 := bel_next B3 b4'; clear b4' hs)
      try (refine hK _ _ ?_; clear hK K)
      refine wpAny_ready (rs := [7]) (by kernel_rfl) (by simp) ?_
      refine AllReady.cons rfl (fun K hK => ?_) AllReady.nil
      go_simp
      refine hK _ _ ?_
      clear hK K
      refine wpAny_done (by kernel_rfl) ?_ _
      cases bsm
      · go_wp2
        go_ret
        exact ⟨rfl, B4⟩
      · go_wp2
        go_ret
        exact ⟨rfl, B4⟩
  · refine AllReady.cons rfl (fun K hK => ?_) AllReady.nil
    go_simp
    refine hK _ _ ?_
    clear hK K
    refine wpAny_ready (rs := [3]) (by kernel_rfl) (by simp) ?_
    refine AllReady.cons rfl (fun K hK => ?_) AllReady.nil
    go_simp
    refine hK _ _ ?_
    clear hK K
    refine wpAny_ready (rs := [4]) (by kernel_rfl) (by simp) ?_
    refine AllReady.cons rfl (fun K hK => ?_) AllReady.nil
    go_simp
    go_wp2_with (refine (hr _ B2).mono ?_; rintro e w3 ⟨x, rfl, b3', hs⟩; have B3 := bel_next B2 b3'; have Y3 := Y2.below b3'; clear b3' Y2 y0 y1 y2 y3 y4 y5)
    try (refine hK _ _ ?_; clear hK K)
    obtain ⟨y0, y1, y2, y3, y4, y5⟩ := Y3.six
    refine wpAny_ready (rs := [6]) (by kernel_rfl) (by simp) ?_
    refine AllReady.cons rfl (fun K hK => ?_) AllReady.nil
    go_simp
    go_wp2_with (go_at_call 132; refine hs.mono ?_; rintro e w4 ⟨rfl, b4'⟩; have B4 := bel_next B3 b4'; clear b4' hs)
    try (refine hK _ _ ?_; clear hK K)
    refine wpAny_ready (rs := [7]) (by kernel_rfl) (by simp) ?_
    refine AllReady.cons rfl (fun K hK => ?_) AllReady.nil
    go_simp
    refine hK _ _ ?_
    clear hK K
    refine wpAny_done (by kernel_rfl) ?_ _
    cases bsm
    · go_wp2
      go_ret
      exact ⟨rfl, B4⟩
    · go_wp2
      go_ret
      exact ⟨rfl, B4⟩

set_option maxRecDepth 20000 in
set_option maxHeartbeats 2000000 in
theorem rightQuestion_1 (pl nn wa : Int) (a1 a2 : Option Addr) (l1 l2 c1 c2 : Nat) (ws : List Int) (bs : List Bool) (w : World) (h1 : l1 = ws.length) (h2 : l2 = bs.length) (s1 : SlI w a1 ws) (s2 : SlB w a2 bs) (hl1 : ws.length ≤ 2000000) (hl2 : bs.length ≤ 2000000) (b : Bool) (hb : okR 1 pl nn wa ws l1 l2 = b) :
    Calls Tryz.prog 122 #[rq 1 pl nn wa a1 a2 l1 l2 c1 c2] w fun e w' => e = .returned (bif b then .iface 145 (.agg #[.int .i64 pl, .int .i64 nn]) else .nilIface) ∧ Below w.heap.size w w' := by
  subst hb
  rw [okI_1 _ _ _ _ _ _ h1]
  rw [show (rnB pl nn 2000 && (decide (wa = 0) && (decide (l1 = 0) && (decide (l2 = 0))))) = ((rnB pl nn 2000) && (decide (wa = 0) && (decide (l1 = 0) && (decide (l2 = 0))))) from by simp only [Bool.and_assoc]]
  cases hI : (rnB pl nn 2000)
  · rw [Bool.false_and]
    exact rq_false 1 pl nn wa a1 a2 l1 l2 c1 c2 w _ (fun u hu => questionOf_1 pl nn wa a1 a2 l1 l2 c1 c2 u) (fun u hu => isRight_1 _ _ u _ hI)
  · rw [Bool.true_and]
    refine rq_true 1 pl nn wa a1 a2 l1 l2 c1 c2 w _ _ 161 _ (fun u hu => questionOf_1 pl nn wa a1 a2 l1 l2 c1 c2 u) (fun u hu => isRight_1 _ _ u _ hI) (callf_1 _) (meth_1 _) (fun u hu => (req_1 _ _ u).mono ?_)
    rintro e u' ⟨rfl, bu⟩
    refine ⟨_, rfl, bu, ?_⟩
    have hu2 := bel_next hu bu
    by_cases hww : wa = 0
    rotate_left
    · rw [decide_eq_false hww]
      exact sameReq_w _ _ _ _ _ _ _ _ _ _ _ _ _ _ _ _ _ _ _ rfl (fun h => hww h.symm)
    rw [decide_eq_true hww, Bool.true_and]
    by_cases hll1 : l1 = 0
    rotate_left
    · rw [decide_eq_false hll1]
      exact sameReq_1 _ _ _ _ _ _ _ _ _ _ _ _ _ _ _ _ _ _ _ rfl hww (by omega) (by omega) (by omega)
    rw [decide_eq_true hll1, Bool.true_and]
    by_cases hll2 : l2 = 0
    rotate_left
    · rw [decide_eq_false hll2]
      exact sameReq_2 _ _ _ _ _ _ _ _ _ _ _ _ _ _ _ _ _ _ _ rfl hww [] rfl hll1 (.inl rfl) (.inl rfl) (by simp) (by omega) (by omega) (by omega)
    rw [decide_eq_true hll2]
    exact sameReq_t _ _ _ _ _ _ _ _ _ _ _ _ _ _ _ _ _ _ _ rfl hww [] rfl hll1 (.inl rfl) (.inl rfl) (by simp) [] rfl hll2 (.inl rfl) (.inl rfl) (by simp)

set_option maxRecDepth 20000 in
set_option maxHeartbeats 2000000 in
theorem rightQuestion_2 (pl nn wa : Int) (a1 a2 : Option Addr) (l1 l2 c1 c2 : Nat) (ws : List Int) (bs : List Bool) (w : World) (h1 : l1 = ws.length) (h2 : l2 = bs.length) (s1 : SlI w a1 ws) (s2 : SlB w a2 bs) (hl1 : ws.length ≤ 2000000) (hl2 : bs.length ≤ 2000000) (b : Bool) (hb : okR 2 pl nn wa ws l1 l2 = b) :
    Calls Tryz.prog 122 #[rq 2 pl nn wa a1 a2 l1 l2 c1 c2] w fun e w' => e = .returned (bif b then .iface 146 (.agg #[.int .i64 pl, .int .i64 nn]) else .nilIface) ∧ Below w.heap.size w w' := by
  subst hb
  rw [okI_2 _ _ _ _ _ _ h1]
  rw [show (rnB pl nn 2000 && (decide (wa = 0) && (decide (l1 = 0) && (decide (l2 = 0))))) = ((rnB pl nn 2000) && (decide (wa = 0) && (decide (l1 = 0) && (decide (l2 = 0))))) from by simp only [Bool.and_assoc]]
  cases hI : (rnB pl nn 2000)
  · rw [Bool.false_and]
    exact rq_false 2 pl nn wa a1 a2 l1 l2 c1 c2 w _ (fun u hu => questionOf_2 pl nn wa a1 a2 l1 l2 c1 c2 u) (fun u hu => isRight_2 _ _ u _ hI)
  · rw [Bool.true_and]
    refine rq_true 2 pl nn wa a1 a2 l1 l2 c1 c2 w _ _ 162 _ (fun u hu => questionOf_2 pl nn wa a1 a2 l1 l2 c1 c2 u) (fun u hu => isRight_2 _ _ u _ hI) (callf_2 _) (meth_2 _) (fun u hu => (req_2 _ _ u).mono ?_)
    rintro e u' ⟨rfl, bu⟩
    refine ⟨_, rfl, bu, ?_⟩
    have hu2 := bel_next hu bu
    by_cases hww : wa = 0
    rotate_left
    · rw [decide_eq_false hww]
      exact sameReq_w _ _ _ _ _ _ _ _ _ _ _ _ _ _ _ _ _ _ _ rfl (fun h => hww h.symm)
    rw [decide_eq_true hww, Bool.true_and]
    by_cases hll1 : l1 = 0
    rotate_left
    · rw [decide_eq_false hll1]
      exact sameReq_1 _ _ _ _ _ _ _ _ _ _ _ _ _ _ _ _ _ _ _ rfl hww (by omega) (by omega) (by omega)
    rw [decide_eq_true hll1, Bool.true_and]
    by_cases hll2 : l2 = 0
    rotate_left
    · rw [decide_eq_false hll2]
      exact sameReq_2 _ _ _ _ _ _ _ _ _ _ _ _ _ _ _ _ _ _ _ rfl hww [] rfl hll1 (.inl rfl) (.inl rfl) (by simp) (by omega) (by omega) (by omega)
    rw [decide_eq_true hll2]
    exact sameReq_t _ _ _ _ _ _ _ _ _ _ _ _ _ _ _ _ _ _ _ rfl hww [] rfl hll1 (.inl rfl) (.inl rfl) (by simp) [] rfl hll2 (.inl rfl) (.inl rfl) (by simp)

set_option maxRecDepth 20000 in
set_option maxHeartbeats 2000000 in
theorem rightQuestion_3 (pl nn wa : Int) (a1 a2 : Option Addr) (l1 l2 c1 c2 : Nat) (ws : List Int) (bs : List Bool) (w : World) (h1 : l1 = ws.length) (h2 : l2 = bs.length) (s1 : SlI w a1 ws) (s2 : SlB w a2 bs) (hl1 : ws.length ≤ 2000000) (hl2 : bs.length ≤ 2000000) (b : Bool) (hb : okR 3 pl nn wa ws l1 l2 = b) :
    Calls Tryz.prog 122 #[rq 3 pl nn wa a1 a2 l1 l2 c1 c2] w fun e w' => e = .returned (bif b then .iface 147 (.agg #[.int .i64 pl, .int .i64 nn]) else .nilIface) ∧ Below w.heap.size w w' := by
  subst hb
  rw [okI_3 _ _ _ _ _ _ h1]
  rw [show (rnB pl nn 125 && (decide (wa = 0) && (decide (l1 = 0) && (decide (l2 = 0))))) = ((rnB pl nn 125) && (decide (wa = 0) && (decide (l1 = 0) && (decide (l2 = 0))))) from by simp only [Bool.and_assoc]]
  cases hI : (rnB pl nn 125)
  · rw [Bool.false_and]
    exact rq_false 3 pl nn wa a1 a2 l1 l2 c1 c2 w _ (fun u hu => questionOf_3 pl nn wa a1 a2 l1 l2 c1 c2 u) (fun u hu => isRight_3 _ _ u _ hI)
  · rw [Bool.true_and]
    refine rq_true 3 pl nn wa a1 a2 l1 l2 c1 c2 w _ _ 163 _ (fun u hu => questionOf_3 pl nn wa a1 a2 l1 l2 c1 c2 u) (fun u hu => isRight_3 _ _ u _ hI) (callf_3 _) (meth_3 _) (fun u hu => (req_3 _ _ u).mono ?_)
    rintro e u' ⟨rfl, bu⟩
    refine ⟨_, rfl, bu, ?_⟩
    have hu2 := bel_next hu bu
    by_cases hww : wa = 0
    rotate_left
    · rw [decide_eq_false hww]
      exact sameReq_w _ _ _ _ _ _ _ _ _ _ _ _ _ _ _ _ _ _ _ rfl (fun h => hww h.symm)
    rw [decide_eq_true hww, Bool.true_and]
    by_cases hll1 : l1 = 0
    rotate_left
    · rw [decide_eq_false hll1]
      exact sameReq_1 _ _ _ _ _ _ _ _ _ _ _ _ _ _ _ _ _ _ _ rfl hww (by omega) (by omega) (by omega)
    rw [decide_eq_true hll1, Bool.true_and]
    by_cases hll2 : l2 = 0
    rotate_left
    · rw [decide_eq_false hll2]
      exact sameReq_2 _ _ _ _ _ _ _ _ _ _ _ _ _ _ _ _ _ _ _ rfl hww [] rfl hll1 (.inl rfl) (.inl rfl) (by simp) (by omega) (by omega) (by omega)
    rw [decide_eq_true hll2]
    exact sameReq_t _ _ _ _ _ _ _ _ _ _ _ _ _ _ _ _ _ _ _ rfl hww [] rfl hll1 (.inl rfl) (.inl rfl) (by simp) [] rfl hll2 (.inl rfl) (.inl rfl) (by simp)

set_option maxRecDepth 20000 in
set_option maxHeartbeats 2000000 in
theorem rightQuestion_4 (pl nn wa : Int) (a1 a2 : Option Addr) (l1 l2 c1 c2 : Nat) (ws : List Int) (bs : List Bool) (w : World) (h1 : l1 = ws.length) (h2 : l2 = bs.length) (s1 : SlI w a1 ws) (s2 : SlB w a2 bs) (hl1 : ws.length ≤ 2000000) (hl2 : bs.length ≤ 2000000) (b : Bool) (hb : okR 4 pl nn wa ws l1 l2 = b) :
    Calls Tryz.prog 122 #[rq 4 pl nn wa a1 a2 l1 l2 c1 c2] w fun e w' => e = .returned (bif b then .iface 148 (.agg #[.int .i64 pl, .int .i64 nn]) else .nilIface) ∧ Below w.heap.size w w' := by
  subst hb
  rw [okI_4 _ _ _ _ _ _ h1]
  rw [show (rnB pl nn 125 && (decide (wa = 0) && (decide (l1 = 0) && (decide (l2 = 0))))) = ((rnB pl nn 125) && (decide (wa = 0) && (decide (l1 = 0) && (decide (l2 = 0))))) from by simp only [Bool.and_assoc]]
  cases hI : (rnB pl nn 125)
  · rw [Bool.false_and]
    exact rq_false 4 pl nn wa a1 a2 l1 l2 c1 c2 w _ (fun u hu => questionOf_4 pl nn wa a1 a2 l1 l2 c1 c2 u) (fun u hu => isRight_4 _ _ u _ hI)
  · rw [Bool.true_and]
    refine rq_true 4 pl nn wa a1 a2 l1 l2 c1 c2 w _ _ 164 _ (fun u hu => questionOf_4 pl nn wa a1 a2 l1 l2 c1 c2 u) (fun u hu => isRight_4 _ _ u _ hI) (callf_4 _) (meth_4 _) (fun u hu => (req_4 _ _ u).mono ?_)
    rintro e u' ⟨rfl, bu⟩
    refine ⟨_, rfl, bu, ?_⟩
    have hu2 := bel_next hu bu
    by_cases hww : wa = 0
    rotate_left
    · rw [decide_eq_false hww]
      exact sameReq_w _ _ _ _ _ _ _ _ _ _ _ _ _ _ _ _ _ _ _ rfl (fun h => hww h.symm)
    rw [decide_eq_true hww, Bool.true_and]
    by_cases hll1 : l1 = 0
    rotate_left
    · rw [decide_eq_false hll1]
      exact sameReq_1 _ _ _ _ _ _ _ _ _ _ _ _ _ _ _ _ _ _ _ rfl hww (by omega) (by omega) (by omega)
    rw [decide_eq_true hll1, Bool.true_and]
    by_cases hll2 : l2 = 0
    rotate_left
    · rw [decide_eq_false hll2]
      exact sameReq_2 _ _ _ _ _ _ _ _ _ _ _ _ _ _ _ _ _ _ _ rfl hww [] rfl hll1 (.inl rfl) (.inl rfl) (by simp) (by omega) (by omega) (by omega)
    rw [decide_eq_true hll2]
    exact sameReq_t _ _ _ _ _ _ _ _ _ _ _ _ _ _ _ _ _ _ _ rfl hww [] rfl hll1 (.inl rfl) (.inl rfl) (by simp) [] rfl hll2 (.inl rfl) (.inl rfl) (by simp)

set_option maxRecDepth 20000 in
set_option maxHeartbeats 2000000 in
theorem rightQuestion_5 (pl nn wa : Int) (a1 a2 : Option Addr) (l1 l2 c1 c2 : Nat) (ws : List Int) (bs : List Bool) (w : World) (h1 : l1 = ws.length) (h2 : l2 = bs.length) (s1 : SlI w a1 ws) (s2 : SlB w a2 bs) (hl1 : ws.length ≤ 2000000) (hl2 : bs.length ≤ 2000000) (b : Bool) (hb : okR 5 pl nn wa ws l1 l2 = b) :
    Calls Tryz.prog 122 #[rq 5 pl nn wa a1 a2 l1 l2 c1 c2] w fun e w' => e = .returned (bif b then .iface 150 (.agg #[.int .i64 pl, .bool (bs.getD 0 false)]) else .nilIface) ∧ Below w.heap.size w w' := by
  subst hb
  rw [okI_5 _ _ _ _ _ _ h1]
  by_cases hL : l2 = 1
  rotate_left
  · rw [decide_eq_false hL]
    exact rq_false 5 pl nn wa a1 a2 l1 l2 c1 c2 w .nilIface (fun u hu => questionOf_5n pl nn wa a1 a2 l1 l2 c1 c2 u (by simp; omega)) (fun u hu => isRight_n u)
  rw [decide_eq_true hL, Bool.true_and]
  rw [show (inB pl 0 65535 && (decide (nn = 0) && (decide (wa = 0) && (decide (l1 = 0))))) = ((inB pl 0 65535) && (decide (nn = 0) && (decide (wa = 0) && (decide (l1 = 0))))) from by simp only [Bool.and_assoc]]
  cases hI : (inB pl 0 65535)
  · rw [Bool.false_and]
    exact rq_false 5 pl nn wa a1 a2 l1 l2 c1 c2 w _ (fun u hu => questionOf_5 pl nn wa a1 a2 l1 l2 c1 c2 u bs h2 (by omega) (s2.below hu)) (fun u hu => isRight_5 _ _ u _ hI)
  · rw [Bool.true_and]
    refine rq_true 5 pl nn wa a1 a2 l1 l2 c1 c2 w _ _ 165 _ (fun u hu => questionOf_5 pl nn wa a1 a2 l1 l2 c1 c2 u bs h2 (by omega) (s2.below hu)) (fun u hu => isRight_5 _ _ u _ hI) (callf_5 _) (meth_5 _) (fun u hu => (req_5 _ _ u).mono ?_)
    rintro e u' ⟨rfl, n3, bu⟩
    refine ⟨_, rfl, bu, ?_⟩
    have hu2 := bel_next hu bu
    by_cases hnn : nn = 0
    rotate_left
    · rw [decide_eq_false hnn]
      exact sameReq_n _ _ _ _ _ _ _ _ _ _ _ _ _ _ _ _ _ _ _ (fun h => hnn h.symm)
    rw [decide_eq_true hnn, Bool.true_and]
    by_cases hww : wa = 0
    rotate_left
    · rw [decide_eq_false hww]
      exact sameReq_w _ _ _ _ _ _ _ _ _ _ _ _ _ _ _ _ _ _ _ hnn (fun h => hww h.symm)
    rw [decide_eq_true hww, Bool.true_and]
    by_cases hll1 : l1 = 0
    rotate_left
    · rw [decide_eq_false hll1]
      exact sameReq_1 _ _ _ _ _ _ _ _ _ _ _ _ _ _ _ _ _ _ _ hnn hww (by omega) (by omega) (by omega)
    rw [decide_eq_true hll1]
    exact sameReq_t _ _ _ _ _ _ _ _ _ _ _ _ _ _ _ _ _ _ _ hnn hww [] rfl hll1 (.inl rfl) (.inl rfl) (by simp) [bs.getD 0 false] rfl hL n3 (by have := s2.below hu2; rw [list_one (bs := bs) (by omega)] at this; exact this) (by simp)

set_option maxRecDepth 20000 in
set_option maxHeartbeats 2000000 in
theorem rightQuestion_6 (pl nn wa : Int) (a1 a2 : Option Addr) (l1 l2 c1 c2 : Nat) (ws : List Int) (bs : List Bool) (w : World) (h1 : l1 = ws.length) (h2 : l2 = bs.length) (s1 : SlI w a1 ws) (s2 : SlB w a2 bs) (hl1 : ws.length ≤ 2000000) (hl2 : bs.length ≤ 2000000) (b : Bool) (hb : okR 6 pl nn wa ws l1 l2 = b) :
    Calls Tryz.prog 122 #[rq 6 pl nn wa a1 a2 l1 l2 c1 c2] w fun e w' => e = .returned (bif b then .iface 152 (.agg #[.int .i64 pl, .int .i64 (ws.getD 0 0)]) else .nilIface) ∧ Below w.heap.size w w' := by
  subst hb
  rw [okI_6 _ _ _ _ _ _ h1]
  by_cases hL : l1 = 1
  rotate_left
  · rw [decide_eq_false hL]
    exact rq_false 6 pl nn wa a1 a2 l1 l2 c1 c2 w .nilIface (fun u hu => questionOf_6n pl nn wa a1 a2 l1 l2 c1 c2 u (by simp; omega)) (fun u hu => isRight_n u)
  rw [decide_eq_true hL, Bool.true_and]
  rw [show (inB pl 0 65535 && (inB (ws.getD 0 0) 0 65535 && (decide (nn = 0) && (decide (wa = 0) && (decide (l2 = 0)))))) = ((inB pl 0 65535 && inB (ws.getD 0 0) 0 65535) && (decide (nn = 0) && (decide (wa = 0) && (decide (l2 = 0))))) from by simp only [Bool.and_assoc]]
  cases hI : (inB pl 0 65535 && inB (ws.getD 0 0) 0 65535)
  · rw [Bool.false_and]
    exact rq_false 6 pl nn wa a1 a2 l1 l2 c1 c2 w _ (fun u hu => questionOf_6 pl nn wa a1 a2 l1 l2 c1 c2 u ws h1 (by omega) (s1.below hu)) (fun u hu => isRight_6 _ _ u _ hI)
  · rw [Bool.true_and]
    refine rq_true 6 pl nn wa a1 a2 l1 l2 c1 c2 w _ _ 166 _ (fun u hu => questionOf_6 pl nn wa a1 a2 l1 l2 c1 c2 u ws h1 (by omega) (s1.below hu)) (fun u hu => isRight_6 _ _ u _ hI) (callf_6 _) (meth_6 _) (fun u hu => (req_6 _ _ u).mono ?_)
    rintro e u' ⟨rfl, n3, bu⟩
    refine ⟨_, rfl, bu, ?_⟩
    have hu2 := bel_next hu bu
    by_cases hnn : nn = 0
    rotate_left
    · rw [decide_eq_false hnn]
      exact sameReq_n _ _ _ _ _ _ _ _ _ _ _ _ _ _ _ _ _ _ _ (fun h => hnn h.symm)
    rw [decide_eq_true hnn, Bool.true_and]
    by_cases hww : wa = 0
    rotate_left
    · rw [decide_eq_false hww]
      exact sameReq_w _ _ _ _ _ _ _ _ _ _ _ _ _ _ _ _ _ _ _ hnn (fun h => hww h.symm)
    rw [decide_eq_true hww, Bool.true_and]
    by_cases hll2 : l2 = 0
    rotate_left
    · rw [decide_eq_false hll2]
      exact sameReq_2 _ _ _ _ _ _ _ _ _ _ _ _ _ _ _ _ _ _ _ hnn hww [ws.getD 0 0] rfl hL n3 (by have := s1.below hu2; rw [ints_one (ws := ws) (by omega)] at this; exact this) (by simp) (by omega) (by omega) (by omega)
    rw [decide_eq_true hll2]
    exact sameReq_t _ _ _ _ _ _ _ _ _ _ _ _ _ _ _ _ _ _ _ hnn hww [ws.getD 0 0] rfl hL n3 (by have := s1.below hu2; rw [ints_one (ws := ws) (by omega)] at this; exact this) (by simp) [] rfl hll2 (.inl rfl) (.inl rfl) (by simp)

set_option maxRecDepth 20000 in
set_option maxHeartbeats 2000000 in
theorem rightQuestion_15 (pl nn wa : Int) (a1 a2 : Option Addr) (l1 l2 c1 c2 : Nat) (ws : List Int) (bs : List Bool) (w : World) (h1 : l1 = ws.length) (h2 : l2 = bs.length) (s1 : SlI w a1 ws) (s2 : SlB w a2 bs) (hl1 : ws.length ≤ 2000000) (hl2 : bs.length ≤ 2000000) (b : Bool) (hb : okR 15 pl nn wa ws l1 l2 = b) :
    Calls Tryz.prog 122 #[rq 15 pl nn wa a1 a2 l1 l2 c1 c2] w fun e w' => e = .returned (bif b then .iface 154 (.agg #[.int .i64 pl, .slice a2 l2 c2]) else .nilIface) ∧ Below w.heap.size w w' := by
  subst hb
  rw [okI_15 _ _ _ _ _ _ h1]
  rw [show (rnB pl (l2 : Int) 1968 && (decide (nn = 0) && (decide (wa = 0) && (decide (l1 = 0))))) = ((rnB pl (l2 : Int) 1968) && (decide (nn = 0) && (decide (wa = 0) && (decide (l1 = 0))))) from by simp only [Bool.and_assoc]]
  cases hI : (rnB pl (l2 : Int) 1968)
  · rw [Bool.false_and]
    exact rq_false 15 pl nn wa a1 a2 l1 l2 c1 c2 w _ (fun u hu => questionOf_15 pl nn wa a1 a2 l1 l2 c1 c2 u) (fun u hu => isRight_15 _ _ _ _ u _ hI)
  · rw [Bool.true_and]
    refine rq_true 15 pl nn wa a1 a2 l1 l2 c1 c2 w _ _ 167 _ (fun u hu => questionOf_15 pl nn wa a1 a2 l1 l2 c1 c2 u) (fun u hu => isRight_15 _ _ _ _ u _ hI) (callf_15 _) (meth_15 _) (fun u hu => (req_15 _ _ _ _ u).mono ?_)
    rintro e u' ⟨rfl, bu⟩
    refine ⟨_, rfl, bu, ?_⟩
    have hu2 := bel_next hu bu
    by_cases hnn : nn = 0
    rotate_left
    · rw [decide_eq_false hnn]
      exact sameReq_n _ _ _ _ _ _ _ _ _ _ _ _ _ _ _ _ _ _ _ (fun h => hnn h.symm)
    rw [decide_eq_true hnn, Bool.true_and]
    by_cases hww : wa = 0
    rotate_left
    · rw [decide_eq_false hww]
      exact sameReq_w _ _ _ _ _ _ _ _ _ _ _ _ _ _ _ _ _ _ _ hnn (fun h => hww h.symm)
    rw [decide_eq_true hww, Bool.true_and]
    by_cases hll1 : l1 = 0
    rotate_left
    · rw [decide_eq_false hll1]
      exact sameReq_1 _ _ _ _ _ _ _ _ _ _ _ _ _ _ _ _ _ _ _ hnn hww (by omega) (by omega) (by omega)
    rw [decide_eq_true hll1]
    exact sameReq_t _ _ _ _ _ _ _ _ _ _ _ _ _ _ _ _ _ _ _ hnn hww [] rfl hll1 (.inl rfl) (.inl rfl) (by simp) bs h2 h2 (s2.below hu2) (s2.below hu2) hl2

set_option maxRecDepth 20000 in
set_option maxHeartbeats 2000000 in
theorem rightQuestion_16 (pl nn wa : Int) (a1 a2 : Option Addr) (l1 l2 c1 c2 : Nat) (ws : List Int) (bs : List Bool) (w : World) (h1 : l1 = ws.length) (h2 : l2 = bs.length) (s1 : SlI w a1 ws) (s2 : SlB w a2 bs) (hl1 : ws.length ≤ 2000000) (hl2 : bs.length ≤ 2000000) (b : Bool) (hb : okR 16 pl nn wa ws l1 l2 = b) :
    Calls Tryz.prog 122 #[rq 16 pl nn wa a1 a2 l1 l2 c1 c2] w fun e w' => e = .returned (bif b then .iface 156 (.agg #[.int .i64 pl, .slice a1 l1 c1]) else .nilIface) ∧ Below w.heap.size w w' := by
  subst hb
  rw [okI_16 _ _ _ _ _ _ h1]
  rw [show (rnB pl (l1 : Int) 123 && (allW ws && (decide (nn = 0) && (decide (wa = 0) && (decide (l2 = 0)))))) = ((rnB pl (l1 : Int) 123 && allW ws) && (decide (nn = 0) && (decide (wa = 0) && (decide (l2 = 0))))) from by simp only [Bool.and_assoc]]
  cases hI : (rnB pl (l1 : Int) 123 && allW ws)
  · rw [Bool.false_and]
    exact rq_false 16 pl nn wa a1 a2 l1 l2 c1 c2 w _ (fun u hu => questionOf_16 pl nn wa a1 a2 l1 l2 c1 c2 u) (fun u hu => isRight_16 _ _ _ _ ws u h1 (s1.below hu) hl1 _ hI)
  · rw [Bool.true_and]
    refine rq_true 16 pl nn wa a1 a2 l1 l2 c1 c2 w _ _ 168 _ (fun u hu => questionOf_16 pl nn wa a1 a2 l1 l2 c1 c2 u) (fun u hu => isRight_16 _ _ _ _ ws u h1 (s1.below hu) hl1 _ hI) (callf_16 _) (meth_16 _) (fun u hu => (req_16 _ _ _ _ u).mono ?_)
    rintro e u' ⟨rfl, bu⟩
    refine ⟨_, rfl, bu, ?_⟩
    have hu2 := bel_next hu bu
    by_cases hnn : nn = 0
    rotate_left
    · rw [decide_eq_false hnn]
      exact sameReq_n _ _ _ _ _ _ _ _ _ _ _ _ _ _ _ _ _ _ _ (fun h => hnn h.symm)
    rw [decide_eq_true hnn, Bool.true_and]
    by_cases hww : wa = 0
    rotate_left
    · rw [decide_eq_false hww]
      exact sameReq_w _ _ _ _ _ _ _ _ _ _ _ _ _ _ _ _ _ _ _ hnn (fun h => hww h.symm)
    rw [decide_eq_true hww, Bool.true_and]
    by_cases hll2 : l2 = 0
    rotate_left
    · rw [decide_eq_false hll2]
      exact sameReq_2 _ _ _ _ _ _ _ _ _ _ _ _ _ _ _ _ _ _ _ hnn hww ws h1 h1 (s1.below hu2) (s1.below hu2) hl1 (by omega) (by omega) (by omega)
    rw [decide_eq_true hll2]
    exact sameReq_t _ _ _ _ _ _ _ _ _ _ _ _ _ _ _ _ _ _ _ hnn hww ws h1 h1 (s1.below hu2) (s1.below hu2) hl1 [] rfl hll2 (.inl rfl) (.inl rfl) (by simp)

set_option maxRecDepth 20000 in
set_option maxHeartbeats 2000000 in
theorem rightQuestion_22 (pl nn wa : Int) (a1 a2 : Option Addr) (l1 l2 c1 c2 : Nat) (ws : List Int) (bs : List Bool) (w : World) (h1 : l1 = ws.length) (h2 : l2 = bs.length) (s1 : SlI w a1 ws) (s2 : SlB w a2 bs) (hl1 : ws.length ≤ 2000000) (hl2 : bs.length ≤ 2000000) (b : Bool) (hb : okR 22 pl nn wa ws l1 l2 = b) :
    Calls Tryz.prog 122 #[rq 22 pl nn wa a1 a2 l1 l2 c1 c2] w fun e w' => e = .returned (bif b then .iface 158 (.agg #[.int .i64 pl, .int .i64 (ws.getD 0 0), .int .i64 (ws.getD 1 0)]) else .nilIface) ∧ Below w.heap.size w w' := by
  subst hb
  rw [okI_22 _ _ _ _ _ _ h1]
  by_cases hL : l1 = 2
  rotate_left
  · rw [decide_eq_false hL]
    exact rq_false 22 pl nn wa a1 a2 l1 l2 c1 c2 w .nilIface (fun u hu => questionOf_22n pl nn wa a1 a2 l1 l2 c1 c2 u (by simp; omega)) (fun u hu => isRight_n u)
  rw [decide_eq_true hL, Bool.true_and]
  rw [show (inB pl 0 65535 && (inB (ws.getD 0 0) 0 65535 && (inB (ws.getD 1 0) 0 65535 && (decide (nn = 0) && (decide (wa = 0) && (decide (l2 = 0))))))) = ((inB pl 0 65535 && (inB (ws.getD 0 0) 0 65535 && inB (ws.getD 1 0) 0 65535)) && (decide (nn = 0) && (decide (wa = 0) && (decide (l2 = 0))))) from by simp only [Bool.and_assoc]]
  cases hI : (inB pl 0 65535 && (inB (ws.getD 0 0) 0 65535 && inB (ws.getD 1 0) 0 65535))
  · rw [Bool.false_and]
    exact rq_false 22 pl nn wa a1 a2 l1 l2 c1 c2 w _ (fun u hu => questionOf_22 pl nn wa a1 a2 l1 l2 c1 c2 u ws h1 (by omega) (s1.below hu)) (fun u hu => isRight_22 _ _ _ u _ hI)
  · rw [Bool.true_and]
    refine rq_true 22 pl nn wa a1 a2 l1 l2 c1 c2 w _ _ 169 _ (fun u hu => questionOf_22 pl nn wa a1 a2 l1 l2 c1 c2 u ws h1 (by omega) (s1.below hu)) (fun u hu => isRight_22 _ _ _ u _ hI) (callf_22 _) (meth_22 _) (fun u hu => (req_22 _ _ _ u).mono ?_)
    rintro e u' ⟨rfl, n3, bu⟩
    refine ⟨_, rfl, bu, ?_⟩
    have hu2 := bel_next hu bu
    by_cases hnn : nn = 0
    rotate_left
    · rw [decide_eq_false hnn]
      exact sameReq_n _ _ _ _ _ _ _ _ _ _ _ _ _ _ _ _ _ _ _ (fun h => hnn h.symm)
    rw [decide_eq_true hnn, Bool.true_and]
    by_cases hww : wa = 0
    rotate_left
    · rw [decide_eq_false hww]
      exact sameReq_w _ _ _ _ _ _ _ _ _ _ _ _ _ _ _ _ _ _ _ hnn (fun h => hww h.symm)
    rw [decide_eq_true hww, Bool.true_and]
    by_cases hll2 : l2 = 0
    rotate_left
    · rw [decide_eq_false hll2]
      exact sameReq_2 _ _ _ _ _ _ _ _ _ _ _ _ _ _ _ _ _ _ _ hnn hww [ws.getD 0 0, ws.getD 1 0] rfl hL n3 (by have := s1.below hu2; rw [ints_two (ws := ws) (by omega)] at this; exact this) (by simp) (by omega) (by omega) (by omega)
    rw [decide_eq_true hll2]
    exact sameReq_t _ _ _ _ _ _ _ _ _ _ _ _ _ _ _ _ _ _ _ hnn hww [ws.getD 0 0, ws.getD 1 0] rfl hL n3 (by have := s1.below hu2; rw [ints_two (ws := ws) (by omega)] at this; exact this) (by simp) [] rfl hll2 (.inl rfl) (.inl rfl) (by simp)

set_option maxRecDepth 20000 in
set_option maxHeartbeats 2000000 in
theorem rightQuestion_23 (pl nn wa : Int) (a1 a2 : Option Addr) (l1 l2 c1 c2 : Nat) (ws : List Int) (bs : List Bool) (w : World) (h1 : l1 = ws.length) (h2 : l2 = bs.length) (s1 : SlI w a1 ws) (s2 : SlB w a2 bs) (hl1 : ws.length ≤ 2000000) (hl2 : bs.length ≤ 2000000) (b : Bool) (hb : okR 23 pl nn wa ws l1 l2 = b) :
    Calls Tryz.prog 122 #[rq 23 pl nn wa a1 a2 l1 l2 c1 c2] w fun e w' => e = .returned (bif b then .iface 160 (.agg #[.int .i64 pl, .int .i64 nn, .int .i64 wa, .slice a1 l1 c1]) else .nilIface) ∧ Below w.heap.size w w' := by
  subst hb
  rw [okI_23 _ _ _ _ _ _ h1]
  rw [show (rnB pl nn 125 && (rnB wa (l1 : Int) 121 && (allW ws && (decide (l2 = 0))))) = ((rnB pl nn 125 && (rnB wa (l1 : Int) 121 && allW ws)) && (decide (l2 = 0))) from by simp only [Bool.and_assoc]]
  cases hI : (rnB pl nn 125 && (rnB wa (l1 : Int) 121 && allW ws))
  · rw [Bool.false_and]
    exact rq_false 23 pl nn wa a1 a2 l1 l2 c1 c2 w _ (fun u hu => questionOf_23 pl nn wa a1 a2 l1 l2 c1 c2 u) (fun u hu => isRight_23 _ _ _ _ _ _ ws u h1 (s1.below hu) hl1 _ hI)
  · rw [Bool.true_and]
    refine rq_true 23 pl nn wa a1 a2 l1 l2 c1 c2 w _ _ 170 _ (fun u hu => questionOf_23 pl nn wa a1 a2 l1 l2 c1 c2 u) (fun u hu => isRight_23 _ _ _ _ _ _ ws u h1 (s1.below hu) hl1 _ hI) (callf_23 _) (meth_23 _) (fun u hu => (req_23 _ _ _ _ _ _ u).mono ?_)
    rintro e u' ⟨rfl, bu⟩
    refine ⟨_, rfl, bu, ?_⟩
    have hu2 := bel_next hu bu
    by_cases hll2 : l2 = 0
    rotate_left
    · rw [decide_eq_false hll2]
      exact sameReq_2 _ _ _ _ _ _ _ _ _ _ _ _ _ _ _ _ _ _ _ rfl rfl ws h1 h1 (s1.below hu2) (s1.below hu2) hl1 (by omega) (by omega) (by omega)
    rw [decide_eq_true hll2]
    exact sameReq_t _ _ _ _ _ _ _ _ _ _ _ _ _ _ _ _ _ _ _ rfl rfl ws h1 h1 (s1.below hu2) (s1.below hu2) hl1 [] rfl hll2 (.inl rfl) (.inl rfl) (by simp)

theorem rightQuestion_none (kd : Int) (pl nn wa : Int) (a1 a2 : Option Addr) (l1 l2 c1 c2 : Nat) (ws : List Int) (bs : List Bool) (w : World) (h1 : l1 = ws.length) (h2 : l2 = bs.length) (s1 : SlI w a1 ws) (s2 : SlB w a2 bs) (hl1 : ws.length ≤ 2000000) (hl2 : bs.length ≤ 2000000) (k1 : ¬ kd = 1) (k2 : ¬ kd = 2) (k3 : ¬ kd = 3) (k4 : ¬ kd = 4) (k5 : ¬ kd = 5) (k6 : ¬ kd = 6) (k15 : ¬ kd = 15) (k16 : ¬ kd = 16) (k22 : ¬ kd = 22) (k23 : ¬ kd = 23) :
    Calls Tryz.prog 122 #[rq kd pl nn wa a1 a2 l1 l2 c1 c2] w fun e w' => e = .returned .nilIface ∧ Below w.heap.size w w' :=
  rq_false kd pl nn wa a1 a2 l1 l2 c1 c2 w .nilIface (fun u hu => questionOf_none kd pl nn wa a1 a2 l1 l2 c1 c2 u k1 k2 k3 k4 k5 k6 k15 k16 k22 k23) (fun u hu => isRight_n u)

end Go.Proofs.YtmhdneenjoelfaaGreat
