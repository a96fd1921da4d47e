/- Texts that the proof needs, joined: Q5 Q6 MarkF Dev4. -/
import Derived.Test.YtfdddkjonjpgpaaY2
import Derived.Test.YtfdddkjonjpgpaaY3
import Derived.Test.YtfdddkjonjpgpaaY1
import Derived.Deep.RegionWith
namespace Go.Proofs.Ytfdddkjonjpgpaa
open Go.RowKit
set_option linter.unusedVariables false
set_option linter.unusedSimpArgs false
theorem meth_1 (v : Value) (w : World) : (method 242 108 v "loop.example/g00129/impl.req").run Try.prog w = .ok (115, v) w := by kernel_rfl
theorem callf_1 (v : Value) (w : World) : (callFunc 115 #[v]).run Try.prog w = .ok (.enter 115 #[v]) w := by kernel_rfl
theorem meth_2 (v : Value) (w : World) : (method 242 109 v "loop.example/g00129/impl.req").run Try.prog w = .ok (116, v) w := by kernel_rfl
theorem callf_2 (v : Value) (w : World) : (callFunc 116 #[v]).run Try.prog w = .ok (.enter 116 #[v]) w := by kernel_rfl
theorem meth_3 (v : Value) (w : World) : (method 242 110 v "loop.example/g00129/impl.req").run Try.prog w = .ok (117, v) w := by kernel_rfl
theorem callf_3 (v : Value) (w : World) : (callFunc 117 #[v]).run Try.prog w = .ok (.enter 117 #[v]) w := by kernel_rfl
theorem meth_4 (v : Value) (w : World) : (method 242 111 v "loop.example/g00129/impl.req").run Try.prog w = .ok (118, v) w := by kernel_rfl
theorem callf_4 (v : Value) (w : World) : (callFunc 118 #[v]).run Try.prog w = .ok (.enter 118 #[v]) w := by kernel_rfl
theorem meth_5 (v : Value) (w : World) : (method 242 113 v "loop.example/g00129/impl.req").run Try.prog w = .ok (119, v) w := by kernel_rfl
theorem callf_5 (v : Value) (w : World) : (callFunc 119 #[v]).run Try.prog w = .ok (.enter 119 #[v]) w := by kernel_rfl
theorem meth_6 (v : Value) (w : World) : (method 242 115 v "loop.example/g00129/impl.req").run Try.prog w = .ok (120, v) w := by kernel_rfl
theorem callf_6 (v : Value) (w : World) : (callFunc 120 #[v]).run Try.prog w = .ok (.enter 120 #[v]) w := by kernel_rfl
theorem meth_15 (v : Value) (w : World) : (method 242 117 v "loop.example/g00129/impl.req").run Try.prog w = .ok (121, v) w := by kernel_rfl
theorem callf_15 (v : Value) (w : World) : (callFunc 121 #[v]).run Try.prog w = .ok (.enter 121 #[v]) w := by kernel_rfl
theorem meth_16 (v : Value) (w : World) : (method 242 119 v "loop.example/g00129/impl.req").run Try.prog w = .ok (122, v) w := by kernel_rfl
theorem callf_16 (v : Value) (w : World) : (callFunc 122 #[v]).run Try.prog w = .ok (.enter 122 #[v]) w := by kernel_rfl
theorem meth_22 (v : Value) (w : World) : (method 242 121 v "loop.example/g00129/impl.req").run Try.prog w = .ok (123, v) w := by kernel_rfl
theorem callf_22 (v : Value) (w : World) : (callFunc 123 #[v]).run Try.prog w = .ok (.enter 123 #[v]) w := by kernel_rfl
theorem meth_23 (v : Value) (w : World) : (method 242 123 v "loop.example/g00129/impl.req").run Try.prog w = .ok (124, v) w := by kernel_rfl
theorem callf_23 (v : Value) (w : World) : (callFunc 124 #[v]).run Try.prog w = .ok (.enter 124 #[v]) w := by kernel_rfl
theorem allW_one {ws : List Int} (h : ws.length = 1) : allW ws = inB (ws.getD 0 0) 0 65535 := by
  unfold allW inB
  rw [Bool.eq_iff_iff]
  simp only [decide_eq_true_eq]
  constructor
  · intro hh; exact hh 0 (by omega)
  · intro hh k hk
    obtain rfl : k = 0 := by omega
    exact hh
theorem allW_two {ws : List Int} (h : ws.length = 2) : allW ws = (inB (ws.getD 0 0) 0 65535 && inB (ws.getD 1 0) 0 65535) := by
  unfold allW inB
  rw [Bool.eq_iff_iff]
  simp only [decide_eq_true_eq, Bool.and_eq_true]
  constructor
  · intro hh; exact ⟨hh 0 (by omega), hh 1 (by omega)⟩
  · intro hh k hk
    obtain rfl | rfl : k = 0 ∨ k = 1 := by omega
    · exact hh.1
    · exact hh.2
theorem list_one {bs : List Bool} (h : bs.length = 1) : bs = [bs.getD 0 false] := by
  match bs, h with
  | [x], _ => rfl
theorem ints_one {ws : List Int} (h : ws.length = 1) : ws = [ws.getD 0 0] := by
  match ws, h with
  | [x], _ => rfl
theorem ints_two {ws : List Int} (h : ws.length = 2) : ws = [ws.getD 0 0, ws.getD 1 0] := by
  match ws, h with
  | [x, y], _ => rfl
theorem okI_1 (pl nn wa : Int) (ws : List Int) (l1 l2 : Nat) (h1 : l1 = ws.length) : okR 1 pl nn wa ws l1 l2 = (rnB pl nn 2000 && (decide (wa = 0) && (decide (l1 = 0) && (decide (l2 = 0))))) := by
  by_cases hl : l1 = 0
  · have hW : allW ws = true := allW_good (fun k hk => by omega)
    rw [Bool.eq_iff_iff]; simp [okR, okK, zrB, inB, fitB, rnB, hW, hl]; omega
  · rw [Bool.eq_iff_iff]; simp [okR, okK, zrB, hl]
theorem okI_2 (pl nn wa : Int) (ws : List Int) (l1 l2 : Nat) (h1 : l1 = ws.length) : okR 2 pl nn wa ws l1 l2 = (rnB pl nn 2000 && (decide (wa = 0) && (decide (l1 = 0) && (decide (l2 = 0))))) := by
  by_cases hl : l1 = 0
  · have hW : allW ws = true := allW_good (fun k hk => by omega)
    rw [Bool.eq_iff_iff]; simp [okR, okK, zrB, inB, fitB, rnB, hW, hl]; omega
  · rw [Bool.eq_iff_iff]; simp [okR, okK, zrB, hl]
theorem okI_3 (pl nn wa : Int) (ws : List Int) (l1 l2 : Nat) (h1 : l1 = ws.length) : okR 3 pl nn wa ws l1 l2 = (rnB pl nn 125 && (decide (wa = 0) && (decide (l1 = 0) && (decide (l2 = 0))))) := by
  by_cases hl : l1 = 0
  · have hW : allW ws = true := allW_good (fun k hk => by omega)
    rw [Bool.eq_iff_iff]; simp [okR, okK, zrB, inB, fitB, rnB, hW, hl]; omega
  · rw [Bool.eq_iff_iff]; simp [okR, okK, zrB, hl]
theorem okI_4 (pl nn wa : Int) (ws : List Int) (l1 l2 : Nat) (h1 : l1 = ws.length) : okR 4 pl nn wa ws l1 l2 = (rnB pl nn 125 && (decide (wa = 0) && (decide (l1 = 0) && (decide (l2 = 0))))) := by
  by_cases hl : l1 = 0
  · have hW : allW ws = true := allW_good (fun k hk => by omega)
    rw [Bool.eq_iff_iff]; simp [okR, okK, zrB, inB, fitB, rnB, hW, hl]; omega
  · rw [Bool.eq_iff_iff]; simp [okR, okK, zrB, hl]
theorem okI_5 (pl nn wa : Int) (ws : List Int) (l1 l2 : Nat) (h1 : l1 = ws.length) : okR 5 pl nn wa ws l1 l2 = (decide (l2 = 1) && (inB pl 0 65535 && (decide (nn = 0) && (decide (wa = 0) && (decide (l1 = 0)))))) := by
  by_cases hl : l1 = 0
  · have hW : allW ws = true := allW_good (fun k hk => by omega)
    rw [Bool.eq_iff_iff]; simp [okR, okK, zrB, inB, fitB, rnB, hW, hl]; omega
  · rw [Bool.eq_iff_iff]; simp [okR, okK, zrB, hl]
theorem okI_6 (pl nn wa : Int) (ws : List Int) (l1 l2 : Nat) (h1 : l1 = ws.length) : okR 6 pl nn wa ws l1 l2 = (decide (l1 = 1) && (inB pl 0 65535 && (inB (ws.getD 0 0) 0 65535 && (decide (nn = 0) && (decide (wa = 0) && (decide (l2 = 0))))))) := by
  by_cases hl : l1 = 1
  · rw [Bool.eq_iff_iff, okR, allW_one (by omega)]; simp [okR, okK, zrB, inB, fitB, rnB, hl]; omega
  · rw [Bool.eq_iff_iff]; simp [okR, okK, zrB, hl]
theorem okI_15 (pl nn wa : Int) (ws : List Int) (l1 l2 : Nat) (h1 : l1 = ws.length) : okR 15 pl nn wa ws l1 l2 = (rnB pl (l2 : Int) 1968 && (decide (nn = 0) && (decide (wa = 0) && (decide (l1 = 0))))) := by
  by_cases hl : l1 = 0
  · have hW : allW ws = true := allW_good (fun k hk => by omega)
    rw [Bool.eq_iff_iff]; simp [okR, okK, zrB, inB, fitB, rnB, hW, hl]; omega
  · rw [Bool.eq_iff_iff]; simp [okR, okK, zrB, hl]
theorem okI_16 (pl nn wa : Int) (ws : List Int) (l1 l2 : Nat) (h1 : l1 = ws.length) : okR 16 pl nn wa ws l1 l2 = (rnB pl (l1 : Int) 123 && (allW ws && (decide (nn = 0) && (decide (wa = 0) && (decide (l2 = 0)))))) := by
  cases hW : allW ws
  · simp [okR, hW]
  · rw [Bool.eq_iff_iff]; simp [okR, okK, zrB, inB, fitB, rnB, hW]; omega
theorem okI_22 (pl nn wa : Int) (ws : List Int) (l1 l2 : Nat) (h1 : l1 = ws.length) : okR 22 pl nn wa ws l1 l2 = (decide (l1 = 2) && (inB pl 0 65535 && (inB (ws.getD 0 0) 0 65535 && (inB (ws.getD 1 0) 0 65535 && (decide (nn = 0) && (decide (wa = 0) && (decide (l2 = 0)))))))) := by
  by_cases hl : l1 = 2
  · rw [Bool.eq_iff_iff, okR, allW_two (by omega)]; simp [okR, okK, zrB, inB, fitB, rnB, hl]; omega
  · rw [Bool.eq_iff_iff]; simp [okR, okK, zrB, hl]
theorem okI_23 (pl nn wa : Int) (ws : List Int) (l1 l2 : Nat) (h1 : l1 = ws.length) : okR 23 pl nn wa ws l1 l2 = (rnB pl nn 125 && (rnB wa (l1 : Int) 121 && (allW ws && (decide (l2 = 0))))) := by
  cases hW : allW ws
  · simp [okR, hW]
  · rw [Bool.eq_iff_iff]; simp [okR, okK, zrB, inB, fitB, rnB, hW]; omega
set_option maxRecDepth 20000 in
set_option maxHeartbeats 8000000 in
theorem rq_false (kd pl nn wa : Int) (a1 a2 : Option Addr) (l1 l2 c1 c2 : Nat) (w : World) (q : Value)
    (hq : ∀ u, Below w.heap.size w u → Calls Try.prog 91 #[rq kd pl nn wa a1 a2 l1 l2 c1 c2] u fun e u' => e = .returned q ∧ Below u.heap.size u u')
    (hi : ∀ u, Below w.heap.size w u → Calls Try.prog 92 #[q] u fun e u' => e = .returned (.bool false) ∧ Below u.heap.size u u')
    : Calls Try.prog 74 #[rq kd pl nn wa a1 a2 l1 l2 c1 c2] w fun e w' => e = .returned .nilIface ∧ Below w.heap.size w w' := by
  have B0 := bel_alloc w (.cells #[.int .i64 kd, .int .i64 pl, .int .i64 nn, .slice a1 l1 c1, .slice a2 l2 c2, .int .i64 wa] 57)
  have X0 := Blk.new w #[.int .i64 kd, .int .i64 pl, .int .i64 nn, .slice a1 l1 c1, .slice a2 l2 c2, .int .i64 wa] 57
  obtain ⟨x0, x1, x2, x3, x4, x5⟩ := X0.six
  go_enter Try.func74, Try.ntmps74
  go_wp2_with fail
  refine (hq _ B0).mono ?_
  rintro e w1 ⟨rfl, b'⟩
  have B1 := bel_next B0 b'
  have Y := X0.below b'
  clear X0 x0 x1 x2 x3 x4 x5 hq
  go_upto_region 2 with fail
  refine wp_region_any (by kernel_rfl) ?_
  (try (change wpAny _ _ _ _ _ _ _ (World.drew _)))
  refine wpAny_ready (rs := [0]) (by kernel_rfl) (by simp) ?_
  refine AllReady.cons rfl (fun K hK => ?_) AllReady.nil
  go_simp
  refine hK _ _ ?_
  clear hK K
  refine wpAny_ready (rs := [1]) (by kernel_rfl) (by simp) ?_
  refine AllReady.cons rfl (fun K hK => ?_) AllReady.nil
  go_simp
  go_wp2_with (go_at_call 92; refine (hi _ (by first | exact B1 | exact B1.drew)).mono ?_; rintro e w2 ⟨rfl, b2'⟩; have B2 := bel_next (by first | exact B1 | exact B1.drew) b2'; have Y2 := (Y.below (Below.refl _ _).drew).below b2'; clear b2' Y hi)
  try (refine hK _ _ ?_; clear hK K)
  obtain ⟨y0, y1, y2, y3, y4, y5⟩ := Y2.six
  refine wpAny_ready (rs := [2]) (by kernel_rfl) (by simp) ?_
  refine AllReady.cons rfl (fun K hK => ?_) AllReady.nil
  go_simp
  refine hK _ _ ?_
  clear hK K
  refine wpAny_ready (rs := [3, 5]) (by kernel_rfl) (by simp) ?_
  refine AllReady.cons rfl (fun K hK => ?_) ?_
  · skip
    go_simp
    refine hK _ _ ?_
    clear hK K
    refine wpAny_ready (rs := [4, 5]) (by kernel_rfl) (by simp) ?_
    refine AllReady.cons rfl (fun K hK => ?_) ?_
    · skip
      go_simp
      refine hK _ _ ?_
      clear hK K
      refine wpAny_ready (rs := [5]) (by kernel_rfl) (by simp) ?_
      refine AllReady.cons rfl (fun K hK => ?_) AllReady.nil
      go_simp
      refine hK _ _ ?_
      clear hK K
      refine wpAny_ready (rs := [6]) (by kernel_rfl) (by simp) ?_
      refine AllReady.cons rfl (fun K hK => ?_) AllReady.nil
      go_simp
      refine hK _ _ ?_
      clear hK K
      refine wpAny_ready (rs := [7]) (by kernel_rfl) (by simp) ?_
      refine AllReady.cons rfl (fun K hK => ?_) AllReady.nil
      go_simp
      refine hK _ _ ?_
      clear hK K
      refine wpAny_done (by kernel_rfl) ?_ _
      go_wp2
      go_ret
      exact ⟨rfl, B2⟩
    · refine AllReady.cons rfl (fun K hK => ?_) AllReady.nil
      go_simp
      refine hK _ _ ?_
      clear hK K
      refine wpAny_ready (rs := [4]) (by kernel_rfl) (by simp) ?_
      refine AllReady.cons rfl (fun K hK => ?_) AllReady.nil
      go_simp
      refine hK _ _ ?_
      clear hK K
      refine wpAny_ready (rs := [6]) (by kernel_rfl) (by simp) ?_
      refine AllReady.cons rfl (fun K hK => ?_) AllReady.nil
      go_simp
      refine hK _ _ ?_
      clear hK K
      refine wpAny_ready (rs := [7]) (by kernel_rfl) (by simp) ?_
      refine AllReady.cons rfl (fun K hK => ?_) AllReady.nil
      go_simp
      refine hK _ _ ?_
      clear hK K
      refine wpAny_done (by kernel_rfl) ?_ _
      go_wp2
      go_ret
      exact ⟨rfl, B2⟩
  · refine AllReady.cons rfl (fun K hK => ?_) AllReady.nil
    go_simp
    refine hK _ _ ?_
    clear hK K
    refine wpAny_ready (rs := [3]) (by kernel_rfl) (by simp) ?_
    refine AllReady.cons rfl (fun K hK => ?_) AllReady.nil
    go_simp
    refine hK _ _ ?_
    clear hK K
    refine wpAny_ready (rs := [4]) (by kernel_rfl) (by simp) ?_
    refine AllReady.cons rfl (fun K hK => ?_) AllReady.nil
    go_simp
    refine hK _ _ ?_
    clear hK K
    refine wpAny_ready (rs := [6]) (by kernel_rfl) (by simp) ?_
    refine AllReady.cons rfl (fun K hK => ?_) AllReady.nil
    go_simp
    refine hK _ _ ?_
    clear hK K
    refine wpAny_ready (rs := [7]) (by kernel_rfl) (by simp) ?_
    refine AllReady.cons rfl (fun K hK => ?_) AllReady.nil
    go_simp
    refine hK _ _ ?_
    clear hK K
    refine wpAny_done (by kernel_rfl) ?_ _
    go_wp2
    go_ret
    exact ⟨rfl, B2⟩
set_option maxRecDepth 20000 in
set_option maxHeartbeats 8000000 in
theorem rq_true (kd pl nn wa : Int) (a1 a2 : Option Addr) (l1 l2 c1 c2 : Nat) (w : World) (T : TypeId) (v : Value) (F : Nat) (bsm : Bool)
    (hq : ∀ u, Below w.heap.size w u → Calls Try.prog 91 #[rq kd pl nn wa a1 a2 l1 l2 c1 c2] u fun e u' => e = .returned (.iface T v) ∧ Below u.heap.size u u')
    (hi : ∀ u, Below w.heap.size w u → Calls Try.prog 92 #[(.iface T v)] u fun e u' => e = .returned (.bool true) ∧ Below u.heap.size u u')
    (hc : ∀ u, (callFunc F #[v]).run Try.prog u = .ok (.enter F #[v]) u)
    (hm : ∀ u, (method 242 T v "loop.example/g00129/impl.req").run Try.prog u = .ok (F, v) u)
    (hr : ∀ u, Below w.heap.size w u → Calls Try.prog F #[v] u fun e u' => ∃ x, e = .returned x ∧ Below u.heap.size u u' ∧ Calls Try.prog 93 #[x, rq kd pl nn wa a1 a2 l1 l2 c1 c2] u' fun e u3 => e = .returned (.bool bsm) ∧ Below u'.heap.size u' u3) :
    Calls Try.prog 74 #[rq kd pl nn wa a1 a2 l1 l2 c1 c2] w fun e w' => e = .returned (bif bsm then .iface T v else .nilIface) ∧ Below w.heap.size w w' := by
  have B0 := bel_alloc w (.cells #[.int .i64 kd, .int .i64 pl, .int .i64 nn, .slice a1 l1 c1, .slice a2 l2 c2, .int .i64 wa] 57)
  have X0 := Blk.new w #[.int .i64 kd, .int .i64 pl, .int .i64 nn, .slice a1 l1 c1, .slice a2 l2 c2, .int .i64 wa] 57
  obtain ⟨x0, x1, x2, x3, x4, x5⟩ := X0.six
  go_enter Try.func74, Try.ntmps74
  go_wp2_with fail
  refine (hq _ B0).mono ?_
  rintro e w1 ⟨rfl, b'⟩
  have B1 := bel_next B0 b'
  have Y := X0.below b'
  clear X0 x0 x1 x2 x3 x4 x5 hq
  go_upto_region 2 with fail
  refine wp_region_any (by kernel_rfl) ?_
  (try (change wpAny _ _ _ _ _ _ _ (World.drew _)))
  refine wpAny_ready (rs := [0]) (by kernel_rfl) (by simp) ?_
  refine AllReady.cons rfl (fun K hK => ?_) AllReady.nil
  go_simp
  refine hK _ _ ?_
  clear hK K
  refine wpAny_ready (rs := [1]) (by kernel_rfl) (by simp) ?_
  refine AllReady.cons rfl (fun K hK => ?_) AllReady.nil
  go_simp
  go_wp2_with (go_at_call 92; refine (hi _ (by first | exact B1 | exact B1.drew)).mono ?_; rintro e w2 ⟨rfl, b2'⟩; have B2 := bel_next (by first | exact B1 | exact B1.drew) b2'; have Y2 := (Y.below (Below.refl _ _).drew).below b2'; clear b2' Y hi)
  try (refine hK _ _ ?_; clear hK K)
  obtain ⟨y0, y1, y2, y3, y4, y5⟩ := Y2.six
  refine wpAny_ready (rs := [2]) (by kernel_rfl) (by simp) ?_
  refine AllReady.cons rfl (fun K hK => ?_) AllReady.nil
  go_simp
  refine hK _ _ ?_
  clear hK K
  refine wpAny_ready (rs := [3, 5]) (by kernel_rfl) (by simp) ?_
  refine AllReady.cons rfl (fun K hK => ?_) ?_
  · skip
    go_simp
    refine hK _ _ ?_
    clear hK K
    refine wpAny_ready (rs := [4, 5]) (by kernel_rfl) (by simp) ?_
    refine AllReady.cons rfl (fun K hK => ?_) ?_
    · skip
      go_simp
      go_wp2_with (refine (hr _ B2).mono ?_; rintro e w3 ⟨x, rfl, b3', hs⟩; have B3 := bel_next B2 b3'; have Y3 := Y2.below b3'; clear b3' Y2 y0 y1 y2 y3 y4 y5)
      try (refine hK _ _ ?_; clear hK K)
      obtain ⟨y0, y1, y2, y3, y4, y5⟩ := Y3.six
      refine wpAny_ready (rs := [5]) (by kernel_rfl) (by simp) ?_
      refine AllReady.cons rfl (fun K hK => ?_) AllReady.nil
      go_simp
      refine hK _ _ ?_
      clear hK K
      refine wpAny_ready (rs := [6]) (by kernel_rfl) (by simp) ?_
      refine AllReady.cons rfl (fun K hK => ?_) AllReady.nil
      go_simp
      go_wp2_with (go_at_call 93; refine hs.mono ?_; rintro e w4 ⟨rfl, b4'⟩; have B4 := bel_next B3 b4'; clear b4' hs)
      try (refine hK _ _ ?_; clear hK K)
      refine wpAny_ready (rs := [7]) (by kernel_rfl) (by simp) ?_
      refine AllReady.cons rfl (fun K hK => ?_) AllReady.nil
      go_simp
      refine hK _ _ ?_
      clear hK K
      refine wpAny_done (by kernel_rfl) ?_ _
      cases bsm
      · go_wp2
        go_ret
        exact ⟨rfl, B4⟩
      · go_wp2
        go_ret
        exact ⟨rfl, B4⟩
    · refine AllReady.cons rfl (fun K hK => ?_) AllReady.nil
      go_simp
      refine hK _ _ ?_
      clear hK K
      refine wpAny_ready (rs := [4]) (by kernel_rfl) (by simp) ?_
      refine AllReady.cons rfl (fun K hK => ?_) AllReady.nil
      go_simp
      go_wp2_with (refine (hr _ B2).mono ?_; rintro e w3 ⟨x, rfl, b3', hs⟩; have B3 := bel_next B2 b3'; have Y3 := Y2.below b3'; clear b3' Y2 y0 y1 y2 y3 y4 y5)
      try (refine hK _ _ ?_; clear hK K)
      obtain ⟨y0, y1, y2, y3, y4, y5⟩ := Y3.six
      refine wpAny_ready (rs := [6]) (by kernel_rfl) (by simp) ?_
      refine AllReady.cons rfl (fun K hK => ?_) AllReady.nil
      go_simp
      go_wp2_with (go_at_call 93; refine hs.mono ?_; rintro e w4 ⟨rfl, b4'⟩; have B4 := bel_next B3 b4'; clear b4' hs)
      try (refine hK _ _ ?_; clear hK K)
      refine wpAny_ready (rs := [7]) (by kernel_rfl) (by simp) ?_
      refine AllReady.cons rfl (fun K hK => ?_) AllReady.nil
      go_simp
      refine hK _ _ ?_
      clear hK K
      refine wpAny_done (by kernel_rfl) ?_ _
      cases bsm
      · go_wp2
        go_ret
        exact ⟨rfl, B4⟩
      · go_wp2
        go_ret
        exact ⟨rfl, B4⟩
  · refine AllReady.cons rfl (fun K hK => ?_) AllReady.nil
    go_simp
    refine hK _ _ ?_
    clear hK K
    refine wpAny_ready (rs := [3]) (by kernel_rfl) (by simp) ?_
    refine AllReady.cons rfl (fun K hK => ?_) AllReady.nil
    go_simp
    refine hK _ _ ?_
    clear hK K
    refine wpAny_ready (rs := [4]) (by kernel_rfl) (by simp) ?_
    refine AllReady.cons rfl (fun K hK => ?_) AllReady.nil
    go_simp
    go_wp2_with (refine (hr _ B2).mono ?_; rintro e w3 ⟨x, rfl, b3', hs⟩; have B3 := bel_next B2 b3'; have Y3 := Y2.below b3'; clear b3' Y2 y0 y1 y2 y3 y4 y5)
    try (refine hK _ _ ?_; clear hK K)
    obtain ⟨y0, y1, y2, y3, y4, y5⟩ := Y3.six
    refine wpAny_ready (rs := [6]) (by kernel_rfl) (by simp) ?_
    refine AllReady.cons rfl (fun K hK => ?_) AllReady.nil
    go_simp
    go_wp2_with (go_at_call 93; refine hs.mono ?_; rintro e w4 ⟨rfl, b4'⟩; have B4 := bel_next B3 b4'; clear b4' hs)
    try (refine hK _ _ ?_; clear hK K)
    refine wpAny_ready (rs := [7]) (by kernel_rfl) (by simp) ?_
    refine AllReady.cons rfl (fun K hK => ?_) AllReady.nil
    go_simp
    refine hK _ _ ?_
    clear hK K
    refine wpAny_done (by kernel_rfl) ?_ _
    cases bsm
    · go_wp2
      go_ret
      exact ⟨rfl, B4⟩
    · go_wp2
      go_ret
      exact ⟨rfl, B4⟩
set_option maxRecDepth 20000 in
set_option maxHeartbeats 2000000 in
theorem rightQuestion_1 (pl nn wa : Int) (a1 a2 : Option Addr) (l1 l2 c1 c2 : Nat) (ws : List Int) (bs : List Bool) (w : World) (h1 : l1 = ws.length) (h2 : l2 = bs.length) (s1 : SlI w a1 ws) (s2 : SlB w a2 bs) (hl1 : ws.length ≤ 2000000) (hl2 : bs.length ≤ 2000000) (b : Bool) (hb : okR 1 pl nn wa ws l1 l2 = b) :
    Calls Try.prog 74 #[rq 1 pl nn wa a1 a2 l1 l2 c1 c2] w fun e w' => e = .returned (bif b then .iface 108 (.agg #[.int .i64 pl, .int .i64 nn]) else .nilIface) ∧ Below w.heap.size w w' := by
  subst hb
  rw [okI_1 _ _ _ _ _ _ h1]
  rw [show (rnB pl nn 2000 && (decide (wa = 0) && (decide (l1 = 0) && (decide (l2 = 0))))) = ((rnB pl nn 2000) && (decide (wa = 0) && (decide (l1 = 0) && (decide (l2 = 0))))) from by simp only [Bool.and_assoc]]
  cases hI : (rnB pl nn 2000)
  · rw [Bool.false_and]
    exact rq_false 1 pl nn wa a1 a2 l1 l2 c1 c2 w _ (fun u hu => questionOf_1 pl nn wa a1 a2 l1 l2 c1 c2 u) (fun u hu => isRight_1 _ _ u _ hI)
  · rw [Bool.true_and]
    refine rq_true 1 pl nn wa a1 a2 l1 l2 c1 c2 w _ _ 115 _ (fun u hu => questionOf_1 pl nn wa a1 a2 l1 l2 c1 c2 u) (fun u hu => isRight_1 _ _ u _ hI) (callf_1 _) (meth_1 _) (fun u hu => (req_1 _ _ u).mono ?_)
    rintro e u' ⟨rfl, bu⟩
    refine ⟨_, rfl, bu, ?_⟩
    have hu2 := bel_next hu bu
    by_cases hww : wa = 0
    rotate_left
    · rw [decide_eq_false hww]
      exact sameReq_w _ _ _ _ _ _ _ _ _ _ _ _ _ _ _ _ _ _ _ rfl (fun h => hww h.symm)
    rw [decide_eq_true hww, Bool.true_and]
    by_cases hll1 : l1 = 0
    rotate_left
    · rw [decide_eq_false hll1]
      exact sameReq_1 _ _ _ _ _ _ _ _ _ _ _ _ _ _ _ _ _ _ _ rfl hww (by omega) (by omega) (by omega)
    rw [decide_eq_true hll1, Bool.true_and]
    by_cases hll2 : l2 = 0
    rotate_left
    · rw [decide_eq_false hll2]
      exact sameReq_2 _ _ _ _ _ _ _ _ _ _ _ _ _ _ _ _ _ _ _ rfl hww [] rfl hll1 (.inl rfl) (.inl rfl) (by simp) (by omega) (by omega) (by omega)
    rw [decide_eq_true hll2]
    exact sameReq_t _ _ _ _ _ _ _ _ _ _ _ _ _ _ _ _ _ _ _ rfl hww [] rfl hll1 (.inl rfl) (.inl rfl) (by simp) [] rfl hll2 (.inl rfl) (.inl rfl) (by simp)
set_option maxRecDepth 20000 in
set_option maxHeartbeats 2000000 in
theorem rightQuestion_2 (pl nn wa : Int) (a1 a2 : Option Addr) (l1 l2 c1 c2 : Nat) (ws : List Int) (bs : List Bool) (w : World) (h1 : l1 = ws.length) (h2 : l2 = bs.length) (s1 : SlI w a1 ws) (s2 : SlB w a2 bs) (hl1 : ws.length ≤ 2000000) (hl2 : bs.length ≤ 2000000) (b : Bool) (hb : okR 2 pl nn wa ws l1 l2 = b) :
    Calls Try.prog 74 #[rq 2 pl nn wa a1 a2 l1 l2 c1 c2] w fun e w' => e = .returned (bif b then .iface 109 (.agg #[.int .i64 pl, .int .i64 nn]) else .nilIface) ∧ Below w.heap.size w w' := by
  subst hb
  rw [okI_2 _ _ _ _ _ _ h1]
  rw [show (rnB pl nn 2000 && (decide (wa = 0) && (decide (l1 = 0) && (decide (l2 = 0))))) = ((rnB pl nn 2000) && (decide (wa = 0) && (decide (l1 = 0) && (decide (l2 = 0))))) from by simp only [Bool.and_assoc]]
  cases hI : (rnB pl nn 2000)
  · rw [Bool.false_and]
    exact rq_false 2 pl nn wa a1 a2 l1 l2 c1 c2 w _ (fun u hu => questionOf_2 pl nn wa a1 a2 l1 l2 c1 c2 u) (fun u hu => isRight_2 _ _ u _ hI)
  · rw [Bool.true_and]
    refine rq_true 2 pl nn wa a1 a2 l1 l2 c1 c2 w _ _ 116 _ (fun u hu => questionOf_2 pl nn wa a1 a2 l1 l2 c1 c2 u) (fun u hu => isRight_2 _ _ u _ hI) (callf_2 _) (meth_2 _) (fun u hu => (req_2 _ _ u).mono ?_)
    rintro e u' ⟨rfl, bu⟩
    refine ⟨_, rfl, bu, ?_⟩
    have hu2 := bel_next hu bu
    by_cases hww : wa = 0
    rotate_left
    · rw [decide_eq_false hww]
      exact sameReq_w _ _ _ _ _ _ _ _ _ _ _ _ _ _ _ _ _ _ _ rfl (fun h => hww h.symm)
    rw [decide_eq_true hww, Bool.true_and]
    by_cases hll1 : l1 = 0
    rotate_left
    · rw [decide_eq_false hll1]
      exact sameReq_1 _ _ _ _ _ _ _ _ _ _ _ _ _ _ _ _ _ _ _ rfl hww (by omega) (by omega) (by omega)
    rw [decide_eq_true hll1, Bool.true_and]
    by_cases hll2 : l2 = 0
    rotate_left
    · rw [decide_eq_false hll2]
      exact sameReq_2 _ _ _ _ _ _ _ _ _ _ _ _ _ _ _ _ _ _ _ rfl hww [] rfl hll1 (.inl rfl) (.inl rfl) (by simp) (by omega) (by omega) (by omega)
    rw [decide_eq_true hll2]
    exact sameReq_t _ _ _ _ _ _ _ _ _ _ _ _ _ _ _ _ _ _ _ rfl hww [] rfl hll1 (.inl rfl) (.inl rfl) (by simp) [] rfl hll2 (.inl rfl) (.inl rfl) (by simp)
set_option maxRecDepth 20000 in
set_option maxHeartbeats 2000000 in
theorem rightQuestion_3 (pl nn wa : Int) (a1 a2 : Option Addr) (l1 l2 c1 c2 : Nat) (ws : List Int) (bs : List Bool) (w : World) (h1 : l1 = ws.length) (h2 : l2 = bs.length) (s1 : SlI w a1 ws) (s2 : SlB w a2 bs) (hl1 : ws.length ≤ 2000000) (hl2 : bs.length ≤ 2000000) (b : Bool) (hb : okR 3 pl nn wa ws l1 l2 = b) :
    Calls Try.prog 74 #[rq 3 pl nn wa a1 a2 l1 l2 c1 c2] w fun e w' => e = .returned (bif b then .iface 110 (.agg #[.int .i64 pl, .int .i64 nn]) else .nilIface) ∧ Below w.heap.size w w' := by
  subst hb
  rw [okI_3 _ _ _ _ _ _ h1]
  rw [show (rnB pl nn 125 && (decide (wa = 0) && (decide (l1 = 0) && (decide (l2 = 0))))) = ((rnB pl nn 125) && (decide (wa = 0) && (decide (l1 = 0) && (decide (l2 = 0))))) from by simp only [Bool.and_assoc]]
  cases hI : (rnB pl nn 125)
  · rw [Bool.false_and]
    exact rq_false 3 pl nn wa a1 a2 l1 l2 c1 c2 w _ (fun u hu => questionOf_3 pl nn wa a1 a2 l1 l2 c1 c2 u) (fun u hu => isRight_3 _ _ u _ hI)
  · rw [Bool.true_and]
    refine rq_true 3 pl nn wa a1 a2 l1 l2 c1 c2 w _ _ 117 _ (fun u hu => questionOf_3 pl nn wa a1 a2 l1 l2 c1 c2 u) (fun u hu => isRight_3 _ _ u _ hI) (callf_3 _) (meth_3 _) (fun u hu => (req_3 _ _ u).mono ?_)
    rintro e u' ⟨rfl, bu⟩
    refine ⟨_, rfl, bu, ?_⟩
    have hu2 := bel_next hu bu
    by_cases hww : wa = 0
    rotate_left
    · rw [decide_eq_false hww]
      exact sameReq_w _ _ _ _ _ _ _ _ _ _ _ _ _ _ _ _ _ _ _ rfl (fun h => hww h.symm)
    rw [decide_eq_true hww, Bool.true_and]
    by_cases hll1 : l1 = 0
    rotate_left
    · rw [decide_eq_false hll1]
      exact sameReq_1 _ _ _ _ _ _ _ _ _ _ _ _ _ _ _ _ _ _ _ rfl hww (by omega) (by omega) (by omega)
    rw [decide_eq_true hll1, Bool.true_and]
    by_cases hll2 : l2 = 0
    rotate_left
    · rw [decide_eq_false hll2]
      exact sameReq_2 _ _ _ _ _ _ _ _ _ _ _ _ _ _ _ _ _ _ _ rfl hww [] rfl hll1 (.inl rfl) (.inl rfl) (by simp) (by omega) (by omega) (by omega)
    rw [decide_eq_true hll2]
    exact sameReq_t _ _ _ _ _ _ _ _ _ _ _ _ _ _ _ _ _ _ _ rfl hww [] rfl hll1 (.inl rfl) (.inl rfl) (by simp) [] rfl hll2 (.inl rfl) (.inl rfl) (by simp)
set_option maxRecDepth 20000 in
set_option maxHeartbeats 2000000 in
theorem rightQuestion_4 (pl nn wa : Int) (a1 a2 : Option Addr) (l1 l2 c1 c2 : Nat) (ws : List Int) (bs : List Bool) (w : World) (h1 : l1 = ws.length) (h2 : l2 = bs.length) (s1 : SlI w a1 ws) (s2 : SlB w a2 bs) (hl1 : ws.length ≤ 2000000) (hl2 : bs.length ≤ 2000000) (b : Bool) (hb : okR 4 pl nn wa ws l1 l2 = b) :
    Calls Try.prog 74 #[rq 4 pl nn wa a1 a2 l1 l2 c1 c2] w fun e w' => e = .returned (bif b then .iface 111 (.agg #[.int .i64 pl, .int .i64 nn]) else .nilIface) ∧ Below w.heap.size w w' := by
  subst hb
  rw [okI_4 _ _ _ _ _ _ h1]
  rw [show (rnB pl nn 125 && (decide (wa = 0) && (decide (l1 = 0) && (decide (l2 = 0))))) = ((rnB pl nn 125) && (decide (wa = 0) && (decide (l1 = 0) && (decide (l2 = 0))))) from by simp only [Bool.and_assoc]]
  cases hI : (rnB pl nn 125)
  · rw [Bool.false_and]
    exact rq_false 4 pl nn wa a1 a2 l1 l2 c1 c2 w _ (fun u hu => questionOf_4 pl nn wa a1 a2 l1 l2 c1 c2 u) (fun u hu => isRight_4 _ _ u _ hI)
  · rw [Bool.true_and]
    refine rq_true 4 pl nn wa a1 a2 l1 l2 c1 c2 w _ _ 118 _ (fun u hu => questionOf_4 pl nn wa a1 a2 l1 l2 c1 c2 u) (fun u hu => isRight_4 _ _ u _ hI) (callf_4 _) (meth_4 _) (fun u hu => (req_4 _ _ u).mono ?_)
    rintro e u' ⟨rfl, bu⟩
    refine ⟨_, rfl, bu, ?_⟩
    have hu2 := bel_next hu bu
    by_cases hww : wa = 0
    rotate_left
    · rw [decide_eq_false hww]
      exact sameReq_w _ _ _ _ _ _ _ _ _ _ _ _ _ _ _ _ _ _ _ rfl (fun h => hww h.symm)
    rw [decide_eq_true hww, Bool.true_and]
    by_cases hll1 : l1 = 0
    rotate_left
    · rw [decide_eq_false hll1]
      exact sameReq_1 _ _ _ _ _ _ _ _ _ _ _ _ _ _ _ _ _ _ _ rfl hww (by omega) (by omega) (by omega)
    rw [decide_eq_true hll1, Bool.true_and]
    by_cases hll2 : l2 = 0
    rotate_left
    · rw [decide_eq_false hll2]
      exact sameReq_2 _ _ _ _ _ _ _ _ _ _ _ _ _ _ _ _ _ _ _ rfl hww [] rfl hll1 (.inl rfl) (.inl rfl) (by simp) (by omega) (by omega) (by omega)
    rw [decide_eq_true hll2]
    exact sameReq_t _ _ _ _ _ _ _ _ _ _ _ _ _ _ _ _ _ _ _ rfl hww [] rfl hll1 (.inl rfl) (.inl rfl) (by simp) [] rfl hll2 (.inl rfl) (.inl rfl) (by simp)
set_option maxRecDepth 20000 in
set_option maxHeartbeats 2000000 in
theorem rightQuestion_5 (pl nn wa : Int) (a1 a2 : Option Addr) (l1 l2 c1 c2 : Nat) (ws : List Int) (bs : List Bool) (w : World) (h1 : l1 = ws.length) (h2 : l2 = bs.length) (s1 : SlI w a1 ws) (s2 : SlB w a2 bs) (hl1 : ws.length ≤ 2000000) (hl2 : bs.length ≤ 2000000) (b : Bool) (hb : okR 5 pl nn wa ws l1 l2 = b) :
    Calls Try.prog 74 #[rq 5 pl nn wa a1 a2 l1 l2 c1 c2] w fun e w' => e = .returned (bif b then .iface 113 (.agg #[.int .i64 pl, .bool (bs.getD 0 false)]) else .nilIface) ∧ Below w.heap.size w w' := by
  subst hb
  rw [okI_5 _ _ _ _ _ _ h1]
  by_cases hL : l2 = 1
  rotate_left
  · rw [decide_eq_false hL]
    exact rq_false 5 pl nn wa a1 a2 l1 l2 c1 c2 w .nilIface (fun u hu => questionOf_5n pl nn wa a1 a2 l1 l2 c1 c2 u (by simp; omega)) (fun u hu => isRight_n u)
  rw [decide_eq_true hL, Bool.true_and]
  rw [show (inB pl 0 65535 && (decide (nn = 0) && (decide (wa = 0) && (decide (l1 = 0))))) = ((inB pl 0 65535) && (decide (nn = 0) && (decide (wa = 0) && (decide (l1 = 0))))) from by simp only [Bool.and_assoc]]
  cases hI : (inB pl 0 65535)
  · rw [Bool.false_and]
    exact rq_false 5 pl nn wa a1 a2 l1 l2 c1 c2 w _ (fun u hu => questionOf_5 pl nn wa a1 a2 l1 l2 c1 c2 u bs h2 (by omega) (s2.below hu)) (fun u hu => isRight_5 _ _ u _ hI)
  · rw [Bool.true_and]
    refine rq_true 5 pl nn wa a1 a2 l1 l2 c1 c2 w _ _ 119 _ (fun u hu => questionOf_5 pl nn wa a1 a2 l1 l2 c1 c2 u bs h2 (by omega) (s2.below hu)) (fun u hu => isRight_5 _ _ u _ hI) (callf_5 _) (meth_5 _) (fun u hu => (req_5 _ _ u).mono ?_)
    rintro e u' ⟨rfl, n3, bu⟩
    refine ⟨_, rfl, bu, ?_⟩
    have hu2 := bel_next hu bu
    by_cases hnn : nn = 0
    rotate_left
    · rw [decide_eq_false hnn]
      exact sameReq_n _ _ _ _ _ _ _ _ _ _ _ _ _ _ _ _ _ _ _ (fun h => hnn h.symm)
    rw [decide_eq_true hnn, Bool.true_and]
    by_cases hww : wa = 0
    rotate_left
    · rw [decide_eq_false hww]
      exact sameReq_w _ _ _ _ _ _ _ _ _ _ _ _ _ _ _ _ _ _ _ hnn (fun h => hww h.symm)
    rw [decide_eq_true hww, Bool.true_and]
    by_cases hll1 : l1 = 0
    rotate_left
    · rw [decide_eq_false hll1]
      exact sameReq_1 _ _ _ _ _ _ _ _ _ _ _ _ _ _ _ _ _ _ _ hnn hww (by omega) (by omega) (by omega)
    rw [decide_eq_true hll1]
    exact sameReq_t _ _ _ _ _ _ _ _ _ _ _ _ _ _ _ _ _ _ _ hnn hww [] rfl hll1 (.inl rfl) (.inl rfl) (by simp) [bs.getD 0 false] rfl hL n3 (by have := s2.below hu2; rw [list_one (bs := bs) (by omega)] at this; exact this) (by simp)
set_option maxRecDepth 20000 in
set_option maxHeartbeats 2000000 in
theorem rightQuestion_6 (pl nn wa : Int) (a1 a2 : Option Addr) (l1 l2 c1 c2 : Nat) (ws : List Int) (bs : List Bool) (w : World) (h1 : l1 = ws.length) (h2 : l2 = bs.length) (s1 : SlI w a1 ws) (s2 : SlB w a2 bs) (hl1 : ws.length ≤ 2000000) (hl2 : bs.length ≤ 2000000) (b : Bool) (hb : okR 6 pl nn wa ws l1 l2 = b) :
    Calls Try.prog 74 #[rq 6 pl nn wa a1 a2 l1 l2 c1 c2] w fun e w' => e = .returned (bif b then .iface 115 (.agg #[.int .i64 pl, .int .i64 (ws.getD 0 0)]) else .nilIface) ∧ Below w.heap.size w w' := by
  subst hb
  rw [okI_6 _ _ _ _ _ _ h1]
  by_cases hL : l1 = 1
  rotate_left
  · rw [decide_eq_false hL]
    exact rq_false 6 pl nn wa a1 a2 l1 l2 c1 c2 w .nilIface (fun u hu => questionOf_6n pl nn wa a1 a2 l1 l2 c1 c2 u (by simp; omega)) (fun u hu => isRight_n u)
  rw [decide_eq_true hL, Bool.true_and]
  rw [show (inB pl 0 65535 && (inB (ws.getD 0 0) 0 65535 && (decide (nn = 0) && (decide (wa = 0) && (decide (l2 = 0)))))) = ((inB pl 0 65535 && inB (ws.getD 0 0) 0 65535) && (decide (nn = 0) && (decide (wa = 0) && (decide (l2 = 0))))) from by simp only [Bool.and_assoc]]
  cases hI : (inB pl 0 65535 && inB (ws.getD 0 0) 0 65535)
  · rw [Bool.false_and]
    exact rq_false 6 pl nn wa a1 a2 l1 l2 c1 c2 w _ (fun u hu => questionOf_6 pl nn wa a1 a2 l1 l2 c1 c2 u ws h1 (by omega) (s1.below hu)) (fun u hu => isRight_6 _ _ u _ hI)
  · rw [Bool.true_and]
    refine rq_true 6 pl nn wa a1 a2 l1 l2 c1 c2 w _ _ 120 _ (fun u hu => questionOf_6 pl nn wa a1 a2 l1 l2 c1 c2 u ws h1 (by omega) (s1.below hu)) (fun u hu => isRight_6 _ _ u _ hI) (callf_6 _) (meth_6 _) (fun u hu => (req_6 _ _ u).mono ?_)
    rintro e u' ⟨rfl, n3, bu⟩
    refine ⟨_, rfl, bu, ?_⟩
    have hu2 := bel_next hu bu
    by_cases hnn : nn = 0
    rotate_left
    · rw [decide_eq_false hnn]
      exact sameReq_n _ _ _ _ _ _ _ _ _ _ _ _ _ _ _ _ _ _ _ (fun h => hnn h.symm)
    rw [decide_eq_true hnn, Bool.true_and]
    by_cases hww : wa = 0
    rotate_left
    · rw [decide_eq_false hww]
      exact sameReq_w _ _ _ _ _ _ _ _ _ _ _ _ _ _ _ _ _ _ _ hnn (fun h => hww h.symm)
    rw [decide_eq_true hww, Bool.true_and]
    by_cases hll2 : l2 = 0
    rotate_left
    · rw [decide_eq_false hll2]
      exact sameReq_2 _ _ _ _ _ _ _ _ _ _ _ _ _ _ _ _ _ _ _ hnn hww [ws.getD 0 0] rfl hL n3 (by have := s1.below hu2; rw [ints_one (ws := ws) (by omega)] at this; exact this) (by simp) (by omega) (by omega) (by omega)
    rw [decide_eq_true hll2]
    exact sameReq_t _ _ _ _ _ _ _ _ _ _ _ _ _ _ _ _ _ _ _ hnn hww [ws.getD 0 0] rfl hL n3 (by have := s1.below hu2; rw [ints_one (ws := ws) (by omega)] at this; exact this) (by simp) [] rfl hll2 (.inl rfl) (.inl rfl) (by simp)
set_option maxRecDepth 20000 in
set_option maxHeartbeats 2000000 in
theorem rightQuestion_15 (pl nn wa : Int) (a1 a2 : Option Addr) (l1 l2 c1 c2 : Nat) (ws : List Int) (bs : List Bool) (w : World) (h1 : l1 = ws.length) (h2 : l2 = bs.length) (s1 : SlI w a1 ws) (s2 : SlB w a2 bs) (hl1 : ws.length ≤ 2000000) (hl2 : bs.length ≤ 2000000) (b : Bool) (hb : okR 15 pl nn wa ws l1 l2 = b) :
    Calls Try.prog 74 #[rq 15 pl nn wa a1 a2 l1 l2 c1 c2] w fun e w' => e = .returned (bif b then .iface 117 (.agg #[.int .i64 pl, .slice a2 l2 c2]) else .nilIface) ∧ Below w.heap.size w w' := by
  subst hb
  rw [okI_15 _ _ _ _ _ _ h1]
  rw [show (rnB pl (l2 : Int) 1968 && (decide (nn = 0) && (decide (wa = 0) && (decide (l1 = 0))))) = ((rnB pl (l2 : Int) 1968) && (decide (nn = 0) && (decide (wa = 0) && (decide (l1 = 0))))) from by simp only [Bool.and_assoc]]
  cases hI : (rnB pl (l2 : Int) 1968)
  · rw [Bool.false_and]
    exact rq_false 15 pl nn wa a1 a2 l1 l2 c1 c2 w _ (fun u hu => questionOf_15 pl nn wa a1 a2 l1 l2 c1 c2 u) (fun u hu => isRight_15 _ _ _ _ u _ hI)
  · rw [Bool.true_and]
    refine rq_true 15 pl nn wa a1 a2 l1 l2 c1 c2 w _ _ 121 _ (fun u hu => questionOf_15 pl nn wa a1 a2 l1 l2 c1 c2 u) (fun u hu => isRight_15 _ _ _ _ u _ hI) (callf_15 _) (meth_15 _) (fun u hu => (req_15 _ _ _ _ u).mono ?_)
    rintro e u' ⟨rfl, bu⟩
    refine ⟨_, rfl, bu, ?_⟩
    have hu2 := bel_next hu bu
    by_cases hnn : nn = 0
    rotate_left
    · rw [decide_eq_false hnn]
      exact sameReq_n _ _ _ _ _ _ _ _ _ _ _ _ _ _ _ _ _ _ _ (fun h => hnn h.symm)
    rw [decide_eq_true hnn, Bool.true_and]
    by_cases hww : wa = 0
    rotate_left
    · rw [decide_eq_false hww]
      exact sameReq_w _ _ _ _ _ _ _ _ _ _ _ _ _ _ _ _ _ _ _ hnn (fun h => hww h.symm)
    rw [decide_eq_true hww, Bool.true_and]
    by_cases hll1 : l1 = 0
    rotate_left
    · rw [decide_eq_false hll1]
      exact sameReq_1 _ _ _ _ _ _ _ _ _ _ _ _ _ _ _ _ _ _ _ hnn hww (by omega) (by omega) (by omega)
    rw [decide_eq_true hll1]
    exact sameReq_t _ _ _ _ _ _ _ _ _ _ _ _ _ _ _ _ _ _ _ hnn hww [] rfl hll1 (.inl rfl) (.inl rfl) (by simp) bs h2 h2 (s2.below hu2) (s2.below hu2) hl2
set_option maxRecDepth 20000 in
set_option maxHeartbeats 2000000 in
theorem rightQuestion_16 (pl nn wa : Int) (a1 a2 : Option Addr) (l1 l2 c1 c2 : Nat) (ws : List Int) (bs : List Bool) (w : World) (h1 : l1 = ws.length) (h2 : l2 = bs.length) (s1 : SlI w a1 ws) (s2 : SlB w a2 bs) (hl1 : ws.length ≤ 2000000) (hl2 : bs.length ≤ 2000000) (b : Bool) (hb : okR 16 pl nn wa ws l1 l2 = b) :
    Calls Try.prog 74 #[rq 16 pl nn wa a1 a2 l1 l2 c1 c2] w fun e w' => e = .returned (bif b then .iface 119 (.agg #[.int .i64 pl, .slice a1 l1 c1]) else .nilIface) ∧ Below w.heap.size w w' := by
  subst hb
  rw [okI_16 _ _ _ _ _ _ h1]
  rw [show (rnB pl (l1 : Int) 123 && (allW ws && (decide (nn = 0) && (decide (wa = 0) && (decide (l2 = 0)))))) = ((rnB pl (l1 : Int) 123 && allW ws) && (decide (nn = 0) && (decide (wa = 0) && (decide (l2 = 0))))) from by simp only [Bool.and_assoc]]
  cases hI : (rnB pl (l1 : Int) 123 && allW ws)
  · rw [Bool.false_and]
    exact rq_false 16 pl nn wa a1 a2 l1 l2 c1 c2 w _ (fun u hu => questionOf_16 pl nn wa a1 a2 l1 l2 c1 c2 u) (fun u hu => isRight_16 _ _ _ _ ws u h1 (s1.below hu) hl1 _ hI)
  · rw [Bool.true_and]
    refine rq_true 16 pl nn wa a1 a2 l1 l2 c1 c2 w _ _ 122 _ (fun u hu => questionOf_16 pl nn wa a1 a2 l1 l2 c1 c2 u) (fun u hu => isRight_16 _ _ _ _ ws u h1 (s1.below hu) hl1 _ hI) (callf_16 _) (meth_16 _) (fun u hu => (req_16 _ _ _ _ u).mono ?_)
    rintro e u' ⟨rfl, bu⟩
    refine ⟨_, rfl, bu, ?_⟩
    have hu2 := bel_next hu bu
    by_cases hnn : nn = 0
    rotate_left
    · rw [decide_eq_false hnn]
      exact sameReq_n _ _ _ _ _ _ _ _ _ _ _ _ _ _ _ _ _ _ _ (fun h => hnn h.symm)
    rw [decide_eq_true hnn, Bool.true_and]
    by_cases hww : wa = 0
    rotate_left
    · rw [decide_eq_false hww]
      exact sameReq_w _ _ _ _ _ _ _ _ _ _ _ _ _ _ _ _ _ _ _ hnn (fun h => hww h.symm)
    rw [decide_eq_true hww, Bool.true_and]
    by_cases hll2 : l2 = 0
    rotate_left
    · rw [decide_eq_false hll2]
      exact sameReq_2 _ _ _ _ _ _ _ _ _ _ _ _ _ _ _ _ _ _ _ hnn hww ws h1 h1 (s1.below hu2) (s1.below hu2) hl1 (by omega) (by omega) (by omega)
    rw [decide_eq_true hll2]
    exact sameReq_t _ _ _ _ _ _ _ _ _ _ _ _ _ _ _ _ _ _ _ hnn hww ws h1 h1 (s1.below hu2) (s1.below hu2) hl1 [] rfl hll2 (.inl rfl) (.inl rfl) (by simp)
set_option maxRecDepth 20000 in
set_option maxHeartbeats 2000000 in
theorem rightQuestion_22 (pl nn wa : Int) (a1 a2 : Option Addr) (l1 l2 c1 c2 : Nat) (ws : List Int) (bs : List Bool) (w : World) (h1 : l1 = ws.length) (h2 : l2 = bs.length) (s1 : SlI w a1 ws) (s2 : SlB w a2 bs) (hl1 : ws.length ≤ 2000000) (hl2 : bs.length ≤ 2000000) (b : Bool) (hb : okR 22 pl nn wa ws l1 l2 = b) :
    Calls Try.prog 74 #[rq 22 pl nn wa a1 a2 l1 l2 c1 c2] w fun e w' => e = .returned (bif b then .iface 121 (.agg #[.int .i64 pl, .int .i64 (ws.getD 0 0), .int .i64 (ws.getD 1 0)]) else .nilIface) ∧ Below w.heap.size w w' := by
  subst hb
  rw [okI_22 _ _ _ _ _ _ h1]
  by_cases hL : l1 = 2
  rotate_left
  · rw [decide_eq_false hL]
    exact rq_false 22 pl nn wa a1 a2 l1 l2 c1 c2 w .nilIface (fun u hu => questionOf_22n pl nn wa a1 a2 l1 l2 c1 c2 u (by simp; omega)) (fun u hu => isRight_n u)
  rw [decide_eq_true hL, Bool.true_and]
  rw [show (inB pl 0 65535 && (inB (ws.getD 0 0) 0 65535 && (inB (ws.getD 1 0) 0 65535 && (decide (nn = 0) && (decide (wa = 0) && (decide (l2 = 0))))))) = ((inB pl 0 65535 && (inB (ws.getD 0 0) 0 65535 && inB (ws.getD 1 0) 0 65535)) && (decide (nn = 0) && (decide (wa = 0) && (decide (l2 = 0))))) from by simp only [Bool.and_assoc]]
  cases hI : (inB pl 0 65535 && (inB (ws.getD 0 0) 0 65535 && inB (ws.getD 1 0) 0 65535))
  · rw [Bool.false_and]
    exact rq_false 22 pl nn wa a1 a2 l1 l2 c1 c2 w _ (fun u hu => questionOf_22 pl nn wa a1 a2 l1 l2 c1 c2 u ws h1 (by omega) (s1.below hu)) (fun u hu => isRight_22 _ _ _ u _ hI)
  · rw [Bool.true_and]
    refine rq_true 22 pl nn wa a1 a2 l1 l2 c1 c2 w _ _ 123 _ (fun u hu => questionOf_22 pl nn wa a1 a2 l1 l2 c1 c2 u ws h1 (by omega) (s1.below hu)) (fun u hu => isRight_22 _ _ _ u _ hI) (callf_22 _) (meth_22 _) (fun u hu => (req_22 _ _ _ u).mono ?_)
    rintro e u' ⟨rfl, n3, bu⟩
    refine ⟨_, rfl, bu, ?_⟩
    have hu2 := bel_next hu bu
    by_cases hnn : nn = 0
    rotate_left
    · rw [decide_eq_false hnn]
      exact sameReq_n _ _ _ _ _ _ _ _ _ _ _ _ _ _ _ _ _ _ _ (fun h => hnn h.symm)
    rw [decide_eq_true hnn, Bool.true_and]
    by_cases hww : wa = 0
    rotate_left
    · rw [decide_eq_false hww]
      exact sameReq_w _ _ _ _ _ _ _ _ _ _ _ _ _ _ _ _ _ _ _ hnn (fun h => hww h.symm)
    rw [decide_eq_true hww, Bool.true_and]
    by_cases hll2 : l2 = 0
    rotate_left
    · rw [decide_eq_false hll2]
      exact sameReq_2 _ _ _ _ _ _ _ _ _ _ _ _ _ _ _ _ _ _ _ hnn hww [ws.getD 0 0, ws.getD 1 0] rfl hL n3 (by have := s1.below hu2; rw [ints_two (ws := ws) (by omega)] at this; exact this) (by simp) (by omega) (by omega) (by omega)
    rw [decide_eq_true hll2]
    exact sameReq_t _ _ _ _ _ _ _ _ _ _ _ _ _ _ _ _ _ _ _ hnn hww [ws.getD 0 0, ws.getD 1 0] rfl hL n3 (by have := s1.below hu2; rw [ints_two (ws := ws) (by omega)] at this; exact this) (by simp) [] rfl hll2 (.inl rfl) (.inl rfl) (by simp)
set_option maxRecDepth 20000 in
set_option maxHeartbeats 2000000 in
theorem rightQuestion_23 (pl nn wa : Int) (a1 a2 : Option Addr) (l1 l2 c1 c2 : Nat) (ws : List Int) (bs : List Bool) (w : World) (h1 : l1 = ws.length) (h2 : l2 = bs.length) (s1 : SlI w a1 ws) (s2 : SlB w a2 bs) (hl1 : ws.length ≤ 2000000) (hl2 : bs.length ≤ 2000000) (b : Bool) (hb : okR 23 pl nn wa ws l1 l2 = b) :
    Calls Try.prog 74 #[rq 23 pl nn wa a1 a2 l1 l2 c1 c2] w fun e w' => e = .returned (bif b then .iface 123 (.agg #[.int .i64 pl, .int .i64 nn, .int .i64 wa, .slice a1 l1 c1]) else .nilIface) ∧ Below w.heap.size w w' := by
  subst hb
  rw [okI_23 _ _ _ _ _ _ h1]
  rw [show (rnB pl nn 125 && (rnB wa (l1 : Int) 121 && (allW ws && (decide (l2 = 0))))) = ((rnB pl nn 125 && (rnB wa (l1 : Int) 121 && allW ws)) && (decide (l2 = 0))) from by simp only [Bool.and_assoc]]
  cases hI : (rnB pl nn 125 && (rnB wa (l1 : Int) 121 && allW ws))
  · rw [Bool.false_and]
    exact rq_false 23 pl nn wa a1 a2 l1 l2 c1 c2 w _ (fun u hu => questionOf_23 pl nn wa a1 a2 l1 l2 c1 c2 u) (fun u hu => isRight_23 _ _ _ _ _ _ ws u h1 (s1.below hu) hl1 _ hI)
  · rw [Bool.true_and]
    refine rq_true 23 pl nn wa a1 a2 l1 l2 c1 c2 w _ _ 124 _ (fun u hu => questionOf_23 pl nn wa a1 a2 l1 l2 c1 c2 u) (fun u hu => isRight_23 _ _ _ _ _ _ ws u h1 (s1.below hu) hl1 _ hI) (callf_23 _) (meth_23 _) (fun u hu => (req_23 _ _ _ _ _ _ u).mono ?_)
    rintro e u' ⟨rfl, bu⟩
    refine ⟨_, rfl, bu, ?_⟩
    have hu2 := bel_next hu bu
    by_cases hll2 : l2 = 0
    rotate_left
    · rw [decide_eq_false hll2]
      exact sameReq_2 _ _ _ _ _ _ _ _ _ _ _ _ _ _ _ _ _ _ _ rfl rfl ws h1 h1 (s1.below hu2) (s1.below hu2) hl1 (by omega) (by omega) (by omega)
    rw [decide_eq_true hll2]
    exact sameReq_t _ _ _ _ _ _ _ _ _ _ _ _ _ _ _ _ _ _ _ rfl rfl ws h1 h1 (s1.below hu2) (s1.below hu2) hl1 [] rfl hll2 (.inl rfl) (.inl rfl) (by simp)
theorem rightQuestion_none (kd : Int) (pl nn wa : Int) (a1 a2 : Option Addr) (l1 l2 c1 c2 : Nat) (ws : List Int) (bs : List Bool) (w : World) (h1 : l1 = ws.length) (h2 : l2 = bs.length) (s1 : SlI w a1 ws) (s2 : SlB w a2 bs) (hl1 : ws.length ≤ 2000000) (hl2 : bs.length ≤ 2000000) (k1 : ¬ kd = 1) (k2 : ¬ kd = 2) (k3 : ¬ kd = 3) (k4 : ¬ kd = 4) (k5 : ¬ kd = 5) (k6 : ¬ kd = 6) (k15 : ¬ kd = 15) (k16 : ¬ kd = 16) (k22 : ¬ kd = 22) (k23 : ¬ kd = 23) :
    Calls Try.prog 74 #[rq kd pl nn wa a1 a2 l1 l2 c1 c2] w fun e w' => e = .returned .nilIface ∧ Below w.heap.size w w' :=
  rq_false kd pl nn wa a1 a2 l1 l2 c1 c2 w .nilIface (fun u hu => questionOf_none kd pl nn wa a1 a2 l1 l2 c1 c2 u k1 k2 k3 k4 k5 k6 k15 k16 k22 k23) (fun u hu => isRight_n u)
end Go.Proofs.Ytfdddkjonjpgpaa
namespace Go.Proofs.Ytfdddkjonjpgpaa
open Go.RowKit
set_option linter.unusedVariables false
set_option linter.unusedSimpArgs false
abbrev WfQ (kd pl nn wa : Int) (ws : List Int) : Prop := (∀ n ∈ ws, -9223372036854775808 ≤ n ∧ n ≤ 9223372036854775807) ∧ (Lit.int .i64 kd).wf = true ∧ (Lit.int .i64 pl).wf = true ∧ (Lit.int .i64 nn).wf = true ∧ (Lit.int .i64 wa).wf = true
theorem neq_if (T : TypeId) (v : Value) (w : World) : (binOp .neq 96 (.iface T v) .nilIface).run Try.prog w = .ok (.bool true) w := by kernel_rfl
theorem neq_nil (w : World) : (binOp .neq 96 .nilIface .nilIface).run Try.prog w = .ok (.bool false) w := by kernel_rfl
set_option maxHeartbeats 2000000 in
theorem implReqOk_if (kd pl nn wa : Int) (a1 a2 : Option Addr) (l1 l2 c1 c2 : Nat) (w : World) (b : Bool) (T : TypeId) (v : Value)
    (hq : ∀ u, Below w.heap.size w u → Calls Try.prog 74 #[rq kd pl nn wa a1 a2 l1 l2 c1 c2] u fun e u' => e = .returned (bif b then .iface T v else .nilIface) ∧ Below u.heap.size u u') :
    Calls Try.prog 62 #[rq kd pl nn wa a1 a2 l1 l2 c1 c2] w fun e w' => e = .returned (.bool b) ∧ Below w.heap.size w w' := by
  have B0 := bel_alloc w (.cells #[.int .i64 kd, .int .i64 pl, .int .i64 nn, .slice a1 l1 c1, .slice a2 l2 c2, .int .i64 wa] 57)
  have q1 := neq_if T v
  have q2 := neq_nil
  go_enter Try.func62, Try.ntmps62
  go_wp2_with fail
  refine (hq _ B0).mono ?_
  rintro e w1 ⟨rfl, b'⟩
  have B1 := bel_next B0 b'
  clear hq
  cases b
  · simp only [cond_false]
    go_wp2
    go_ret
    exact ⟨rfl, B1⟩
  · simp only [cond_true]
    go_wp2
    go_ret
    exact ⟨rfl, B1⟩
theorem okR_kind {kd pl nn wa : Int} {ws : List Int} {l1 l2 : Nat} (h : okR kd pl nn wa ws l1 l2 = true) : kd = 1 ∨ kd = 2 ∨ kd = 3 ∨ kd = 4 ∨ kd = 5 ∨ kd = 6 ∨ kd = 15 ∨ kd = 16 ∨ kd = 22 ∨ kd = 23 := by
  by_cases hk : kd = 1 ∨ kd = 2 ∨ kd = 3 ∨ kd = 4 ∨ kd = 5 ∨ kd = 6 ∨ kd = 15 ∨ kd = 16 ∨ kd = 22 ∨ kd = 23
  · exact hk
  · have e : okR kd pl nn wa ws l1 l2 = false := by
      have k1 : ¬ kd = 1 := by omega
      have k2 : ¬ kd = 2 := by omega
      have k3 : ¬ kd = 3 := by omega
      have k4 : ¬ kd = 4 := by omega
      have k5 : ¬ kd = 5 := by omega
      have k6 : ¬ kd = 6 := by omega
      have k7 : ¬ kd = 15 := by omega
      have k8 : ¬ kd = 16 := by omega
      have k9 : ¬ kd = 22 := by omega
      have k10 : ¬ kd = 23 := by omega
      simp [okR, okK, k1, k2, k3, k4, k5, k6, k7, k8, k9, k10]
    rw [e] at h
    cases h
theorem implReqOk_q (kd pl nn wa : Int) (a1 a2 : Option Addr) (l1 l2 c1 c2 : Nat) (ws : List Int) (bs : List Bool) (w : World) (h1 : l1 = ws.length) (h2 : l2 = bs.length) (s1 : SlI w a1 ws) (s2 : SlB w a2 bs) (hl1 : ws.length ≤ 2000000) (hl2 : bs.length ≤ 2000000) :
    Calls Try.prog 62 #[rq kd pl nn wa a1 a2 l1 l2 c1 c2] w fun e w' => e = .returned (.bool (okR kd pl nn wa ws l1 l2)) ∧ Below w.heap.size w w' := by
  by_cases hk : kd = 1 ∨ kd = 2 ∨ kd = 3 ∨ kd = 4 ∨ kd = 5 ∨ kd = 6 ∨ kd = 15 ∨ kd = 16 ∨ kd = 22 ∨ kd = 23
  · obtain rfl | rfl | rfl | rfl | rfl | rfl | rfl | rfl | rfl | rfl := hk
    · exact implReqOk_if 1 pl nn wa a1 a2 l1 l2 c1 c2 w _ _ _ (fun u hu => rightQuestion_1 pl nn wa a1 a2 l1 l2 c1 c2 ws bs u h1 h2 (s1.below hu) (s2.below hu) hl1 hl2 _ rfl)
    · exact implReqOk_if 2 pl nn wa a1 a2 l1 l2 c1 c2 w _ _ _ (fun u hu => rightQuestion_2 pl nn wa a1 a2 l1 l2 c1 c2 ws bs u h1 h2 (s1.below hu) (s2.below hu) hl1 hl2 _ rfl)
    · exact implReqOk_if 3 pl nn wa a1 a2 l1 l2 c1 c2 w _ _ _ (fun u hu => rightQuestion_3 pl nn wa a1 a2 l1 l2 c1 c2 ws bs u h1 h2 (s1.below hu) (s2.below hu) hl1 hl2 _ rfl)
    · exact implReqOk_if 4 pl nn wa a1 a2 l1 l2 c1 c2 w _ _ _ (fun u hu => rightQuestion_4 pl nn wa a1 a2 l1 l2 c1 c2 ws bs u h1 h2 (s1.below hu) (s2.below hu) hl1 hl2 _ rfl)
    · exact implReqOk_if 5 pl nn wa a1 a2 l1 l2 c1 c2 w _ _ _ (fun u hu => rightQuestion_5 pl nn wa a1 a2 l1 l2 c1 c2 ws bs u h1 h2 (s1.below hu) (s2.below hu) hl1 hl2 _ rfl)
    · exact implReqOk_if 6 pl nn wa a1 a2 l1 l2 c1 c2 w _ _ _ (fun u hu => rightQuestion_6 pl nn wa a1 a2 l1 l2 c1 c2 ws bs u h1 h2 (s1.below hu) (s2.below hu) hl1 hl2 _ rfl)
    · exact implReqOk_if 15 pl nn wa a1 a2 l1 l2 c1 c2 w _ _ _ (fun u hu => rightQuestion_15 pl nn wa a1 a2 l1 l2 c1 c2 ws bs u h1 h2 (s1.below hu) (s2.below hu) hl1 hl2 _ rfl)
    · exact implReqOk_if 16 pl nn wa a1 a2 l1 l2 c1 c2 w _ _ _ (fun u hu => rightQuestion_16 pl nn wa a1 a2 l1 l2 c1 c2 ws bs u h1 h2 (s1.below hu) (s2.below hu) hl1 hl2 _ rfl)
    · exact implReqOk_if 22 pl nn wa a1 a2 l1 l2 c1 c2 w _ _ _ (fun u hu => rightQuestion_22 pl nn wa a1 a2 l1 l2 c1 c2 ws bs u h1 h2 (s1.below hu) (s2.below hu) hl1 hl2 _ rfl)
    · exact implReqOk_if 23 pl nn wa a1 a2 l1 l2 c1 c2 w _ _ _ (fun u hu => rightQuestion_23 pl nn wa a1 a2 l1 l2 c1 c2 ws bs u h1 h2 (s1.below hu) (s2.below hu) hl1 hl2 _ rfl)
  · have e : okR kd pl nn wa ws l1 l2 = false := by
      cases e : okR kd pl nn wa ws l1 l2
      · rfl
      · exact absurd (okR_kind e) hk
    rw [e]
    exact implReqOk_if kd pl nn wa a1 a2 l1 l2 c1 c2 w false 0 .nilIface (fun u hu => rightQuestion_none kd pl nn wa a1 a2 l1 l2 c1 c2 ws bs u h1 h2 (s1.below hu) (s2.below hu) hl1 hl2 (by omega) (by omega) (by omega) (by omega) (by omega) (by omega) (by omega) (by omega) (by omega) (by omega))
def spcN (kd nn : Int) (l1 l2 : Nat) : Int := if kd = 5 ∨ kd = 15 then l2 else if kd = 6 ∨ kd = 22 then 1 else if kd = 16 then l1 else nn
def spc0 (kd : Int) : Int := if kd = 1 ∨ kd = 5 ∨ kd = 15 then 0 else if kd = 2 then 1 else if kd = 4 then 3 else 2
def spcV (b : Bool) (kd pl nn : Int) (l1 l2 : Nat) : Value := bif b then .tuple #[.int .i64 (spc0 kd), .int .i64 pl, .int .i64 (spcN kd nn l1 l2)] else .tuple #[.int .i64 (-1), .int .i64 0, .int .i64 0]
set_option maxRecDepth 20000 in
set_option maxHeartbeats 2000000 in
theorem placesOf_1 (pl nn : Int) (w : World) : Calls Try.prog 95 #[.iface 108 (.agg #[.int .i64 pl, .int .i64 nn])] w fun e w' => e = .returned (.tuple #[.int .i64 0, .int .i64 pl, .int .i64 nn]) ∧ Below w.heap.size w w' := by
  have B0 := bel_alloc w (.cells #[.int .i64 pl, .int .i64 nn] 108)
  have t1 := ta_1_1
  go_enter Try.func95, Try.ntmps95
  go_wp2
  go_quiet (fail)
  go_wp2
  refine bodyPost_ret (v := .tuple #[.int .i64 0, .int .i64 pl, .int .i64 nn]) (by simp [results, Try.results95, go_sem]) rfl ?_
  exact ⟨rfl, bel_next B0 (drew_refl _ _)⟩
set_option maxRecDepth 20000 in
set_option maxHeartbeats 2000000 in
theorem placesOf_2 (pl nn : Int) (w : World) : Calls Try.prog 95 #[.iface 109 (.agg #[.int .i64 pl, .int .i64 nn])] w fun e w' => e = .returned (.tuple #[.int .i64 1, .int .i64 pl, .int .i64 nn]) ∧ Below w.heap.size w w' := by
  have B0 := bel_alloc w (.cells #[.int .i64 pl, .int .i64 nn] 109)
  have t1 := ta_2_1
  have t2 := ta_2_2
  go_enter Try.func95, Try.ntmps95
  go_wp2
  go_quiet (fail)
  go_wp2
  refine bodyPost_ret (v := .tuple #[.int .i64 1, .int .i64 pl, .int .i64 nn]) (by simp [results, Try.results95, go_sem]) rfl ?_
  exact ⟨rfl, bel_next B0 (drew_refl _ _)⟩
set_option maxRecDepth 20000 in
set_option maxHeartbeats 2000000 in
theorem placesOf_3 (pl nn : Int) (w : World) : Calls Try.prog 95 #[.iface 110 (.agg #[.int .i64 pl, .int .i64 nn])] w fun e w' => e = .returned (.tuple #[.int .i64 2, .int .i64 pl, .int .i64 nn]) ∧ Below w.heap.size w w' := by
  have B0 := bel_alloc w (.cells #[.int .i64 pl, .int .i64 nn] 110)
  have t1 := ta_3_1
  have t2 := ta_3_2
  have t3 := ta_3_3
  go_enter Try.func95, Try.ntmps95
  go_wp2
  go_quiet (fail)
  go_wp2
  refine bodyPost_ret (v := .tuple #[.int .i64 2, .int .i64 pl, .int .i64 nn]) (by simp [results, Try.results95, go_sem]) rfl ?_
  exact ⟨rfl, bel_next B0 (drew_refl _ _)⟩
set_option maxRecDepth 20000 in
set_option maxHeartbeats 2000000 in
theorem placesOf_4 (pl nn : Int) (w : World) : Calls Try.prog 95 #[.iface 111 (.agg #[.int .i64 pl, .int .i64 nn])] w fun e w' => e = .returned (.tuple #[.int .i64 3, .int .i64 pl, .int .i64 nn]) ∧ Below w.heap.size w w' := by
  have B0 := bel_alloc w (.cells #[.int .i64 pl, .int .i64 nn] 111)
  have t1 := ta_4_1
  have t2 := ta_4_2
  have t3 := ta_4_3
  have t4 := ta_4_4
  go_enter Try.func95, Try.ntmps95
  go_wp2
  go_quiet (fail)
  go_wp2
  refine bodyPost_ret (v := .tuple #[.int .i64 3, .int .i64 pl, .int .i64 nn]) (by simp [results, Try.results95, go_sem]) rfl ?_
  exact ⟨rfl, bel_next B0 (drew_refl _ _)⟩
set_option maxRecDepth 20000 in
set_option maxHeartbeats 2000000 in
theorem placesOf_5 (pl : Int) (x : Bool) (w : World) : Calls Try.prog 95 #[.iface 113 (.agg #[.int .i64 pl, .bool x])] w fun e w' => e = .returned (.tuple #[.int .i64 0, .int .i64 pl, .int .i64 1]) ∧ Below w.heap.size w w' := by
  have B0 := bel_alloc w (.cells #[.int .i64 pl, .bool x] 113)
  have t1 := ta_5_1
  have t2 := ta_5_2
  have t3 := ta_5_3
  have t4 := ta_5_4
  have t5 := ta_5_5
  go_enter Try.func95, Try.ntmps95
  go_wp2
  go_quiet (fail)
  go_wp2
  refine bodyPost_ret (v := .tuple #[.int .i64 0, .int .i64 pl, .int .i64 1]) (by simp [results, Try.results95, go_sem]) rfl ?_
  exact ⟨rfl, bel_next B0 (drew_refl _ _)⟩
set_option maxRecDepth 20000 in
set_option maxHeartbeats 2000000 in
theorem placesOf_6 (pl x : Int) (w : World) : Calls Try.prog 95 #[.iface 115 (.agg #[.int .i64 pl, .int .i64 x])] w fun e w' => e = .returned (.tuple #[.int .i64 2, .int .i64 pl, .int .i64 1]) ∧ Below w.heap.size w w' := by
  have B0 := bel_alloc w (.cells #[.int .i64 pl, .int .i64 x] 115)
  have t1 := ta_6_1
  have t2 := ta_6_2
  have t3 := ta_6_3
  have t4 := ta_6_4
  have t5 := ta_6_5
  have t6 := ta_6_6
  go_enter Try.func95, Try.ntmps95
  go_wp2
  go_quiet (fail)
  go_wp2
  refine bodyPost_ret (v := .tuple #[.int .i64 2, .int .i64 pl, .int .i64 1]) (by simp [results, Try.results95, go_sem]) rfl ?_
  exact ⟨rfl, bel_next B0 (drew_refl _ _)⟩
set_option maxRecDepth 20000 in
set_option maxHeartbeats 2000000 in
theorem placesOf_15 (pl : Int) (a2 : Option Addr) (l2 c2 : Nat) (w : World) : Calls Try.prog 95 #[.iface 117 (.agg #[.int .i64 pl, .slice a2 l2 c2])] w fun e w' => e = .returned (.tuple #[.int .i64 0, .int .i64 pl, .int .i64 (l2 : Int)]) ∧ Below w.heap.size w w' := by
  have B0 := bel_alloc w (.cells #[.int .i64 pl, .slice a2 l2 c2] 117)
  have t1 := ta_15_1
  have t2 := ta_15_2
  have t3 := ta_15_3
  have t4 := ta_15_4
  have t5 := ta_15_5
  have t6 := ta_15_6
  have t15 := ta_15_15
  go_enter Try.func95, Try.ntmps95
  go_wp2
  go_quiet (fail)
  go_wp2
  refine bodyPost_ret (v := .tuple #[.int .i64 0, .int .i64 pl, .int .i64 (l2 : Int)]) (by simp [results, Try.results95, go_sem]) rfl ?_
  exact ⟨rfl, bel_next B0 (drew_refl _ _)⟩
set_option maxRecDepth 20000 in
set_option maxHeartbeats 2000000 in
theorem placesOf_16 (pl : Int) (a1 : Option Addr) (l1 c1 : Nat) (w : World) : Calls Try.prog 95 #[.iface 119 (.agg #[.int .i64 pl, .slice a1 l1 c1])] w fun e w' => e = .returned (.tuple #[.int .i64 2, .int .i64 pl, .int .i64 (l1 : Int)]) ∧ Below w.heap.size w w' := by
  have B0 := bel_alloc w (.cells #[.int .i64 pl, .slice a1 l1 c1] 119)
  have t1 := ta_16_1
  have t2 := ta_16_2
  have t3 := ta_16_3
  have t4 := ta_16_4
  have t5 := ta_16_5
  have t6 := ta_16_6
  have t15 := ta_16_15
  have t16 := ta_16_16
  go_enter Try.func95, Try.ntmps95
  go_wp2
  go_quiet (fail)
  go_wp2
  refine bodyPost_ret (v := .tuple #[.int .i64 2, .int .i64 pl, .int .i64 (l1 : Int)]) (by simp [results, Try.results95, go_sem]) rfl ?_
  exact ⟨rfl, bel_next B0 (drew_refl _ _)⟩
set_option maxRecDepth 20000 in
set_option maxHeartbeats 2000000 in
theorem placesOf_22 (pl x y : Int) (w : World) : Calls Try.prog 95 #[.iface 121 (.agg #[.int .i64 pl, .int .i64 x, .int .i64 y])] w fun e w' => e = .returned (.tuple #[.int .i64 2, .int .i64 pl, .int .i64 1]) ∧ Below w.heap.size w w' := by
  have B0 := bel_alloc w (.cells #[.int .i64 pl, .int .i64 x, .int .i64 y] 121)
  have t1 := ta_22_1
  have t2 := ta_22_2
  have t3 := ta_22_3
  have t4 := ta_22_4
  have t5 := ta_22_5
  have t6 := ta_22_6
  have t15 := ta_22_15
  have t16 := ta_22_16
  have t22 := ta_22_22
  go_enter Try.func95, Try.ntmps95
  go_wp2
  go_quiet (fail)
  go_wp2
  refine bodyPost_ret (v := .tuple #[.int .i64 2, .int .i64 pl, .int .i64 1]) (by simp [results, Try.results95, go_sem]) rfl ?_
  exact ⟨rfl, bel_next B0 (drew_refl _ _)⟩
set_option maxRecDepth 20000 in
set_option maxHeartbeats 2000000 in
theorem placesOf_23 (pl nn wa : Int) (a1 : Option Addr) (l1 c1 : Nat) (w : World) : Calls Try.prog 95 #[.iface 123 (.agg #[.int .i64 pl, .int .i64 nn, .int .i64 wa, .slice a1 l1 c1])] w fun e w' => e = .returned (.tuple #[.int .i64 2, .int .i64 pl, .int .i64 nn]) ∧ Below w.heap.size w w' := by
  have B0 := bel_alloc w (.cells #[.int .i64 pl, .int .i64 nn, .int .i64 wa, .slice a1 l1 c1] 123)
  have t1 := ta_23_1
  have t2 := ta_23_2
  have t3 := ta_23_3
  have t4 := ta_23_4
  have t5 := ta_23_5
  have t6 := ta_23_6
  have t15 := ta_23_15
  have t16 := ta_23_16
  have t22 := ta_23_22
  have t23 := ta_23_23
  go_enter Try.func95, Try.ntmps95
  go_wp2
  go_quiet (fail)
  go_wp2
  refine bodyPost_ret (v := .tuple #[.int .i64 2, .int .i64 pl, .int .i64 nn]) (by simp [results, Try.results95, go_sem]) rfl ?_
  exact ⟨rfl, bel_next B0 (drew_refl _ _)⟩
set_option maxRecDepth 20000 in
set_option maxHeartbeats 2000000 in
theorem placesOf_n (w : World) : Calls Try.prog 95 #[.nilIface] w fun e w' => e = .returned (.tuple #[.int .i64 (-1), .int .i64 0, .int .i64 0]) ∧ Below w.heap.size w w' := by
  have t1 := ta_n_1
  have t2 := ta_n_2
  have t3 := ta_n_3
  have t4 := ta_n_4
  have t5 := ta_n_5
  have t6 := ta_n_6
  have t15 := ta_n_15
  have t16 := ta_n_16
  have t22 := ta_n_22
  have t23 := ta_n_23
  go_enter Try.func95, Try.ntmps95
  go_wp2
  refine bodyPost_ret (v := .tuple #[.int .i64 (-1), .int .i64 0, .int .i64 0]) (by simp [results, Try.results95, go_sem]) rfl ?_
  exact ⟨rfl, Below.refl _ _⟩
set_option maxHeartbeats 2000000 in
theorem implSpaces_if (kd pl nn wa : Int) (a1 a2 : Option Addr) (l1 l2 c1 c2 : Nat) (w : World) (q : Value) (i j k : Int)
    (hq : ∀ u, Below w.heap.size w u → Calls Try.prog 74 #[rq kd pl nn wa a1 a2 l1 l2 c1 c2] u fun e u' => e = .returned q ∧ Below u.heap.size u u')
    (hp : ∀ u, Calls Try.prog 95 #[q] u fun e u' => e = .returned (.tuple #[.int .i64 i, .int .i64 j, .int .i64 k]) ∧ Below u.heap.size u u') :
    Calls Try.prog 76 #[rq kd pl nn wa a1 a2 l1 l2 c1 c2] w fun e w' => e = .returned (.tuple #[.int .i64 i, .int .i64 j, .int .i64 k]) ∧ Below w.heap.size w w' := by
  have B0 := bel_alloc w (.cells #[.int .i64 kd, .int .i64 pl, .int .i64 nn, .slice a1 l1 c1, .slice a2 l2 c2, .int .i64 wa] 57)
  go_enter Try.func76, Try.ntmps76
  go_wp2_with fail
  refine (hq _ B0).mono ?_
  rintro e w1 ⟨rfl, b'⟩
  have B1 := bel_next B0 b'
  clear hq
  go_wp2_with fail
  refine (hp _).mono ?_
  rintro e w2 ⟨rfl, b2'⟩
  have B2 := bel_next B1 b2'
  clear hp
  go_wp2
  refine bodyPost_ret (v := .tuple #[.int .i64 i, .int .i64 j, .int .i64 k]) (by simp [results, Try.results76, go_sem]) rfl ?_
  exact ⟨rfl, B2⟩
theorem implSpaces_q (kd pl nn wa : Int) (a1 a2 : Option Addr) (l1 l2 c1 c2 : Nat) (ws : List Int) (bs : List Bool) (w : World) (h1 : l1 = ws.length) (h2 : l2 = bs.length) (s1 : SlI w a1 ws) (s2 : SlB w a2 bs) (hl1 : ws.length ≤ 2000000) (hl2 : bs.length ≤ 2000000) :
    Calls Try.prog 76 #[rq kd pl nn wa a1 a2 l1 l2 c1 c2] w fun e w' => e = .returned (spcV (okR kd pl nn wa ws l1 l2) kd pl nn l1 l2) ∧ Below w.heap.size w w' := by
  by_cases hk : kd = 1 ∨ kd = 2 ∨ kd = 3 ∨ kd = 4 ∨ kd = 5 ∨ kd = 6 ∨ kd = 15 ∨ kd = 16 ∨ kd = 22 ∨ kd = 23
  · cases hb : okR kd pl nn wa ws l1 l2
    · obtain rfl | rfl | rfl | rfl | rfl | rfl | rfl | rfl | rfl | rfl := hk
      · exact implSpaces_if 1 pl nn wa a1 a2 l1 l2 c1 c2 w .nilIface (-1) 0 0 (fun u hu => rightQuestion_1 pl nn wa a1 a2 l1 l2 c1 c2 ws bs u h1 h2 (s1.below hu) (s2.below hu) hl1 hl2 _ hb) (fun u => placesOf_n u)
      · exact implSpaces_if 2 pl nn wa a1 a2 l1 l2 c1 c2 w .nilIface (-1) 0 0 (fun u hu => rightQuestion_2 pl nn wa a1 a2 l1 l2 c1 c2 ws bs u h1 h2 (s1.below hu) (s2.below hu) hl1 hl2 _ hb) (fun u => placesOf_n u)
      · exact implSpaces_if 3 pl nn wa a1 a2 l1 l2 c1 c2 w .nilIface (-1) 0 0 (fun u hu => rightQuestion_3 pl nn wa a1 a2 l1 l2 c1 c2 ws bs u h1 h2 (s1.below hu) (s2.below hu) hl1 hl2 _ hb) (fun u => placesOf_n u)
      · exact implSpaces_if 4 pl nn wa a1 a2 l1 l2 c1 c2 w .nilIface (-1) 0 0 (fun u hu => rightQuestion_4 pl nn wa a1 a2 l1 l2 c1 c2 ws bs u h1 h2 (s1.below hu) (s2.below hu) hl1 hl2 _ hb) (fun u => placesOf_n u)
      · exact implSpaces_if 5 pl nn wa a1 a2 l1 l2 c1 c2 w .nilIface (-1) 0 0 (fun u hu => rightQuestion_5 pl nn wa a1 a2 l1 l2 c1 c2 ws bs u h1 h2 (s1.below hu) (s2.below hu) hl1 hl2 _ hb) (fun u => placesOf_n u)
      · exact implSpaces_if 6 pl nn wa a1 a2 l1 l2 c1 c2 w .nilIface (-1) 0 0 (fun u hu => rightQuestion_6 pl nn wa a1 a2 l1 l2 c1 c2 ws bs u h1 h2 (s1.below hu) (s2.below hu) hl1 hl2 _ hb) (fun u => placesOf_n u)
      · exact implSpaces_if 15 pl nn wa a1 a2 l1 l2 c1 c2 w .nilIface (-1) 0 0 (fun u hu => rightQuestion_15 pl nn wa a1 a2 l1 l2 c1 c2 ws bs u h1 h2 (s1.below hu) (s2.below hu) hl1 hl2 _ hb) (fun u => placesOf_n u)
      · exact implSpaces_if 16 pl nn wa a1 a2 l1 l2 c1 c2 w .nilIface (-1) 0 0 (fun u hu => rightQuestion_16 pl nn wa a1 a2 l1 l2 c1 c2 ws bs u h1 h2 (s1.below hu) (s2.below hu) hl1 hl2 _ hb) (fun u => placesOf_n u)
      · exact implSpaces_if 22 pl nn wa a1 a2 l1 l2 c1 c2 w .nilIface (-1) 0 0 (fun u hu => rightQuestion_22 pl nn wa a1 a2 l1 l2 c1 c2 ws bs u h1 h2 (s1.below hu) (s2.below hu) hl1 hl2 _ hb) (fun u => placesOf_n u)
      · exact implSpaces_if 23 pl nn wa a1 a2 l1 l2 c1 c2 w .nilIface (-1) 0 0 (fun u hu => rightQuestion_23 pl nn wa a1 a2 l1 l2 c1 c2 ws bs u h1 h2 (s1.below hu) (s2.below hu) hl1 hl2 _ hb) (fun u => placesOf_n u)
    · obtain rfl | rfl | rfl | rfl | rfl | rfl | rfl | rfl | rfl | rfl := hk
      · exact implSpaces_if 1 pl nn wa a1 a2 l1 l2 c1 c2 w _ 0 pl nn (fun u hu => rightQuestion_1 pl nn wa a1 a2 l1 l2 c1 c2 ws bs u h1 h2 (s1.below hu) (s2.below hu) hl1 hl2 _ hb) (fun u => placesOf_1 _ _ u)
      · exact implSpaces_if 2 pl nn wa a1 a2 l1 l2 c1 c2 w _ 1 pl nn (fun u hu => rightQuestion_2 pl nn wa a1 a2 l1 l2 c1 c2 ws bs u h1 h2 (s1.below hu) (s2.below hu) hl1 hl2 _ hb) (fun u => placesOf_2 _ _ u)
      · exact implSpaces_if 3 pl nn wa a1 a2 l1 l2 c1 c2 w _ 2 pl nn (fun u hu => rightQuestion_3 pl nn wa a1 a2 l1 l2 c1 c2 ws bs u h1 h2 (s1.below hu) (s2.below hu) hl1 hl2 _ hb) (fun u => placesOf_3 _ _ u)
      · exact implSpaces_if 4 pl nn wa a1 a2 l1 l2 c1 c2 w _ 3 pl nn (fun u hu => rightQuestion_4 pl nn wa a1 a2 l1 l2 c1 c2 ws bs u h1 h2 (s1.below hu) (s2.below hu) hl1 hl2 _ hb) (fun u => placesOf_4 _ _ u)
      · have e1 : l2 = 1 := by rw [okI_5 _ _ _ _ _ _ h1] at hb; simp at hb; omega
        have e2 : spcV true 5 pl nn l1 l2 = .tuple #[.int .i64 0, .int .i64 pl, .int .i64 1] := by rw [e1]; rfl
        rw [e2]
        exact implSpaces_if 5 pl nn wa a1 a2 l1 l2 c1 c2 w _ 0 pl 1 (fun u hu => rightQuestion_5 pl nn wa a1 a2 l1 l2 c1 c2 ws bs u h1 h2 (s1.below hu) (s2.below hu) hl1 hl2 _ hb) (fun u => placesOf_5 _ _ u)
      · exact implSpaces_if 6 pl nn wa a1 a2 l1 l2 c1 c2 w _ 2 pl 1 (fun u hu => rightQuestion_6 pl nn wa a1 a2 l1 l2 c1 c2 ws bs u h1 h2 (s1.below hu) (s2.below hu) hl1 hl2 _ hb) (fun u => placesOf_6 _ _ u)
      · exact implSpaces_if 15 pl nn wa a1 a2 l1 l2 c1 c2 w _ 0 pl (l2 : Int) (fun u hu => rightQuestion_15 pl nn wa a1 a2 l1 l2 c1 c2 ws bs u h1 h2 (s1.below hu) (s2.below hu) hl1 hl2 _ hb) (fun u => placesOf_15 _ _ _ _ u)
      · exact implSpaces_if 16 pl nn wa a1 a2 l1 l2 c1 c2 w _ 2 pl (l1 : Int) (fun u hu => rightQuestion_16 pl nn wa a1 a2 l1 l2 c1 c2 ws bs u h1 h2 (s1.below hu) (s2.below hu) hl1 hl2 _ hb) (fun u => placesOf_16 _ _ _ _ u)
      · exact implSpaces_if 22 pl nn wa a1 a2 l1 l2 c1 c2 w _ 2 pl 1 (fun u hu => rightQuestion_22 pl nn wa a1 a2 l1 l2 c1 c2 ws bs u h1 h2 (s1.below hu) (s2.below hu) hl1 hl2 _ hb) (fun u => placesOf_22 _ _ _ u)
      · exact implSpaces_if 23 pl nn wa a1 a2 l1 l2 c1 c2 w _ 2 pl nn (fun u hu => rightQuestion_23 pl nn wa a1 a2 l1 l2 c1 c2 ws bs u h1 h2 (s1.below hu) (s2.below hu) hl1 hl2 _ hb) (fun u => placesOf_23 _ _ _ _ _ _ u)
  · have e : okR kd pl nn wa ws l1 l2 = false := by
      cases e : okR kd pl nn wa ws l1 l2
      · rfl
      · exact absurd (okR_kind e) hk
    rw [e]
    exact implSpaces_if kd pl nn wa a1 a2 l1 l2 c1 c2 w .nilIface (-1) 0 0 (fun u hu => rightQuestion_none kd pl nn wa a1 a2 l1 l2 c1 c2 ws bs u h1 h2 (s1.below hu) (s2.below hu) hl1 hl2 (by omega) (by omega) (by omega) (by omega) (by omega) (by omega) (by omega) (by omega) (by omega) (by omega)) (fun u => placesOf_n u)
theorem implSpaces_t (kd pl nn wa : Int) (a1 a2 : Option Addr) (l1 l2 c1 c2 : Nat) (ws : List Int) (bs : List Bool) (w : World) (h1 : l1 = ws.length) (h2 : l2 = bs.length) (s1 : SlI w a1 ws) (s2 : SlB w a2 bs) (hl1 : ws.length ≤ 2000000) (hl2 : bs.length ≤ 2000000) (i j k : Int) (hv : spcV (okR kd pl nn wa ws l1 l2) kd pl nn l1 l2 = .tuple #[.int .i64 i, .int .i64 j, .int .i64 k]) :
    Calls Try.prog 76 #[rq kd pl nn wa a1 a2 l1 l2 c1 c2] w fun e w' => e = .returned (.tuple #[.int .i64 i, .int .i64 j, .int .i64 k]) ∧ Below w.heap.size w w' := by
  rw [← hv]; exact implSpaces_q kd pl nn wa a1 a2 l1 l2 c1 c2 ws bs w h1 h2 s1 s2 hl1 hl2
end Go.Proofs.Ytfdddkjonjpgpaa
namespace Go.Proofs.Ytfdddkjonjpgpaa
open Go.RowKit
set_option linter.unusedVariables false
theorem ownI_nil (w : World) (B : Nat) : OwnI w B (.slice none 0 0) [] := ⟨rfl, .inl ⟨rfl, rfl⟩⟩
theorem ownB_nil (w : World) (B : Nat) : OwnB w B (.slice none 0 0) [] := ⟨rfl, .inl ⟨rfl, rfl⟩⟩
theorem ne_types {w : World} {b1 b2 s1 s2 n1 n2 : Nat} {e1 e2 : TypeId} {v1 v2 : Value} {x1 x2 : List Value} (h1 : w.ownsRow b1 e1 s1 v1 n1 x1) (h2 : w.ownsRow b2 e2 s2 v2 n2 x2) (he : e1 ≠ e2) : v1.ownBlock = none ∨ v1.ownBlock ≠ v2.ownBlock := by
  obtain ⟨_, h1⟩ := h1
  rcases h1 with ⟨hv, _⟩ | ⟨g, cap, cur, hv, _, hh, _⟩
  · subst hv; exact .inl rfl
  · refine .inr ?_
    intro e
    exact row_noBlk (v := v2) (g := g) (t := e1) (cs := cur) h2 hh he (by rw [← e, hv]; rfl)
end Go.Proofs.Ytfdddkjonjpgpaa
namespace Go.Proofs.Ytfdddkjonjpgpaa
open Go.RowKit
set_option linter.unusedVariables false
set_option linter.unusedSimpArgs false
def Chg (w w' : World) (S : Nat → Prop) : Prop := w'.os = w.os ∧ w'.tape = w.tape ∧ w'.output = w.output ∧ w.heap.size ≤ w'.heap.size ∧ ∀ g, g < w.heap.size → ¬ S g → w'.heap[g]? = w.heap[g]?
theorem Chg.ofBelow {w w' : World} {S : Nat → Prop} (h : Below w.heap.size w w') : Chg w w' S := ⟨h.os, h.tape, h.output, h.size, fun g hg _ => h.block g hg⟩
theorem Chg.trans {w w' w'' : World} {S : Nat → Prop} (h : Chg w w' S) (h' : Chg w' w'' S) : Chg w w'' S := by
  obtain ⟨a1, a2, a3, a4, a5⟩ := h
  obtain ⟨c1, c2, c3, c4, c5⟩ := h'
  exact ⟨c1.trans a1, c2.trans a2, c3.trans a3, by omega, fun g hg hs => (c5 g (by omega) hs).trans (a5 g hg hs)⟩
theorem Chg.ofGrown {w w' : World} {S : Nat → Prop} {row : Option Nat} (h : w.grownBy w' row) (hs : ∀ g, row = some g → S g) : Chg w w' S :=
  ⟨h.os, h.tape, h.output, h.size, fun g hg hn => h.block g hg (fun e => hn (hs g e.symm))⟩
theorem row_chg {w w' : World} {S : Nat → Prop} {b s n : Nat} {e : TypeId} {v : Value} {xs : List Value} (h : w.ownsRow b e s v n xs) (hc : Chg w w' S) (hd : ∀ g, v.ownBlock = some g → ¬ S g) : w'.ownsRow b e s v n xs := by
  have hlt := World.ownsRow.lt h
  obtain ⟨h1, h2⟩ := h
  refine ⟨h1, ?_⟩
  rcases h2 with h2 | ⟨g, cap, cur, hv, hg, hh, r⟩
  · exact .inl h2
  · have e1 : v.ownBlock = some g := by rw [hv]; rfl
    exact .inr ⟨g, cap, cur, hv, hg, (hc.2.2.2.2 g (hlt g e1).2 (hd g e1)).trans hh, r⟩
theorem Blk.chg {w w' : World} {S : Nat → Prop} {g : Nat} {t : TypeId} {cs : Array Value} (h : Blk w g t cs) (hc : Chg w w' S) (hd : ¬ S g) : Blk w' g t cs := by
  unfold Blk; rw [hc.2.2.2.2 g h.lt hd]; exact h
theorem Chg.below {B : Nat} {W w w' : World} {S : Nat → Prop} (hb : Below B W w) (hc : Chg w w' S) (hs : ∀ g, S g → B ≤ g) (hB : B ≤ w.heap.size) : Below B W w' :=
  hb.trans ⟨hc.1, hc.2.1, hc.2.2.1, hc.2.2.2.1, fun g hg => hc.2.2.2.2 g (by omega) (fun q => by have := hs g q; omega)⟩
abbrev Of1 (v : Value) (g : Nat) : Prop := v.ownBlock = some g
def Of2 (v1 v2 : Value) (g : Nat) : Prop := Of1 v1 g ∨ Of1 v2 g
def Of4 (v1 v2 v3 v4 : Value) (g : Nat) : Prop := Of1 v1 g ∨ Of1 v2 g ∨ Of1 v3 g ∨ Of1 v4 g
theorem OwnD.of4 {w : World} {B : Nat} {a1 a2 a3 a4 : Option Addr} {l1 l2 l3 l4 c1 c2 c3 c4 : Nat} {cs is : List Bool} {hs rs : List Int} (h : OwnD w B a1 a2 a3 a4 l1 l2 l3 l4 c1 c2 c3 c4 cs is hs rs) : ∀ g, Of4 (.slice a1 l1 c1) (.slice a2 l2 c2) (.slice a3 l3 c3) (.slice a4 l4 c4) g → B ≤ g ∧ g < w.heap.size := by
  intro g hg
  rcases hg with q | q | q | q
  · exact World.ownsRow.lt h.1 g q
  · exact World.ownsRow.lt h.2.1 g q
  · exact World.ownsRow.lt h.2.2.1 g q
  · exact World.ownsRow.lt h.2.2.2.1 g q
theorem OwnD.chg {w w' : World} {S : Nat → Prop} {B : Nat} {a1 a2 a3 a4 : Option Addr} {l1 l2 l3 l4 c1 c2 c3 c4 : Nat} {cs is : List Bool} {hs rs : List Int} (h : OwnD w B a1 a2 a3 a4 l1 l2 l3 l4 c1 c2 c3 c4 cs is hs rs) (hc : Chg w w' S) (hd : ∀ g, Of4 (.slice a1 l1 c1) (.slice a2 l2 c2) (.slice a3 l3 c3) (.slice a4 l4 c4) g → ¬ S g) : OwnD w' B a1 a2 a3 a4 l1 l2 l3 l4 c1 c2 c3 c4 cs is hs rs :=
  ⟨row_chg h.1 hc (fun g q => hd g (.inl q)), row_chg h.2.1 hc (fun g q => hd g (.inr (.inl q))), row_chg h.2.2.1 hc (fun g q => hd g (.inr (.inr (.inl q)))), row_chg h.2.2.2.1 hc (fun g q => hd g (.inr (.inr (.inr q)))), h.2.2.2.2⟩
theorem OwnD.noBlk {w : World} {B g : Nat} {t : TypeId} {cv : Array Value} {a1 a2 a3 a4 : Option Addr} {l1 l2 l3 l4 c1 c2 c3 c4 : Nat} {cs is : List Bool} {hs rs : List Int} (h : OwnD w B a1 a2 a3 a4 l1 l2 l3 l4 c1 c2 c3 c4 cs is hs rs) (hb : Blk w g t cv) (h1 : t ≠ 4) (h2 : t ≠ 3) : ¬ Of4 (.slice a1 l1 c1) (.slice a2 l2 c2) (.slice a3 l3 c3) (.slice a4 l4 c4) g := by
  rintro (q | q | q | q)
  · exact row_noBlk h.1 hb h1 q
  · exact row_noBlk h.2.1 hb h1 q
  · exact row_noBlk h.2.2.1 hb h2 q
  · exact row_noBlk h.2.2.2.1 hb h2 q
end Go.Proofs.Ytfdddkjonjpgpaa
