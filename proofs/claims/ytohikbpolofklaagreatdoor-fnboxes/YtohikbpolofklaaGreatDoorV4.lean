/- Texts that the proof needs, joined: R2. -/
import Derived.Test.YtohikbpolofklaaGreatDoorV3
import Derived.Lib.AppendZerosOnto
import Derived.Lib.SliceRun
import Derived.Lib.Walk
namespace Go.Proofs.YtohikbpolofklaaGreatDoor
open Go.RowKit
set_option linter.unusedVariables false
set_option linter.unusedSimpArgs false
set_option maxHeartbeats 4000000 in
theorem grow_nil (x : Int) (n : Nat) (w : World) (hx : x = (n : Int)) (h0 : 0 < n) (hl : n ≤ 4000000) :
    Calls Tryz.prog 80 #[.slice none 0 0, .int .i64 x] w fun e w' => ∃ g G, e = .returned (.slice (some ⟨g, 0, none⟩) 0 G) ∧ Own w' w.heap.size (.slice (some ⟨g, 0, none⟩) 0 G) [] ∧ Below w.heap.size w w' := by
  subst hx
  obtain ⟨i0, hi, hz0, hz1, hz2⟩ := info_parts Tryz.info5
  have hold : (Builtin.firstCells i0.size 0 (.slice none 0 0)).run Tryz.prog w.drew = .ok ([] : List Value).toArray w.drew := run_firstCells_none w.drew i0.size 0 0 0
  have h := Lib.run_append_grow_zeros w 22 3 22 5 i0 (.int .u8 0) .i64 .i64 Tryz.underlying22 Tryz.underlying3 hi hz0 none 0 0 [] hold n h0 (by omega) (by omega) (by omega) (by rw [hz2]; omega)
    (growslice_fits (by omega) (by rw [hz2]; omega))
  have hG0 := grownCap_ge w (0 + n) 0 5
  have hG1 := grownCap_le_maxLen w (0 + n) 0 5 (by unfold maxLen; omega)
  obtain ⟨G, hG⟩ : ∃ G, G = grownCap w (0 + n) 0 5 := ⟨_, rfl⟩
  rw [← hG] at h hG0 hG1
  clear hold hG
  obtain ⟨cur, hcur⟩ : ∃ cur, cur = ([] : List Value).toArray ++ Builtin.zeroCells (Value.int IntKind.u8 0).cells n ++ Builtin.zeroCells (Value.int IntKind.u8 0).cells (G - (0 + n)) := ⟨_, rfl⟩
  have hsz : cur.size = G := by rw [hcur]; simp [Builtin.zeroCells, Value.cells]; omega
  rw [← hcur] at h
  have hh : (w.drew.alloc (.cells cur 5)).heap[w.heap.size]? = some (.cells cur 5 (0, 0)) := Blk.new w.drew cur 5
  have B1 : Below w.heap.size w (w.drew.alloc (.cells cur 5)) := (Below.refl _ w).drew.alloc (Nat.le_refl _) _
  have ho := own_zero (B := w.heap.size) (Nat.le_refl _) hh hsz hG1
  generalize w.drew.alloc (.cells cur 5) = w1 at *
  have h1 : ¬ ((n : Int) < 0) := by omega
  have h4 : (n : Int) > 0 := by omega
  have hz : 0 + n = n := Nat.zero_add n
  rw [hz] at h hG0
  clear hcur hsz hh hz
  go_enter Tryz.func80, Tryz.ntmps80
  go_wp2_with (at_builtin; refine Lib.wpList_append_run _ rfl _ _ _ _ rfl _ _ rfl rfl _ _ h ?_)
  go_ret
  exact ⟨_, _, rfl, ho, B1⟩
theorem own_some' {w : World} {base : Nat} {v : Value} {zs : List Int} (h : Own w base v zs) (hp : 0 < zs.length) : ∃ g c n, v = .slice (some ⟨g, 0, none⟩) n c ∧ n = zs.length := by
  obtain ⟨g, c, hv, _⟩ := own_some h hp
  exact ⟨g, c, _, hv, rfl⟩
theorem own_mono {w : World} {base base' : Nat} {v : Value} {zs : List Int} (h : Own w base v zs) (hb : base' ≤ base) : Own w base' v zs := by
  obtain ⟨h1, h2⟩ := h
  refine ⟨h1, ?_⟩
  rcases h2 with h2 | ⟨g, cap, cur, hv, hg, r⟩
  · exact .inl h2
  · exact .inr ⟨g, cap, cur, hv, by omega, r⟩
set_option maxRecDepth 20000 in
set_option maxHeartbeats 8000000 in
theorem concat3 (G : Nat) (d0 d1 d2 : Addr) (n0 n1 n2 c0 c1 c2 : Nat) (z0 z1 z2 : List Int) (w : World) (x0 : w.cell? ⟨G, 0, none⟩ = some (.slice (some d0) n0 c0)) (x1 : w.cell? ⟨G, 1, none⟩ = some (.slice (some d1) n1 c1)) (x2 : w.cell? ⟨G, 2, none⟩ = some (.slice (some d2) n2 c2)) (hG : G < w.heap.size)
    (h0 : n0 = z0.length) (h1 : n1 = z1.length) (h2 : n2 = z2.length) (s0 : Sl w (some d0) z0) (s1 : Sl w (some d1) z1) (s2 : Sl w (some d2) z2) (hp : 0 < n1) (l0 : n0 ≤ 1000000) (l1 : n1 ≤ 1000000) (l2 : n2 ≤ 1000000) :
    Calls Tryz.prog 67 #[.slice (some ⟨G, 0, none⟩) 3 3] w fun e w' => Nw w w' e (z0 ++ z1 ++ z2) := by
  have HH : Hid (n0 = z0.length ∧ n1 = z1.length ∧ n2 = z2.length ∧ Sl w (some d0) z0 ∧ Sl w (some d1) z1 ∧ Sl w (some d2) z2 ∧ G < w.heap.size) := ⟨h0, h1, h2, s0, s1, s2, hG⟩
  have q0 : ¬ ((n0 : Int) < 0) := by omega
  have q1 : ¬ ((n0 : Int) + (n1 : Int) < 0) := by omega
  have q2 : ¬ ((n0 : Int) + (n1 : Int) + (n2 : Int) < 0) := by omega
  have HP : Hid (0 < n1 ∧ n0 ≤ 1000000 ∧ n1 ≤ 1000000 ∧ n2 ≤ 1000000) := ⟨hp, l0, l1, l2⟩
  clear h0 h1 h2 s0 s1 s2 hG hp
  go_enter Tryz.func67, Tryz.ntmps67
  go_wp2
  refine wp_loop_rounds 4 ?_
  rw [rounds_succ]
  go_wp2
  rw [rounds_succ]
  go_wp2
  rw [rounds_succ]
  go_wp2
  rw [rounds_succ]
  go_wp2_with fail
  refine (grow_nil _ (n0 + n1 + n2) _ (by omega) (by have := HP.out; omega) (by have := HP.out; omega)).mono ?_
  rintro e w1 ⟨g, C, rfl, o1, b1⟩
  have y0 : w1.cell? ⟨G, 0, none⟩ = _ := (b1.cell (p := ⟨G, 0, none⟩) HH.out.2.2.2.2.2.2).trans x0
  have y1 : w1.cell? ⟨G, 1, none⟩ = _ := (b1.cell (p := ⟨G, 1, none⟩) HH.out.2.2.2.2.2.2).trans x1
  have y2 : w1.cell? ⟨G, 2, none⟩ = _ := (b1.cell (p := ⟨G, 2, none⟩) HH.out.2.2.2.2.2.2).trans x2
  clear x0 x1 x2 q0 q1 q2
  go_wp2
  refine wp_loop_rounds 4 ?_
  rw [rounds_succ]
  go_wp2_with (at_builtin; refine wpList_app rfl (.tmp 31) (.tmp 32) rfl w.heap.size (.slice (some ⟨g, 0, none⟩) 0 C) [] rfl o1 d0 n0 c0 z0 rfl HH.out.1 (HH.out.2.2.2.1.below b1) (by have := HP.out; have := HH.out; simp; omega) b1.size ?_; intro v2 w2 o2 g2; have b2 : Below w.heap.size w w2 := bel_grown b1 o1 g2 (Nat.le_refl _) b1.size; have m1 : w2.cell? ⟨G, 1, none⟩ = _ := (b2.cell (p := ⟨G, 1, none⟩) HH.out.2.2.2.2.2.2).trans ((b1.cell (p := ⟨G, 1, none⟩) HH.out.2.2.2.2.2.2).symm.trans y1); have m2 : w2.cell? ⟨G, 2, none⟩ = _ := (b2.cell (p := ⟨G, 2, none⟩) HH.out.2.2.2.2.2.2).trans ((b1.cell (p := ⟨G, 2, none⟩) HH.out.2.2.2.2.2.2).symm.trans y2); clear o1 g2 y0 y1 y2)
  rw [rounds_succ]
  go_wp2_with (at_builtin; refine wpList_app rfl (.tmp 31) (.tmp 32) rfl w.heap.size v2 ([] ++ z0) rfl o2 d1 n1 c1 z1 rfl HH.out.2.1 (HH.out.2.2.2.2.1.below b2) (by have := HP.out; have := HH.out; simp; omega) b2.size ?_; intro v3 w3 o3 g3; have b3 : Below w.heap.size w w3 := bel_grown b2 o2 g3 (Nat.le_refl _) b2.size; have r2 : w3.cell? ⟨G, 2, none⟩ = _ := (b3.cell (p := ⟨G, 2, none⟩) HH.out.2.2.2.2.2.2).trans ((b2.cell (p := ⟨G, 2, none⟩) HH.out.2.2.2.2.2.2).symm.trans m2); clear o2 g3 m1 m2)
  rw [rounds_succ]
  go_wp2_with (at_builtin; refine wpList_app rfl (.tmp 31) (.tmp 32) rfl w.heap.size v3 ([] ++ z0 ++ z1) rfl o3 d2 n2 c2 z2 rfl HH.out.2.2.1 (HH.out.2.2.2.2.2.1.below b3) (by have := HP.out; have := HH.out; simp; omega) b3.size ?_; intro v4 w4 o4 g4; have b4 : Below w.heap.size w w4 := bel_grown b3 o3 g4 (Nat.le_refl _) b3.size; obtain ⟨g', c', n', hv, hn'⟩ := own_some' o4 (by have := HP.out; have := HH.out; simp; omega); subst hv; have R : Nw w w4 (.returned (.slice (some ⟨g', 0, none⟩) n' c')) (z0 ++ z1 ++ z2) := ⟨g', c', _, rfl, by simpa using hn', by simpa using o4, b4⟩; clear o3 o4 g4 r2 hn')
  rw [rounds_succ]
  go_wp2
  go_ret
  exact R
set_option maxHeartbeats 4000000 in
theorem putCounted_any (gh gm nh nm ch cm : Nat) (zh zm : List Int) (w : World) (hh : nh = zh.length) (hm : nm = zm.length) (sh : Sl w (some ⟨gh, 0, none⟩) zh) (sm : Sl w (some ⟨gm, 0, none⟩) zm) (lh : nh ≤ 1000000) (lm : nm ≤ 1000000) :
    Calls Tryz.prog 51 #[.slice (some ⟨gh, 0, none⟩) nh ch, .slice (some ⟨gm, 0, none⟩) nm cm] w fun e w' => Nw w w' e (zh ++ [(nm : Int) % 256] ++ zm) := by
  obtain ⟨W1, hW1⟩ : ∃ W1, W1 = w.alloc (.cells #[.int .u8 ((nm : Int) % 256)] 5) := ⟨_, rfl⟩
  obtain ⟨W2, hW2⟩ : ∃ W2, W2 = W1.alloc (.cells #[.slice (some ⟨gh, 0, none⟩) nh ch, .slice (some ⟨w.heap.size, 0, none⟩) 1 1, .slice (some ⟨gm, 0, none⟩) nm cm] 22) := ⟨_, rfl⟩
  have B1 : Below w.heap.size w W1 := by rw [hW1]; exact bel_alloc _ _
  have B2' : Below W1.heap.size W1 W2 := by rw [hW2]; exact bel_alloc _ _
  have B2 := bel_next B1 B2'
  have hs1 : W1.heap.size = w.heap.size + 1 := by rw [hW1]; simp
  have X : Blk W2 (w.heap.size + 1) 22 #[.slice (some ⟨gh, 0, none⟩) nh ch, .slice (some ⟨w.heap.size, 0, none⟩) 1 1, .slice (some ⟨gm, 0, none⟩) nm cm] := by rw [hW2, ← hs1]; exact Blk.new _ _ _
  have s1 : Sl W2 (some ⟨w.heap.size, 0, none⟩) [(nm : Int) % 256] := Sl.below (by rw [hW1]; exact sl_lit1 _ _ rfl) B2'
  have HW : Hid (W2 = (w.alloc (.cells #[.int .u8 ((nm : Int) % 256)] 5)).alloc (.cells #[.slice (some ⟨gh, 0, none⟩) nh ch, .slice (some ⟨w.heap.size, 0, none⟩) 1 1, .slice (some ⟨gm, 0, none⟩) nm cm] 22)) := by rw [← hW1]; exact hW2
  have K := concat3 (w.heap.size + 1) ⟨gh, 0, none⟩ ⟨w.heap.size, 0, none⟩ ⟨gm, 0, none⟩ nh 1 nm ch 1 cm zh [(nm : Int) % 256] zm W2 (X.cell 0 rfl) (X.cell 1 rfl) (X.cell 2 rfl) X.lt hh rfl hm (sh.below B2) s1 (sm.below B2) (by omega) lh (by omega) lm
  have HK : Hid (Calls Tryz.prog 67 #[.slice (some ⟨w.heap.size + 1, 0, none⟩) 3 3] W2 fun e w' => Nw W2 w' e (zh ++ [(nm : Int) % 256] ++ zm)) := K
  clear K X s1 sh sm hh hm hW1 hW2 B1 B2' hs1
  go_enter Tryz.func51, Tryz.ntmps51
  go_wp2_with fail
  rw [← HW.out]
  refine HK.out.mono ?_
  rintro e w3 ⟨g, c, n, rfl, hn, o3, b3⟩
  have R : Nw w w3 (.returned (.slice (some ⟨g, 0, none⟩) n c)) (zh ++ [(nm : Int) % 256] ++ zm) := ⟨g, c, n, rfl, hn, own_mono o3 B2.size, bel_next B2 b3⟩
  clear hn o3 b3
  go_wp2
  go_ret
  exact R
end Go.Proofs.YtohikbpolofklaaGreatDoor
