/- Texts that the proof needs, joined: P7. -/
import Derived.Test.YtohikbpolofklaaGreatDoorV14
import Derived.Test.YtohikbpolofklaaGreatDoorV15
namespace Go.Proofs.YtohikbpolofklaaGreatDoor
open Go.RowKit
set_option linter.unusedVariables false
set_option linter.unusedSimpArgs false
set_option maxHeartbeats 2000000 in
theorem wordBytes_0 (w : World) : Calls Tryz.prog 53 #[.slice none 0 0] w fun e w' => ∃ g c, e = .returned (.slice (some ⟨g, 0, none⟩) 0 c) ∧ Below w.heap.size w w' := by
  obtain ⟨i0, hi, hz0, hz1, hz2⟩ := info_parts Tryz.info5
  go_enter Tryz.func53, Tryz.ntmps53
  go_wp2_with (at_make; refine wpList_make_own _ rfl (.const (.int .i64 0)) (.tmp 8) 22 rfl w.heap.size 5 i0 (.int .u8 0) 1 Tryz.underlying22 hi hz0 hz1 .i64 .i64 0 0 rfl rfl (by omega) (by rw [hz2]; omega) (by omega) (Nat.le_refl _) ?_; intro w0 o0 g0)
  have hb0 : Below w.heap.size w w0 := (Below.refl _ w).grown g0 (Nat.le_refl _) (fun k hk => by cases hk)
  go_loopw [3, 12] (fun v i wr => (∃ g c, v = .slice (some ⟨g, 0, none⟩) 0 c) ∧ i = .int .i64 0 ∧ Below w.heap.size w wr) (fun _ _ _ => 0)
  case atStart => exact ⟨⟨_, _, rfl⟩, rfl, hb0⟩
  case round =>
    obtain ⟨⟨g, c, rfl⟩, rfl, hb⟩ := hrel
    clear hb0 g0 o0
    go_wp2
    go_ret
    exact ⟨g, c, rfl, hb⟩
set_option maxHeartbeats 2000000 in
theorem putKind_0 (kd : Int) (w : World) :
    Calls Tryz.prog 49 #[.int .i64 kd, .slice none 0 0] w fun e w' => Nw w w' e [kd % 256] := by
  have B0 := bel_alloc w (.cells #[.int .u8 (kd % 256)] 5)
  have o0 := own_lit1 w (kd % 256) w.heap.size (Nat.le_refl _)
  go_enter Tryz.func49, Tryz.ntmps49
  go_wp2_with fail
  refine (wordBytes_0 _).mono ?_
  rintro e w1 ⟨g, c, rfl, b1'⟩
  have B1 := bel_next B0 b1'
  have o0' := o0.below b1'
  clear o0 b1' B0
  go_wp2_with (at_builtin; refine wpList_app rfl (.tmp 7) (.tmp 9) rfl w.heap.size (.slice (some ⟨w.heap.size, 0, none⟩) 1 1) [kd % 256] rfl o0' ⟨g, 0, none⟩ 0 c [] rfl rfl (.inl rfl) (by simp) B1.size ?_; intro v' w2 o2 g2; have B2 : Below w.heap.size w w2 := bel_grown B1 o0' g2 (Nat.le_refl _) B1.size; obtain ⟨g', c', hv, _, _⟩ := own_some o2 (by simp); subst hv; have R : Nw w w2 (.returned (.slice (some ⟨g', 0, none⟩) ([kd % 256] ++ []).length c')) [kd % 256] := ⟨g', c', _, rfl, rfl, o2, B2⟩; clear o2 g2 o0')
  go_ret
  exact R
set_option maxRecDepth 20000 in
set_option maxHeartbeats 8000000 in
theorem putAns_1 (pl nn : Int) (a1 a2 : Option Addr) (l1 l2 c1 c2 : Nat) (ws : List Int) (bs : List Bool) (w : World) (h1 : l1 = ws.length) (h2 : l2 = bs.length) (s1 : SlI w a1 ws) (s2 : SlB w a2 bs) (hl1 : ws.length ≤ 2000000) (hl2 : bs.length ≤ 2000000) (hb : okA 1 0 pl nn ws l1 l2 = true) :
    Calls Tryz.prog 47 #[rp 1 0 pl nn a1 a2 l1 l2 c1 c2] w fun e w' => Nw w w' e (putA 1 0 pl nn ws bs) := by
  obtain ⟨z1, hz1⟩ : ∃ z1, z1 = w.alloc (.cells #[.int .i64 1, .int .i64 0, .int .i64 pl, .int .i64 nn, .slice a1 l1 c1, .slice a2 l2 c2] 36) := ⟨_, rfl⟩
  have HZ : Hid (z1 = _) := hz1
  have Bz : Below w.heap.size w z1 := by rw [hz1]; exact bel_alloc w _
  have Xz : Blk z1 w.heap.size 36 #[.int .i64 1, .int .i64 0, .int .i64 pl, .int .i64 nn, .slice a1 l1 c1, .slice a2 l2 c2] := by rw [hz1]; exact Blk.new w _ _
  have H1 : Hid (l1 = ws.length ∧ l2 = bs.length) := ⟨h1, h2⟩
  have S1 : Hid (SlI w a1 ws ∧ SlB w a2 bs) := ⟨s1, s2⟩
  obtain ⟨x0, x1, x2, x3, x4, x5⟩ := Xz.six
  have HOK : Hid (okA 1 0 pl nn ws l1 l2 = true) := hb
  have dz : Below z1.heap.size z1 z1.drew := (Below.refl _ _).drew
  clear h1 h2 s1 s2 hb hz1
  have HLn : Hid (1 ≤ l2 ∧ l2 ≤ 2000) := by show 1 ≤ l2 ∧ l2 ≤ 2000; have hb := HOK.out; simp [okA, okAK, kindB, inB, zr4] at hb; omega
  go_enter Tryz.func47, Tryz.ntmps47
  go_upto_region 1 with fail
  rw [← HZ.out]
  go_upto_region 6 with fail
  go_region_held3 (fun w' => w'.cell? ⟨w.heap.size, 0, none⟩ = some (.int .i64 1) ∧ w'.cell? ⟨w.heap.size, 5, none⟩ = some (.slice a2 l2 c2)) (go_keep)
    (first
      | (go_at_call 49; refine (putKind_0 1 _).mono ?_; rintro e wA ⟨gA, cA, nA, rfl, hnA, oA, bA⟩; have HnA : Hid _ := hnA; have BA := bel_next (w0 := w) (by first | exact Bz | exact Bz.drew) bA; have XA := Blk.below (by first | exact Xz | exact Xz.below dz) bA; have kA0 := XA.cell 0 rfl; have kA1 := XA.cell 5 rfl; clear hnA)
      | (go_at_call 52; refine (implPack_nw _ _ _ bs _ H1.out.2 (S1.out.2.below BA) (by have := HLn.out; omega)).mono ?_; rintro e wP ⟨gP, cP, nP, rfl, hnP, oP, bP⟩; have HnP : Hid _ := hnP; have BP := bel_next BA bP; have XP := XA.below bP; have kP0 := XP.cell 0 rfl; have kP1 := XP.cell 5 rfl; clear hnP)
      | (go_at_call 51; refine (putCounted_any _ _ _ _ _ _ [1 % 256] (packL bs) _ HnA.out HnP.out (oA.below bP).sl.2 oP.sl.2 (by have := HnA.out; simp at this; omega) (by have := HnP.out; have := HLn.out; have := H1.out; rw [packL_length] at *; omega)).mono ?_; rintro e w3 h3; have X3 := XP.below h3.bel; have k30 := X3.cell 0 rfl; have k31 := X3.cell 5 rfl; replace h3 := nw_next BP h3; obtain ⟨g, c, n, rfl, h4⟩ := h3; have H3 : Hid _ := h4; clear h4))
  all_goals (go_wp2; go_ret; have e3 : [1 % 256] ++ [(nP : Int) % 256] ++ packL bs = putA 1 0 pl nn ws bs := (by rw [HnP.out, packL_length]; rfl); rw [← e3]; exact ⟨g, c, n, rfl, H3.out⟩)
set_option maxRecDepth 20000 in
set_option maxHeartbeats 8000000 in
theorem putAns_2 (pl nn : Int) (a1 a2 : Option Addr) (l1 l2 c1 c2 : Nat) (ws : List Int) (bs : List Bool) (w : World) (h1 : l1 = ws.length) (h2 : l2 = bs.length) (s1 : SlI w a1 ws) (s2 : SlB w a2 bs) (hl1 : ws.length ≤ 2000000) (hl2 : bs.length ≤ 2000000) (hb : okA 2 0 pl nn ws l1 l2 = true) :
    Calls Tryz.prog 47 #[rp 2 0 pl nn a1 a2 l1 l2 c1 c2] w fun e w' => Nw w w' e (putA 2 0 pl nn ws bs) := by
  obtain ⟨z1, hz1⟩ : ∃ z1, z1 = w.alloc (.cells #[.int .i64 2, .int .i64 0, .int .i64 pl, .int .i64 nn, .slice a1 l1 c1, .slice a2 l2 c2] 36) := ⟨_, rfl⟩
  have HZ : Hid (z1 = _) := hz1
  have Bz : Below w.heap.size w z1 := by rw [hz1]; exact bel_alloc w _
  have Xz : Blk z1 w.heap.size 36 #[.int .i64 2, .int .i64 0, .int .i64 pl, .int .i64 nn, .slice a1 l1 c1, .slice a2 l2 c2] := by rw [hz1]; exact Blk.new w _ _
  have H1 : Hid (l1 = ws.length ∧ l2 = bs.length) := ⟨h1, h2⟩
  have S1 : Hid (SlI w a1 ws ∧ SlB w a2 bs) := ⟨s1, s2⟩
  obtain ⟨x0, x1, x2, x3, x4, x5⟩ := Xz.six
  have HOK : Hid (okA 2 0 pl nn ws l1 l2 = true) := hb
  have dz : Below z1.heap.size z1 z1.drew := (Below.refl _ _).drew
  clear h1 h2 s1 s2 hb hz1
  have HLn : Hid (1 ≤ l2 ∧ l2 ≤ 2000) := by show 1 ≤ l2 ∧ l2 ≤ 2000; have hb := HOK.out; simp [okA, okAK, kindB, inB, zr4] at hb; omega
  go_enter Tryz.func47, Tryz.ntmps47
  go_upto_region 1 with fail
  rw [← HZ.out]
  go_upto_region 6 with fail
  go_region_held3 (fun w' => w'.cell? ⟨w.heap.size, 0, none⟩ = some (.int .i64 2) ∧ w'.cell? ⟨w.heap.size, 5, none⟩ = some (.slice a2 l2 c2)) (go_keep)
    (first
      | (go_at_call 49; refine (putKind_0 2 _).mono ?_; rintro e wA ⟨gA, cA, nA, rfl, hnA, oA, bA⟩; have HnA : Hid _ := hnA; have BA := bel_next (w0 := w) (by first | exact Bz | exact Bz.drew) bA; have XA := Blk.below (by first | exact Xz | exact Xz.below dz) bA; have kA0 := XA.cell 0 rfl; have kA1 := XA.cell 5 rfl; clear hnA)
      | (go_at_call 52; refine (implPack_nw _ _ _ bs _ H1.out.2 (S1.out.2.below BA) (by have := HLn.out; omega)).mono ?_; rintro e wP ⟨gP, cP, nP, rfl, hnP, oP, bP⟩; have HnP : Hid _ := hnP; have BP := bel_next BA bP; have XP := XA.below bP; have kP0 := XP.cell 0 rfl; have kP1 := XP.cell 5 rfl; clear hnP)
      | (go_at_call 51; refine (putCounted_any _ _ _ _ _ _ [2 % 256] (packL bs) _ HnA.out HnP.out (oA.below bP).sl.2 oP.sl.2 (by have := HnA.out; simp at this; omega) (by have := HnP.out; have := HLn.out; have := H1.out; rw [packL_length] at *; omega)).mono ?_; rintro e w3 h3; have X3 := XP.below h3.bel; have k30 := X3.cell 0 rfl; have k31 := X3.cell 5 rfl; replace h3 := nw_next BP h3; obtain ⟨g, c, n, rfl, h4⟩ := h3; have H3 : Hid _ := h4; clear h4))
  all_goals (go_wp2; go_ret; have e3 : [2 % 256] ++ [(nP : Int) % 256] ++ packL bs = putA 2 0 pl nn ws bs := (by rw [HnP.out, packL_length]; rfl); rw [← e3]; exact ⟨g, c, n, rfl, H3.out⟩)
set_option maxRecDepth 20000 in
set_option maxHeartbeats 8000000 in
theorem putAns_3 (pl nn : Int) (a1 a2 : Option Addr) (l1 l2 c1 c2 : Nat) (ws : List Int) (bs : List Bool) (w : World) (h1 : l1 = ws.length) (h2 : l2 = bs.length) (s1 : SlI w a1 ws) (s2 : SlB w a2 bs) (hl1 : ws.length ≤ 2000000) (hl2 : bs.length ≤ 2000000) (hb : okA 3 0 pl nn ws l1 l2 = true) :
    Calls Tryz.prog 47 #[rp 3 0 pl nn a1 a2 l1 l2 c1 c2] w fun e w' => Nw w w' e (putA 3 0 pl nn ws bs) := by
  obtain ⟨z1, hz1⟩ : ∃ z1, z1 = w.alloc (.cells #[.int .i64 3, .int .i64 0, .int .i64 pl, .int .i64 nn, .slice a1 l1 c1, .slice a2 l2 c2] 36) := ⟨_, rfl⟩
  have HZ : Hid (z1 = _) := hz1
  have Bz : Below w.heap.size w z1 := by rw [hz1]; exact bel_alloc w _
  have Xz : Blk z1 w.heap.size 36 #[.int .i64 3, .int .i64 0, .int .i64 pl, .int .i64 nn, .slice a1 l1 c1, .slice a2 l2 c2] := by rw [hz1]; exact Blk.new w _ _
  have H1 : Hid (l1 = ws.length ∧ l2 = bs.length) := ⟨h1, h2⟩
  have S1 : Hid (SlI w a1 ws ∧ SlB w a2 bs) := ⟨s1, s2⟩
  obtain ⟨x0, x1, x2, x3, x4, x5⟩ := Xz.six
  have HOK : Hid (okA 3 0 pl nn ws l1 l2 = true) := hb
  have dz : Below z1.heap.size z1 z1.drew := (Below.refl _ _).drew
  clear h1 h2 s1 s2 hb hz1
  have HLn : Hid (1 ≤ l1 ∧ l1 ≤ 125) := by show 1 ≤ l1 ∧ l1 ≤ 125; have hb := HOK.out; simp [okA, okAK, kindB, inB, zr4] at hb; omega
  go_enter Tryz.func47, Tryz.ntmps47
  go_upto_region 1 with fail
  rw [← HZ.out]
  go_upto_region 10 with fail
  go_region_held3 (fun w' => w'.cell? ⟨w.heap.size, 0, none⟩ = some (.int .i64 3) ∧ w'.cell? ⟨w.heap.size, 4, none⟩ = some (.slice a1 l1 c1)) (go_keep)
    (first
      | (go_at_call 49; refine (putKind_0 3 _).mono ?_; rintro e wA ⟨gA, cA, nA, rfl, hnA, oA, bA⟩; have HnA : Hid _ := hnA; have BA := bel_next (w0 := w) (by first | exact Bz | exact Bz.drew) bA; have XA := Blk.below (by first | exact Xz | exact Xz.below dz) bA; have kA0 := XA.cell 0 rfl; have kA1 := XA.cell 4 rfl; clear hnA)
      | (go_at_call 53; refine (wordBytes_any _ _ _ ws _ H1.out.1 (S1.out.1.below BA) (by have := H1.out; have := HLn.out; omega) (by have := H1.out; have := HLn.out; omega)).mono ?_; rintro e wP ⟨gP, cP, nP, rfl, hnP, oP, bP⟩; have HnP : Hid _ := hnP; have BP := bel_next BA bP; have XP := XA.below bP; have kP0 := XP.cell 0 rfl; have kP1 := XP.cell 4 rfl; clear hnP)
      | (go_at_call 51; refine (putCounted_any _ _ _ _ _ _ [3 % 256] (wbs ws) _ HnA.out HnP.out (oA.below bP).sl.2 oP.sl.2 (by have := HnA.out; simp at this; omega) (by have := HnP.out; have := HLn.out; have := H1.out; rw [wbs_length] at *; omega)).mono ?_; rintro e w3 h3; have X3 := XP.below h3.bel; have k30 := X3.cell 0 rfl; have k31 := X3.cell 4 rfl; replace h3 := nw_next BP h3; obtain ⟨g, c, n, rfl, h4⟩ := h3; have H3 : Hid _ := h4; clear h4))
  all_goals (go_wp2; go_ret; have e3 : [3 % 256] ++ [(nP : Int) % 256] ++ wbs ws = putA 3 0 pl nn ws bs := (by rw [HnP.out, wbs_length]; rfl); rw [← e3]; exact ⟨g, c, n, rfl, H3.out⟩)
set_option maxRecDepth 20000 in
set_option maxHeartbeats 8000000 in
theorem putAns_4 (pl nn : Int) (a1 a2 : Option Addr) (l1 l2 c1 c2 : Nat) (ws : List Int) (bs : List Bool) (w : World) (h1 : l1 = ws.length) (h2 : l2 = bs.length) (s1 : SlI w a1 ws) (s2 : SlB w a2 bs) (hl1 : ws.length ≤ 2000000) (hl2 : bs.length ≤ 2000000) (hb : okA 4 0 pl nn ws l1 l2 = true) :
    Calls Tryz.prog 47 #[rp 4 0 pl nn a1 a2 l1 l2 c1 c2] w fun e w' => Nw w w' e (putA 4 0 pl nn ws bs) := by
  obtain ⟨z1, hz1⟩ : ∃ z1, z1 = w.alloc (.cells #[.int .i64 4, .int .i64 0, .int .i64 pl, .int .i64 nn, .slice a1 l1 c1, .slice a2 l2 c2] 36) := ⟨_, rfl⟩
  have HZ : Hid (z1 = _) := hz1
  have Bz : Below w.heap.size w z1 := by rw [hz1]; exact bel_alloc w _
  have Xz : Blk z1 w.heap.size 36 #[.int .i64 4, .int .i64 0, .int .i64 pl, .int .i64 nn, .slice a1 l1 c1, .slice a2 l2 c2] := by rw [hz1]; exact Blk.new w _ _
  have H1 : Hid (l1 = ws.length ∧ l2 = bs.length) := ⟨h1, h2⟩
  have S1 : Hid (SlI w a1 ws ∧ SlB w a2 bs) := ⟨s1, s2⟩
  obtain ⟨x0, x1, x2, x3, x4, x5⟩ := Xz.six
  have HOK : Hid (okA 4 0 pl nn ws l1 l2 = true) := hb
  have dz : Below z1.heap.size z1 z1.drew := (Below.refl _ _).drew
  clear h1 h2 s1 s2 hb hz1
  have HLn : Hid (1 ≤ l1 ∧ l1 ≤ 125) := by show 1 ≤ l1 ∧ l1 ≤ 125; have hb := HOK.out; simp [okA, okAK, kindB, inB, zr4] at hb; omega
  go_enter Tryz.func47, Tryz.ntmps47
  go_upto_region 1 with fail
  rw [← HZ.out]
  go_upto_region 10 with fail
  go_region_held3 (fun w' => w'.cell? ⟨w.heap.size, 0, none⟩ = some (.int .i64 4) ∧ w'.cell? ⟨w.heap.size, 4, none⟩ = some (.slice a1 l1 c1)) (go_keep)
    (first
      | (go_at_call 49; refine (putKind_0 4 _).mono ?_; rintro e wA ⟨gA, cA, nA, rfl, hnA, oA, bA⟩; have HnA : Hid _ := hnA; have BA := bel_next (w0 := w) (by first | exact Bz | exact Bz.drew) bA; have XA := Blk.below (by first | exact Xz | exact Xz.below dz) bA; have kA0 := XA.cell 0 rfl; have kA1 := XA.cell 4 rfl; clear hnA)
      | (go_at_call 53; refine (wordBytes_any _ _ _ ws _ H1.out.1 (S1.out.1.below BA) (by have := H1.out; have := HLn.out; omega) (by have := H1.out; have := HLn.out; omega)).mono ?_; rintro e wP ⟨gP, cP, nP, rfl, hnP, oP, bP⟩; have HnP : Hid _ := hnP; have BP := bel_next BA bP; have XP := XA.below bP; have kP0 := XP.cell 0 rfl; have kP1 := XP.cell 4 rfl; clear hnP)
      | (go_at_call 51; refine (putCounted_any _ _ _ _ _ _ [4 % 256] (wbs ws) _ HnA.out HnP.out (oA.below bP).sl.2 oP.sl.2 (by have := HnA.out; simp at this; omega) (by have := HnP.out; have := HLn.out; have := H1.out; rw [wbs_length] at *; omega)).mono ?_; rintro e w3 h3; have X3 := XP.below h3.bel; have k30 := X3.cell 0 rfl; have k31 := X3.cell 4 rfl; replace h3 := nw_next BP h3; obtain ⟨g, c, n, rfl, h4⟩ := h3; have H3 : Hid _ := h4; clear h4))
  all_goals (go_wp2; go_ret; have e3 : [4 % 256] ++ [(nP : Int) % 256] ++ wbs ws = putA 4 0 pl nn ws bs := (by rw [HnP.out, wbs_length]; rfl); rw [← e3]; exact ⟨g, c, n, rfl, H3.out⟩)
set_option maxRecDepth 20000 in
set_option maxHeartbeats 8000000 in
theorem putAns_5 (pl nn : Int) (a1 a2 : Option Addr) (l1 l2 c1 c2 : Nat) (ws : List Int) (bs : List Bool) (w : World) (h1 : l1 = ws.length) (h2 : l2 = bs.length) (s1 : SlI w a1 ws) (s2 : SlB w a2 bs) (hl1 : ws.length ≤ 2000000) (hl2 : bs.length ≤ 2000000) (hb : okA 5 0 pl nn ws l1 l2 = true) :
    Calls Tryz.prog 47 #[rp 5 0 pl nn a1 a2 l1 l2 c1 c2] w fun e w' => Nw w w' e (putA 5 0 pl nn ws bs) := by
  obtain ⟨z1, hz1⟩ : ∃ z1, z1 = w.alloc (.cells #[.int .i64 5, .int .i64 0, .int .i64 pl, .int .i64 nn, .slice a1 l1 c1, .slice a2 l2 c2] 36) := ⟨_, rfl⟩
  have HZ : Hid (z1 = _) := hz1
  have Bz : Below w.heap.size w z1 := by rw [hz1]; exact bel_alloc w _
  have Xz : Blk z1 w.heap.size 36 #[.int .i64 5, .int .i64 0, .int .i64 pl, .int .i64 nn, .slice a1 l1 c1, .slice a2 l2 c2] := by rw [hz1]; exact Blk.new w _ _
  have H1 : Hid (l1 = ws.length ∧ l2 = bs.length) := ⟨h1, h2⟩
  have S1 : Hid (SlI w a1 ws ∧ SlB w a2 bs) := ⟨s1, s2⟩
  obtain ⟨x0, x1, x2, x3, x4, x5⟩ := Xz.six
  have HOK : Hid (okA 5 0 pl nn ws l1 l2 = true) := hb
  have dz : Below z1.heap.size z1 z1.drew := (Below.refl _ _).drew
  clear h1 h2 s1 s2 hb hz1
  have HLn : Hid (l2 = 1) := by show l2 = 1; have hb := HOK.out; simp [okA, okAK, kindB, inB, zr4] at hb; omega
  obtain rfl : l2 = 1 := HLn.out
  obtain ⟨bk, off, ea, hbk, hc⟩ := cell_atB (S1.out.2.below Bz) (show 0 < bs.length by have := H1.out; omega)
  have hc0 : z1.cell? ⟨bk, off, none⟩ = some (.bool (bs.getD 0 false)) := by simpa using hc
  subst ea
  clear hc
  generalize hx : bs.getD 0 false = x at *
  have E3 : Hid (5 % 256 :: wbs [pl, bif x then 65280 else 0] = putA 5 0 pl nn ws bs) := by show _ = _; unfold putA; rw [hx]; rfl
  go_enter Tryz.func47, Tryz.ntmps47
  go_upto_region 1 with fail
  rw [← HZ.out]
  go_upto_region 12 with fail
  have q1 : Below w.heap.size w (z1.drew.alloc (.cells #[.int .i64 pl, .int .i64 (bif x then 65280 else 0)] 3)) := bel_next Bz.drew (bel_alloc _ _)
  have q2 : Below w.heap.size w (z1.alloc (.cells #[.int .i64 pl, .int .i64 (bif x then 65280 else 0)] 3)).drew := (bel_next Bz (bel_alloc _ _)).drew
  go_region_held3 (fun w' => w'.cell? ⟨w.heap.size, 0, none⟩ = some (.int .i64 5) ∧ w'.cell? ⟨w.heap.size, 2, none⟩ = some (.int .i64 pl) ∧ w'.cell? ⟨w.heap.size, 5, none⟩ = some (.slice (some ⟨bk, off, none⟩) 1 c2) ∧ w'.cell? ⟨bk, off, none⟩ = some (.bool x)) (go_keep)
    (first
      | (go_at_call 50; refine (coilWord_any x _).mono ?_; rintro e wx ⟨rfl, rfl⟩)
      | (go_at_call 49; refine (putKind_any 5 _ _ _ [pl, bif x then 65280 else 0] _ rfl (by first | exact lit_slI2 _ _ _ rfl | exact (lit_slI2 z1 _ _ rfl).below (Below.refl _ _).drew) (by simp) (by simp)).mono ?_; rintro e w3 h3; have b3 : Below z1.heap.size z1 w3 := bel_next (by first | exact bel_next dz (bel_alloc _ _) | exact bel_next (bel_alloc _ _) (Below.refl _ _).drew) h3.bel; have X3 := Xz.below b3; have k30 := X3.cell 0 rfl; have k32 := X3.cell 2 rfl; have k35 := X3.cell 5 rfl; have k3b : w3.cell? ⟨bk, off, none⟩ = some (.bool x) := (b3.cell (p := ⟨bk, off, none⟩) hbk).trans hc0; replace h3 := nw_next (by first | exact q1 | exact q2) h3; obtain ⟨g, c, n, rfl, h4⟩ := h3; have H3 : Hid _ := h4; clear h4))
  all_goals (go_wp2; go_ret; rw [← E3.out]; exact ⟨g, c, n, rfl, H3.out⟩)
set_option maxRecDepth 20000 in
set_option maxHeartbeats 8000000 in
theorem putAns_6 (pl nn : Int) (a1 a2 : Option Addr) (l1 l2 c1 c2 : Nat) (ws : List Int) (bs : List Bool) (w : World) (h1 : l1 = ws.length) (h2 : l2 = bs.length) (s1 : SlI w a1 ws) (s2 : SlB w a2 bs) (hl1 : ws.length ≤ 2000000) (hl2 : bs.length ≤ 2000000) (hb : okA 6 0 pl nn ws l1 l2 = true) :
    Calls Tryz.prog 47 #[rp 6 0 pl nn a1 a2 l1 l2 c1 c2] w fun e w' => Nw w w' e (putA 6 0 pl nn ws bs) := by
  obtain ⟨z1, hz1⟩ : ∃ z1, z1 = w.alloc (.cells #[.int .i64 6, .int .i64 0, .int .i64 pl, .int .i64 nn, .slice a1 l1 c1, .slice a2 l2 c2] 36) := ⟨_, rfl⟩
  have HZ : Hid (z1 = _) := hz1
  have Bz : Below w.heap.size w z1 := by rw [hz1]; exact bel_alloc w _
  have Xz : Blk z1 w.heap.size 36 #[.int .i64 6, .int .i64 0, .int .i64 pl, .int .i64 nn, .slice a1 l1 c1, .slice a2 l2 c2] := by rw [hz1]; exact Blk.new w _ _
  have H1 : Hid (l1 = ws.length ∧ l2 = bs.length) := ⟨h1, h2⟩
  have S1 : Hid (SlI w a1 ws ∧ SlB w a2 bs) := ⟨s1, s2⟩
  obtain ⟨x0, x1, x2, x3, x4, x5⟩ := Xz.six
  have HOK : Hid (okA 6 0 pl nn ws l1 l2 = true) := hb
  have dz : Below z1.heap.size z1 z1.drew := (Below.refl _ _).drew
  clear h1 h2 s1 s2 hb hz1
  have HLn : Hid (l1 = 1) := by show l1 = 1; have hb := HOK.out; simp [okA, okAK, kindB, inB, zr4] at hb; omega
  obtain rfl : l1 = 1 := HLn.out
  obtain ⟨bk, off, ea, hbk, hc⟩ := cell_atI (S1.out.1.below Bz) (show 0 < ws.length by have := H1.out; omega)
  have hc0 : z1.cell? ⟨bk, off, none⟩ = some (.int .i64 (ws.getD 0 0)) := by simpa using hc
  subst ea
  clear hc
  have E3 : Hid (6 % 256 :: wbs [pl, ws.getD 0 0] = putA 6 0 pl nn ws bs) := by
    show _ = _
    match ws, H1.out.1 with
    | [x], _ => rfl
  generalize ws.getD 0 0 = x at *
  go_enter Tryz.func47, Tryz.ntmps47
  go_upto_region 1 with fail
  rw [← HZ.out]
  go_upto_region 14 with fail
  have q1 : Below w.heap.size w (z1.drew.alloc (.cells #[.int .i64 pl, .int .i64 x] 3)) := bel_next Bz.drew (bel_alloc _ _)
  have q2 : Below w.heap.size w (z1.alloc (.cells #[.int .i64 pl, .int .i64 x] 3)).drew := (bel_next Bz (bel_alloc _ _)).drew
  go_region_held3 (fun w' => w'.cell? ⟨w.heap.size, 0, none⟩ = some (.int .i64 6) ∧ w'.cell? ⟨w.heap.size, 2, none⟩ = some (.int .i64 pl) ∧ w'.cell? ⟨w.heap.size, 4, none⟩ = some (.slice (some ⟨bk, off, none⟩) 1 c1) ∧ w'.cell? ⟨bk, off, none⟩ = some (.int .i64 x)) (go_keep)
    (first
      | (go_at_call 49; refine (putKind_any 6 _ _ _ [pl, x] _ rfl (by first | exact lit_slI2 _ _ _ rfl | exact (lit_slI2 z1 _ _ rfl).below (Below.refl _ _).drew) (by simp) (by simp)).mono ?_; rintro e w3 h3; have b3 : Below z1.heap.size z1 w3 := bel_next (by first | exact bel_next dz (bel_alloc _ _) | exact bel_next (bel_alloc _ _) (Below.refl _ _).drew) h3.bel; have X3 := Xz.below b3; have k30 := X3.cell 0 rfl; have k32 := X3.cell 2 rfl; have k34 := X3.cell 4 rfl; have k3b : w3.cell? ⟨bk, off, none⟩ = some (.int .i64 x) := (b3.cell (p := ⟨bk, off, none⟩) hbk).trans hc0; replace h3 := nw_next (by first | exact q1 | exact q2) h3; obtain ⟨g, c, n, rfl, h4⟩ := h3; have H3 : Hid _ := h4; clear h4)
      | fail)
  all_goals (go_wp2; go_ret; rw [← E3.out]; exact ⟨g, c, n, rfl, H3.out⟩)
set_option maxRecDepth 20000 in
set_option maxHeartbeats 8000000 in
theorem putAns_15 (pl nn : Int) (a1 a2 : Option Addr) (l1 l2 c1 c2 : Nat) (ws : List Int) (bs : List Bool) (w : World) (h1 : l1 = ws.length) (h2 : l2 = bs.length) (s1 : SlI w a1 ws) (s2 : SlB w a2 bs) (hl1 : ws.length ≤ 2000000) (hl2 : bs.length ≤ 2000000) (hb : okA 15 0 pl nn ws l1 l2 = true) :
    Calls Tryz.prog 47 #[rp 15 0 pl nn a1 a2 l1 l2 c1 c2] w fun e w' => Nw w w' e (putA 15 0 pl nn ws bs) := by
  obtain ⟨z1, hz1⟩ : ∃ z1, z1 = w.alloc (.cells #[.int .i64 15, .int .i64 0, .int .i64 pl, .int .i64 nn, .slice a1 l1 c1, .slice a2 l2 c2] 36) := ⟨_, rfl⟩
  have HZ : Hid (z1 = _) := hz1
  have Bz : Below w.heap.size w z1 := by rw [hz1]; exact bel_alloc w _
  have Xz : Blk z1 w.heap.size 36 #[.int .i64 15, .int .i64 0, .int .i64 pl, .int .i64 nn, .slice a1 l1 c1, .slice a2 l2 c2] := by rw [hz1]; exact Blk.new w _ _
  have H1 : Hid (l1 = ws.length ∧ l2 = bs.length) := ⟨h1, h2⟩
  have S1 : Hid (SlI w a1 ws ∧ SlB w a2 bs) := ⟨s1, s2⟩
  obtain ⟨x0, x1, x2, x3, x4, x5⟩ := Xz.six
  have HOK : Hid (okA 15 0 pl nn ws l1 l2 = true) := hb
  have dz : Below z1.heap.size z1 z1.drew := (Below.refl _ _).drew
  clear h1 h2 s1 s2 hb hz1
  have q1 := bel_next Bz (bel_alloc z1 (.cells #[.int .i64 pl, .int .i64 nn] 3))
  go_enter Tryz.func47, Tryz.ntmps47
  go_upto_region 1 with fail
  rw [← HZ.out]
  go_wp2_with fail
  refine (putKind_any 15 _ _ _ [pl, nn] _ rfl (lit_slI2 _ _ _ rfl) (by simp) (by simp)).mono ?_
  rintro e w3 h3
  replace h3 := nw_next q1 h3
  obtain ⟨g, c, n, rfl, h4⟩ := h3
  have H3 : Hid _ := h4
  clear h4
  go_wp2
  go_ret
  exact ⟨g, c, n, rfl, H3.out⟩
set_option maxRecDepth 20000 in
set_option maxHeartbeats 8000000 in
theorem putAns_16 (pl nn : Int) (a1 a2 : Option Addr) (l1 l2 c1 c2 : Nat) (ws : List Int) (bs : List Bool) (w : World) (h1 : l1 = ws.length) (h2 : l2 = bs.length) (s1 : SlI w a1 ws) (s2 : SlB w a2 bs) (hl1 : ws.length ≤ 2000000) (hl2 : bs.length ≤ 2000000) (hb : okA 16 0 pl nn ws l1 l2 = true) :
    Calls Tryz.prog 47 #[rp 16 0 pl nn a1 a2 l1 l2 c1 c2] w fun e w' => Nw w w' e (putA 16 0 pl nn ws bs) := by
  obtain ⟨z1, hz1⟩ : ∃ z1, z1 = w.alloc (.cells #[.int .i64 16, .int .i64 0, .int .i64 pl, .int .i64 nn, .slice a1 l1 c1, .slice a2 l2 c2] 36) := ⟨_, rfl⟩
  have HZ : Hid (z1 = _) := hz1
  have Bz : Below w.heap.size w z1 := by rw [hz1]; exact bel_alloc w _
  have Xz : Blk z1 w.heap.size 36 #[.int .i64 16, .int .i64 0, .int .i64 pl, .int .i64 nn, .slice a1 l1 c1, .slice a2 l2 c2] := by rw [hz1]; exact Blk.new w _ _
  have H1 : Hid (l1 = ws.length ∧ l2 = bs.length) := ⟨h1, h2⟩
  have S1 : Hid (SlI w a1 ws ∧ SlB w a2 bs) := ⟨s1, s2⟩
  obtain ⟨x0, x1, x2, x3, x4, x5⟩ := Xz.six
  have HOK : Hid (okA 16 0 pl nn ws l1 l2 = true) := hb
  have dz : Below z1.heap.size z1 z1.drew := (Below.refl _ _).drew
  clear h1 h2 s1 s2 hb hz1
  have q1 := bel_next Bz (bel_alloc z1 (.cells #[.int .i64 pl, .int .i64 nn] 3))
  go_enter Tryz.func47, Tryz.ntmps47
  go_upto_region 1 with fail
  rw [← HZ.out]
  go_wp2_with fail
  refine (putKind_any 16 _ _ _ [pl, nn] _ rfl (lit_slI2 _ _ _ rfl) (by simp) (by simp)).mono ?_
  rintro e w3 h3
  replace h3 := nw_next q1 h3
  obtain ⟨g, c, n, rfl, h4⟩ := h3
  have H3 : Hid _ := h4
  clear h4
  go_wp2
  go_ret
  exact ⟨g, c, n, rfl, H3.out⟩
set_option maxRecDepth 20000 in
set_option maxHeartbeats 8000000 in
theorem putAns_22 (pl nn : Int) (a1 a2 : Option Addr) (l1 l2 c1 c2 : Nat) (ws : List Int) (bs : List Bool) (w : World) (h1 : l1 = ws.length) (h2 : l2 = bs.length) (s1 : SlI w a1 ws) (s2 : SlB w a2 bs) (hl1 : ws.length ≤ 2000000) (hl2 : bs.length ≤ 2000000) (hb : okA 22 0 pl nn ws l1 l2 = true) :
    Calls Tryz.prog 47 #[rp 22 0 pl nn a1 a2 l1 l2 c1 c2] w fun e w' => Nw w w' e (putA 22 0 pl nn ws bs) := by
  obtain ⟨z1, hz1⟩ : ∃ z1, z1 = w.alloc (.cells #[.int .i64 22, .int .i64 0, .int .i64 pl, .int .i64 nn, .slice a1 l1 c1, .slice a2 l2 c2] 36) := ⟨_, rfl⟩
  have HZ : Hid (z1 = _) := hz1
  have Bz : Below w.heap.size w z1 := by rw [hz1]; exact bel_alloc w _
  have Xz : Blk z1 w.heap.size 36 #[.int .i64 22, .int .i64 0, .int .i64 pl, .int .i64 nn, .slice a1 l1 c1, .slice a2 l2 c2] := by rw [hz1]; exact Blk.new w _ _
  have H1 : Hid (l1 = ws.length ∧ l2 = bs.length) := ⟨h1, h2⟩
  have S1 : Hid (SlI w a1 ws ∧ SlB w a2 bs) := ⟨s1, s2⟩
  obtain ⟨x0, x1, x2, x3, x4, x5⟩ := Xz.six
  have HOK : Hid (okA 22 0 pl nn ws l1 l2 = true) := hb
  have dz : Below z1.heap.size z1 z1.drew := (Below.refl _ _).drew
  clear h1 h2 s1 s2 hb hz1
  have HLn : Hid (l1 = 2) := by show l1 = 2; have hb := HOK.out; simp [okA, okAK, kindB, inB, zr4] at hb; omega
  obtain rfl : l1 = 2 := HLn.out
  obtain ⟨bk, off, ea, hbk, hc⟩ := cell_atI (S1.out.1.below Bz) (show 0 < ws.length by have := H1.out; omega)
  have hc0 : z1.cell? ⟨bk, off, none⟩ = some (.int .i64 (ws.getD 0 0)) := by simpa using hc
  obtain ⟨bk1, off1, ea1, _, hc1⟩ := cell_atI (S1.out.1.below Bz) (show 1 < ws.length by have := H1.out; omega)
  rw [ea] at ea1
  simp at ea1
  obtain ⟨rfl, rfl⟩ := ea1
  subst ea
  clear hc
  have E3 : Hid (22 % 256 :: wbs [pl, ws.getD 0 0, ws.getD 1 0] = putA 22 0 pl nn ws bs) := by
    show _ = _
    match ws, H1.out.1 with
    | [x, y], _ => rfl
  generalize ws.getD 0 0 = x at *
  generalize ws.getD 1 0 = y at *
  go_enter Tryz.func47, Tryz.ntmps47
  go_upto_region 1 with fail
  rw [← HZ.out]
  go_upto_region 16 with fail
  have q1 : Below w.heap.size w (z1.drew.alloc (.cells #[.int .i64 pl, .int .i64 x, .int .i64 y] 3)) := bel_next Bz.drew (bel_alloc _ _)
  have q2 : Below w.heap.size w (z1.alloc (.cells #[.int .i64 pl, .int .i64 x, .int .i64 y] 3)).drew := (bel_next Bz (bel_alloc _ _)).drew
  go_region_held3 (fun w' => w'.cell? ⟨w.heap.size, 0, none⟩ = some (.int .i64 22) ∧ w'.cell? ⟨w.heap.size, 2, none⟩ = some (.int .i64 pl) ∧ w'.cell? ⟨w.heap.size, 4, none⟩ = some (.slice (some ⟨bk, off, none⟩) 2 c1) ∧ w'.cell? ⟨bk, off, none⟩ = some (.int .i64 x) ∧ w'.cell? ⟨bk, off + 1, none⟩ = some (.int .i64 y)) (go_keep)
    (first
      | (go_at_call 49; refine (putKind_any 22 _ _ _ [pl, x, y] _ rfl (by first | exact lit_slI3 _ _ _ _ rfl | exact (lit_slI3 z1 _ _ _ rfl).below (Below.refl _ _).drew) (by simp) (by simp)).mono ?_; rintro e w3 h3; have b3 : Below z1.heap.size z1 w3 := bel_next (by first | exact bel_next dz (bel_alloc _ _) | exact bel_next (bel_alloc _ _) (Below.refl _ _).drew) h3.bel; have X3 := Xz.below b3; have k30 := X3.cell 0 rfl; have k32 := X3.cell 2 rfl; have k34 := X3.cell 4 rfl; have k3b : w3.cell? ⟨bk, off, none⟩ = some (.int .i64 x) := (b3.cell (p := ⟨bk, off, none⟩) hbk).trans hc0; have k3c : w3.cell? ⟨bk, off + 1, none⟩ = some (.int .i64 y) := (b3.cell (p := ⟨bk, off + 1, none⟩) hbk).trans hc1; replace h3 := nw_next (by first | exact q1 | exact q2) h3; obtain ⟨g, c, n, rfl, h4⟩ := h3; have H3 : Hid _ := h4; clear h4)
      | fail)
  all_goals (go_wp2; go_ret; rw [← E3.out]; exact ⟨g, c, n, rfl, H3.out⟩)
set_option maxRecDepth 20000 in
set_option maxHeartbeats 8000000 in
theorem putAns_23 (pl nn : Int) (a1 a2 : Option Addr) (l1 l2 c1 c2 : Nat) (ws : List Int) (bs : List Bool) (w : World) (h1 : l1 = ws.length) (h2 : l2 = bs.length) (s1 : SlI w a1 ws) (s2 : SlB w a2 bs) (hl1 : ws.length ≤ 2000000) (hl2 : bs.length ≤ 2000000) (hb : okA 23 0 pl nn ws l1 l2 = true) :
    Calls Tryz.prog 47 #[rp 23 0 pl nn a1 a2 l1 l2 c1 c2] w fun e w' => Nw w w' e (putA 23 0 pl nn ws bs) := by
  obtain ⟨z1, hz1⟩ : ∃ z1, z1 = w.alloc (.cells #[.int .i64 23, .int .i64 0, .int .i64 pl, .int .i64 nn, .slice a1 l1 c1, .slice a2 l2 c2] 36) := ⟨_, rfl⟩
  have HZ : Hid (z1 = _) := hz1
  have Bz : Below w.heap.size w z1 := by rw [hz1]; exact bel_alloc w _
  have Xz : Blk z1 w.heap.size 36 #[.int .i64 23, .int .i64 0, .int .i64 pl, .int .i64 nn, .slice a1 l1 c1, .slice a2 l2 c2] := by rw [hz1]; exact Blk.new w _ _
  have H1 : Hid (l1 = ws.length ∧ l2 = bs.length) := ⟨h1, h2⟩
  have S1 : Hid (SlI w a1 ws ∧ SlB w a2 bs) := ⟨s1, s2⟩
  obtain ⟨x0, x1, x2, x3, x4, x5⟩ := Xz.six
  have HOK : Hid (okA 23 0 pl nn ws l1 l2 = true) := hb
  have dz : Below z1.heap.size z1 z1.drew := (Below.refl _ _).drew
  clear h1 h2 s1 s2 hb hz1
  have HLn : Hid (1 ≤ l1 ∧ l1 ≤ 125) := by show 1 ≤ l1 ∧ l1 ≤ 125; have hb := HOK.out; simp [okA, okAK, kindB, inB, zr4] at hb; omega
  go_enter Tryz.func47, Tryz.ntmps47
  go_upto_region 1 with fail
  rw [← HZ.out]
  go_upto_region 10 with fail
  go_region_held3 (fun w' => w'.cell? ⟨w.heap.size, 0, none⟩ = some (.int .i64 23) ∧ w'.cell? ⟨w.heap.size, 4, none⟩ = some (.slice a1 l1 c1)) (go_keep)
    (first
      | (go_at_call 49; refine (putKind_0 23 _).mono ?_; rintro e wA ⟨gA, cA, nA, rfl, hnA, oA, bA⟩; have HnA : Hid _ := hnA; have BA := bel_next (w0 := w) (by first | exact Bz | exact Bz.drew) bA; have XA := Blk.below (by first | exact Xz | exact Xz.below dz) bA; have kA0 := XA.cell 0 rfl; have kA1 := XA.cell 4 rfl; clear hnA)
      | (go_at_call 53; refine (wordBytes_any _ _ _ ws _ H1.out.1 (S1.out.1.below BA) (by have := H1.out; have := HLn.out; omega) (by have := H1.out; have := HLn.out; omega)).mono ?_; rintro e wP ⟨gP, cP, nP, rfl, hnP, oP, bP⟩; have HnP : Hid _ := hnP; have BP := bel_next BA bP; have XP := XA.below bP; have kP0 := XP.cell 0 rfl; have kP1 := XP.cell 4 rfl; clear hnP)
      | (go_at_call 51; refine (putCounted_any _ _ _ _ _ _ [23 % 256] (wbs ws) _ HnA.out HnP.out (oA.below bP).sl.2 oP.sl.2 (by have := HnA.out; simp at this; omega) (by have := HnP.out; have := HLn.out; have := H1.out; rw [wbs_length] at *; omega)).mono ?_; rintro e w3 h3; have X3 := XP.below h3.bel; have k30 := X3.cell 0 rfl; have k31 := X3.cell 4 rfl; replace h3 := nw_next BP h3; obtain ⟨g, c, n, rfl, h4⟩ := h3; have H3 : Hid _ := h4; clear h4))
  all_goals (go_wp2; go_ret; have e3 : [23 % 256] ++ [(nP : Int) % 256] ++ wbs ws = putA 23 0 pl nn ws bs := (by rw [HnP.out, wbs_length]; rfl); rw [← e3]; exact ⟨g, c, n, rfl, H3.out⟩)
set_option maxRecDepth 20000 in
set_option maxHeartbeats 8000000 in
theorem putAnsF_1 (fl pl nn : Int) (a1 a2 : Option Addr) (l1 l2 c1 c2 : Nat) (ws : List Int) (bs : List Bool) (w : World) (h1 : l1 = ws.length) (h2 : l2 = bs.length) (s1 : SlI w a1 ws) (s2 : SlB w a2 bs) (hl1 : ws.length ≤ 2000000) (hl2 : bs.length ≤ 2000000) (hb : okA 1 fl pl nn ws l1 l2 = true) (h0 : ¬ fl = 0) :
    Calls Tryz.prog 47 #[rp 1 fl pl nn a1 a2 l1 l2 c1 c2] w fun e w' => Nw w w' e (putA 1 fl pl nn ws bs) := by
  obtain ⟨z1, hz1⟩ : ∃ z1, z1 = w.alloc (.cells #[.int .i64 1, .int .i64 fl, .int .i64 pl, .int .i64 nn, .slice a1 l1 c1, .slice a2 l2 c2] 36) := ⟨_, rfl⟩
  have HZ : Hid (z1 = _) := hz1
  have Bz : Below w.heap.size w z1 := by rw [hz1]; exact bel_alloc w _
  have Xz : Blk z1 w.heap.size 36 #[.int .i64 1, .int .i64 fl, .int .i64 pl, .int .i64 nn, .slice a1 l1 c1, .slice a2 l2 c2] := by rw [hz1]; exact Blk.new w _ _
  have H1 : Hid (l1 = ws.length ∧ l2 = bs.length) := ⟨h1, h2⟩
  have S1 : Hid (SlI w a1 ws ∧ SlB w a2 bs) := ⟨s1, s2⟩
  obtain ⟨x0, x1, x2, x3, x4, x5⟩ := Xz.six
  have HOK : Hid (okA 1 fl pl nn ws l1 l2 = true) := hb
  have dz : Below z1.heap.size z1 z1.drew := (Below.refl _ _).drew
  clear h1 h2 s1 s2 hb hz1
  have hp : 0 < fl ∧ fl ≤ 255 := by have hb := HOK.out; simp [okA, kindB, inB] at hb; omega
  have hf : fl % 256 = fl := by omega
  have hor : bits .or .i64 1 128 = 129 := by decide +kernel
  have o1 := own_lit2 z1 129 fl w.heap.size Bz.size
  have B2 := bel_next Bz (bel_alloc z1 (.cells #[.int .u8 129, .int .u8 fl] 5))
  have R : Hid (Nw w (z1.alloc (.cells #[.int .u8 129, .int .u8 fl] 5)) (.returned (.slice (some ⟨z1.heap.size, 0, none⟩) 2 2)) (putA 1 fl pl nn ws bs)) := by show Nw _ _ _ _; have e : putA 1 fl pl nn ws bs = [129, fl] := (by unfold putA; rw [if_neg h0]; rfl); rw [e]; exact ⟨_, _, 2, rfl, rfl, o1, B2⟩
  clear o1 B2 hp
  go_enter Tryz.func47, Tryz.ntmps47
  go_upto_region 1 with fail
  rw [← HZ.out]
  go_wp2
  go_ret
  simp only [hf]
  exact R.out
set_option maxRecDepth 20000 in
set_option maxHeartbeats 8000000 in
theorem putAnsF_2 (fl pl nn : Int) (a1 a2 : Option Addr) (l1 l2 c1 c2 : Nat) (ws : List Int) (bs : List Bool) (w : World) (h1 : l1 = ws.length) (h2 : l2 = bs.length) (s1 : SlI w a1 ws) (s2 : SlB w a2 bs) (hl1 : ws.length ≤ 2000000) (hl2 : bs.length ≤ 2000000) (hb : okA 2 fl pl nn ws l1 l2 = true) (h0 : ¬ fl = 0) :
    Calls Tryz.prog 47 #[rp 2 fl pl nn a1 a2 l1 l2 c1 c2] w fun e w' => Nw w w' e (putA 2 fl pl nn ws bs) := by
  obtain ⟨z1, hz1⟩ : ∃ z1, z1 = w.alloc (.cells #[.int .i64 2, .int .i64 fl, .int .i64 pl, .int .i64 nn, .slice a1 l1 c1, .slice a2 l2 c2] 36) := ⟨_, rfl⟩
  have HZ : Hid (z1 = _) := hz1
  have Bz : Below w.heap.size w z1 := by rw [hz1]; exact bel_alloc w _
  have Xz : Blk z1 w.heap.size 36 #[.int .i64 2, .int .i64 fl, .int .i64 pl, .int .i64 nn, .slice a1 l1 c1, .slice a2 l2 c2] := by rw [hz1]; exact Blk.new w _ _
  have H1 : Hid (l1 = ws.length ∧ l2 = bs.length) := ⟨h1, h2⟩
  have S1 : Hid (SlI w a1 ws ∧ SlB w a2 bs) := ⟨s1, s2⟩
  obtain ⟨x0, x1, x2, x3, x4, x5⟩ := Xz.six
  have HOK : Hid (okA 2 fl pl nn ws l1 l2 = true) := hb
  have dz : Below z1.heap.size z1 z1.drew := (Below.refl _ _).drew
  clear h1 h2 s1 s2 hb hz1
  have hp : 0 < fl ∧ fl ≤ 255 := by have hb := HOK.out; simp [okA, kindB, inB] at hb; omega
  have hf : fl % 256 = fl := by omega
  have hor : bits .or .i64 2 128 = 130 := by decide +kernel
  have o1 := own_lit2 z1 130 fl w.heap.size Bz.size
  have B2 := bel_next Bz (bel_alloc z1 (.cells #[.int .u8 130, .int .u8 fl] 5))
  have R : Hid (Nw w (z1.alloc (.cells #[.int .u8 130, .int .u8 fl] 5)) (.returned (.slice (some ⟨z1.heap.size, 0, none⟩) 2 2)) (putA 2 fl pl nn ws bs)) := by show Nw _ _ _ _; have e : putA 2 fl pl nn ws bs = [130, fl] := (by unfold putA; rw [if_neg h0]; rfl); rw [e]; exact ⟨_, _, 2, rfl, rfl, o1, B2⟩
  clear o1 B2 hp
  go_enter Tryz.func47, Tryz.ntmps47
  go_upto_region 1 with fail
  rw [← HZ.out]
  go_wp2
  go_ret
  simp only [hf]
  exact R.out
set_option maxRecDepth 20000 in
set_option maxHeartbeats 8000000 in
theorem putAnsF_3 (fl pl nn : Int) (a1 a2 : Option Addr) (l1 l2 c1 c2 : Nat) (ws : List Int) (bs : List Bool) (w : World) (h1 : l1 = ws.length) (h2 : l2 = bs.length) (s1 : SlI w a1 ws) (s2 : SlB w a2 bs) (hl1 : ws.length ≤ 2000000) (hl2 : bs.length ≤ 2000000) (hb : okA 3 fl pl nn ws l1 l2 = true) (h0 : ¬ fl = 0) :
    Calls Tryz.prog 47 #[rp 3 fl pl nn a1 a2 l1 l2 c1 c2] w fun e w' => Nw w w' e (putA 3 fl pl nn ws bs) := by
  obtain ⟨z1, hz1⟩ : ∃ z1, z1 = w.alloc (.cells #[.int .i64 3, .int .i64 fl, .int .i64 pl, .int .i64 nn, .slice a1 l1 c1, .slice a2 l2 c2] 36) := ⟨_, rfl⟩
  have HZ : Hid (z1 = _) := hz1
  have Bz : Below w.heap.size w z1 := by rw [hz1]; exact bel_alloc w _
  have Xz : Blk z1 w.heap.size 36 #[.int .i64 3, .int .i64 fl, .int .i64 pl, .int .i64 nn, .slice a1 l1 c1, .slice a2 l2 c2] := by rw [hz1]; exact Blk.new w _ _
  have H1 : Hid (l1 = ws.length ∧ l2 = bs.length) := ⟨h1, h2⟩
  have S1 : Hid (SlI w a1 ws ∧ SlB w a2 bs) := ⟨s1, s2⟩
  obtain ⟨x0, x1, x2, x3, x4, x5⟩ := Xz.six
  have HOK : Hid (okA 3 fl pl nn ws l1 l2 = true) := hb
  have dz : Below z1.heap.size z1 z1.drew := (Below.refl _ _).drew
  clear h1 h2 s1 s2 hb hz1
  have hp : 0 < fl ∧ fl ≤ 255 := by have hb := HOK.out; simp [okA, kindB, inB] at hb; omega
  have hf : fl % 256 = fl := by omega
  have hor : bits .or .i64 3 128 = 131 := by decide +kernel
  have o1 := own_lit2 z1 131 fl w.heap.size Bz.size
  have B2 := bel_next Bz (bel_alloc z1 (.cells #[.int .u8 131, .int .u8 fl] 5))
  have R : Hid (Nw w (z1.alloc (.cells #[.int .u8 131, .int .u8 fl] 5)) (.returned (.slice (some ⟨z1.heap.size, 0, none⟩) 2 2)) (putA 3 fl pl nn ws bs)) := by show Nw _ _ _ _; have e : putA 3 fl pl nn ws bs = [131, fl] := (by unfold putA; rw [if_neg h0]; rfl); rw [e]; exact ⟨_, _, 2, rfl, rfl, o1, B2⟩
  clear o1 B2 hp
  go_enter Tryz.func47, Tryz.ntmps47
  go_upto_region 1 with fail
  rw [← HZ.out]
  go_wp2
  go_ret
  simp only [hf]
  exact R.out
set_option maxRecDepth 20000 in
set_option maxHeartbeats 8000000 in
theorem putAnsF_4 (fl pl nn : Int) (a1 a2 : Option Addr) (l1 l2 c1 c2 : Nat) (ws : List Int) (bs : List Bool) (w : World) (h1 : l1 = ws.length) (h2 : l2 = bs.length) (s1 : SlI w a1 ws) (s2 : SlB w a2 bs) (hl1 : ws.length ≤ 2000000) (hl2 : bs.length ≤ 2000000) (hb : okA 4 fl pl nn ws l1 l2 = true) (h0 : ¬ fl = 0) :
    Calls Tryz.prog 47 #[rp 4 fl pl nn a1 a2 l1 l2 c1 c2] w fun e w' => Nw w w' e (putA 4 fl pl nn ws bs) := by
  obtain ⟨z1, hz1⟩ : ∃ z1, z1 = w.alloc (.cells #[.int .i64 4, .int .i64 fl, .int .i64 pl, .int .i64 nn, .slice a1 l1 c1, .slice a2 l2 c2] 36) := ⟨_, rfl⟩
  have HZ : Hid (z1 = _) := hz1
  have Bz : Below w.heap.size w z1 := by rw [hz1]; exact bel_alloc w _
  have Xz : Blk z1 w.heap.size 36 #[.int .i64 4, .int .i64 fl, .int .i64 pl, .int .i64 nn, .slice a1 l1 c1, .slice a2 l2 c2] := by rw [hz1]; exact Blk.new w _ _
  have H1 : Hid (l1 = ws.length ∧ l2 = bs.length) := ⟨h1, h2⟩
  have S1 : Hid (SlI w a1 ws ∧ SlB w a2 bs) := ⟨s1, s2⟩
  obtain ⟨x0, x1, x2, x3, x4, x5⟩ := Xz.six
  have HOK : Hid (okA 4 fl pl nn ws l1 l2 = true) := hb
  have dz : Below z1.heap.size z1 z1.drew := (Below.refl _ _).drew
  clear h1 h2 s1 s2 hb hz1
  have hp : 0 < fl ∧ fl ≤ 255 := by have hb := HOK.out; simp [okA, kindB, inB] at hb; omega
  have hf : fl % 256 = fl := by omega
  have hor : bits .or .i64 4 128 = 132 := by decide +kernel
  have o1 := own_lit2 z1 132 fl w.heap.size Bz.size
  have B2 := bel_next Bz (bel_alloc z1 (.cells #[.int .u8 132, .int .u8 fl] 5))
  have R : Hid (Nw w (z1.alloc (.cells #[.int .u8 132, .int .u8 fl] 5)) (.returned (.slice (some ⟨z1.heap.size, 0, none⟩) 2 2)) (putA 4 fl pl nn ws bs)) := by show Nw _ _ _ _; have e : putA 4 fl pl nn ws bs = [132, fl] := (by unfold putA; rw [if_neg h0]; rfl); rw [e]; exact ⟨_, _, 2, rfl, rfl, o1, B2⟩
  clear o1 B2 hp
  go_enter Tryz.func47, Tryz.ntmps47
  go_upto_region 1 with fail
  rw [← HZ.out]
  go_wp2
  go_ret
  simp only [hf]
  exact R.out
set_option maxRecDepth 20000 in
set_option maxHeartbeats 8000000 in
theorem putAnsF_5 (fl pl nn : Int) (a1 a2 : Option Addr) (l1 l2 c1 c2 : Nat) (ws : List Int) (bs : List Bool) (w : World) (h1 : l1 = ws.length) (h2 : l2 = bs.length) (s1 : SlI w a1 ws) (s2 : SlB w a2 bs) (hl1 : ws.length ≤ 2000000) (hl2 : bs.length ≤ 2000000) (hb : okA 5 fl pl nn ws l1 l2 = true) (h0 : ¬ fl = 0) :
    Calls Tryz.prog 47 #[rp 5 fl pl nn a1 a2 l1 l2 c1 c2] w fun e w' => Nw w w' e (putA 5 fl pl nn ws bs) := by
  obtain ⟨z1, hz1⟩ : ∃ z1, z1 = w.alloc (.cells #[.int .i64 5, .int .i64 fl, .int .i64 pl, .int .i64 nn, .slice a1 l1 c1, .slice a2 l2 c2] 36) := ⟨_, rfl⟩
  have HZ : Hid (z1 = _) := hz1
  have Bz : Below w.heap.size w z1 := by rw [hz1]; exact bel_alloc w _
  have Xz : Blk z1 w.heap.size 36 #[.int .i64 5, .int .i64 fl, .int .i64 pl, .int .i64 nn, .slice a1 l1 c1, .slice a2 l2 c2] := by rw [hz1]; exact Blk.new w _ _
  have H1 : Hid (l1 = ws.length ∧ l2 = bs.length) := ⟨h1, h2⟩
  have S1 : Hid (SlI w a1 ws ∧ SlB w a2 bs) := ⟨s1, s2⟩
  obtain ⟨x0, x1, x2, x3, x4, x5⟩ := Xz.six
  have HOK : Hid (okA 5 fl pl nn ws l1 l2 = true) := hb
  have dz : Below z1.heap.size z1 z1.drew := (Below.refl _ _).drew
  clear h1 h2 s1 s2 hb hz1
  have hp : 0 < fl ∧ fl ≤ 255 := by have hb := HOK.out; simp [okA, kindB, inB] at hb; omega
  have hf : fl % 256 = fl := by omega
  have hor : bits .or .i64 5 128 = 133 := by decide +kernel
  have o1 := own_lit2 z1 133 fl w.heap.size Bz.size
  have B2 := bel_next Bz (bel_alloc z1 (.cells #[.int .u8 133, .int .u8 fl] 5))
  have R : Hid (Nw w (z1.alloc (.cells #[.int .u8 133, .int .u8 fl] 5)) (.returned (.slice (some ⟨z1.heap.size, 0, none⟩) 2 2)) (putA 5 fl pl nn ws bs)) := by show Nw _ _ _ _; have e : putA 5 fl pl nn ws bs = [133, fl] := (by unfold putA; rw [if_neg h0]; rfl); rw [e]; exact ⟨_, _, 2, rfl, rfl, o1, B2⟩
  clear o1 B2 hp
  go_enter Tryz.func47, Tryz.ntmps47
  go_upto_region 1 with fail
  rw [← HZ.out]
  go_wp2
  go_ret
  simp only [hf]
  exact R.out
set_option maxRecDepth 20000 in
set_option maxHeartbeats 8000000 in
theorem putAnsF_6 (fl pl nn : Int) (a1 a2 : Option Addr) (l1 l2 c1 c2 : Nat) (ws : List Int) (bs : List Bool) (w : World) (h1 : l1 = ws.length) (h2 : l2 = bs.length) (s1 : SlI w a1 ws) (s2 : SlB w a2 bs) (hl1 : ws.length ≤ 2000000) (hl2 : bs.length ≤ 2000000) (hb : okA 6 fl pl nn ws l1 l2 = true) (h0 : ¬ fl = 0) :
    Calls Tryz.prog 47 #[rp 6 fl pl nn a1 a2 l1 l2 c1 c2] w fun e w' => Nw w w' e (putA 6 fl pl nn ws bs) := by
  obtain ⟨z1, hz1⟩ : ∃ z1, z1 = w.alloc (.cells #[.int .i64 6, .int .i64 fl, .int .i64 pl, .int .i64 nn, .slice a1 l1 c1, .slice a2 l2 c2] 36) := ⟨_, rfl⟩
  have HZ : Hid (z1 = _) := hz1
  have Bz : Below w.heap.size w z1 := by rw [hz1]; exact bel_alloc w _
  have Xz : Blk z1 w.heap.size 36 #[.int .i64 6, .int .i64 fl, .int .i64 pl, .int .i64 nn, .slice a1 l1 c1, .slice a2 l2 c2] := by rw [hz1]; exact Blk.new w _ _
  have H1 : Hid (l1 = ws.length ∧ l2 = bs.length) := ⟨h1, h2⟩
  have S1 : Hid (SlI w a1 ws ∧ SlB w a2 bs) := ⟨s1, s2⟩
  obtain ⟨x0, x1, x2, x3, x4, x5⟩ := Xz.six
  have HOK : Hid (okA 6 fl pl nn ws l1 l2 = true) := hb
  have dz : Below z1.heap.size z1 z1.drew := (Below.refl _ _).drew
  clear h1 h2 s1 s2 hb hz1
  have hp : 0 < fl ∧ fl ≤ 255 := by have hb := HOK.out; simp [okA, kindB, inB] at hb; omega
  have hf : fl % 256 = fl := by omega
  have hor : bits .or .i64 6 128 = 134 := by decide +kernel
  have o1 := own_lit2 z1 134 fl w.heap.size Bz.size
  have B2 := bel_next Bz (bel_alloc z1 (.cells #[.int .u8 134, .int .u8 fl] 5))
  have R : Hid (Nw w (z1.alloc (.cells #[.int .u8 134, .int .u8 fl] 5)) (.returned (.slice (some ⟨z1.heap.size, 0, none⟩) 2 2)) (putA 6 fl pl nn ws bs)) := by show Nw _ _ _ _; have e : putA 6 fl pl nn ws bs = [134, fl] := (by unfold putA; rw [if_neg h0]; rfl); rw [e]; exact ⟨_, _, 2, rfl, rfl, o1, B2⟩
  clear o1 B2 hp
  go_enter Tryz.func47, Tryz.ntmps47
  go_upto_region 1 with fail
  rw [← HZ.out]
  go_wp2
  go_ret
  simp only [hf]
  exact R.out
set_option maxRecDepth 20000 in
set_option maxHeartbeats 8000000 in
theorem putAnsF_15 (fl pl nn : Int) (a1 a2 : Option Addr) (l1 l2 c1 c2 : Nat) (ws : List Int) (bs : List Bool) (w : World) (h1 : l1 = ws.length) (h2 : l2 = bs.length) (s1 : SlI w a1 ws) (s2 : SlB w a2 bs) (hl1 : ws.length ≤ 2000000) (hl2 : bs.length ≤ 2000000) (hb : okA 15 fl pl nn ws l1 l2 = true) (h0 : ¬ fl = 0) :
    Calls Tryz.prog 47 #[rp 15 fl pl nn a1 a2 l1 l2 c1 c2] w fun e w' => Nw w w' e (putA 15 fl pl nn ws bs) := by
  obtain ⟨z1, hz1⟩ : ∃ z1, z1 = w.alloc (.cells #[.int .i64 15, .int .i64 fl, .int .i64 pl, .int .i64 nn, .slice a1 l1 c1, .slice a2 l2 c2] 36) := ⟨_, rfl⟩
  have HZ : Hid (z1 = _) := hz1
  have Bz : Below w.heap.size w z1 := by rw [hz1]; exact bel_alloc w _
  have Xz : Blk z1 w.heap.size 36 #[.int .i64 15, .int .i64 fl, .int .i64 pl, .int .i64 nn, .slice a1 l1 c1, .slice a2 l2 c2] := by rw [hz1]; exact Blk.new w _ _
  have H1 : Hid (l1 = ws.length ∧ l2 = bs.length) := ⟨h1, h2⟩
  have S1 : Hid (SlI w a1 ws ∧ SlB w a2 bs) := ⟨s1, s2⟩
  obtain ⟨x0, x1, x2, x3, x4, x5⟩ := Xz.six
  have HOK : Hid (okA 15 fl pl nn ws l1 l2 = true) := hb
  have dz : Below z1.heap.size z1 z1.drew := (Below.refl _ _).drew
  clear h1 h2 s1 s2 hb hz1
  have hp : 0 < fl ∧ fl ≤ 255 := by have hb := HOK.out; simp [okA, kindB, inB] at hb; omega
  have hf : fl % 256 = fl := by omega
  have hor : bits .or .i64 15 128 = 143 := by decide +kernel
  have o1 := own_lit2 z1 143 fl w.heap.size Bz.size
  have B2 := bel_next Bz (bel_alloc z1 (.cells #[.int .u8 143, .int .u8 fl] 5))
  have R : Hid (Nw w (z1.alloc (.cells #[.int .u8 143, .int .u8 fl] 5)) (.returned (.slice (some ⟨z1.heap.size, 0, none⟩) 2 2)) (putA 15 fl pl nn ws bs)) := by show Nw _ _ _ _; have e : putA 15 fl pl nn ws bs = [143, fl] := (by unfold putA; rw [if_neg h0]; rfl); rw [e]; exact ⟨_, _, 2, rfl, rfl, o1, B2⟩
  clear o1 B2 hp
  go_enter Tryz.func47, Tryz.ntmps47
  go_upto_region 1 with fail
  rw [← HZ.out]
  go_wp2
  go_ret
  simp only [hf]
  exact R.out
set_option maxRecDepth 20000 in
set_option maxHeartbeats 8000000 in
theorem putAnsF_16 (fl pl nn : Int) (a1 a2 : Option Addr) (l1 l2 c1 c2 : Nat) (ws : List Int) (bs : List Bool) (w : World) (h1 : l1 = ws.length) (h2 : l2 = bs.length) (s1 : SlI w a1 ws) (s2 : SlB w a2 bs) (hl1 : ws.length ≤ 2000000) (hl2 : bs.length ≤ 2000000) (hb : okA 16 fl pl nn ws l1 l2 = true) (h0 : ¬ fl = 0) :
    Calls Tryz.prog 47 #[rp 16 fl pl nn a1 a2 l1 l2 c1 c2] w fun e w' => Nw w w' e (putA 16 fl pl nn ws bs) := by
  obtain ⟨z1, hz1⟩ : ∃ z1, z1 = w.alloc (.cells #[.int .i64 16, .int .i64 fl, .int .i64 pl, .int .i64 nn, .slice a1 l1 c1, .slice a2 l2 c2] 36) := ⟨_, rfl⟩
  have HZ : Hid (z1 = _) := hz1
  have Bz : Below w.heap.size w z1 := by rw [hz1]; exact bel_alloc w _
  have Xz : Blk z1 w.heap.size 36 #[.int .i64 16, .int .i64 fl, .int .i64 pl, .int .i64 nn, .slice a1 l1 c1, .slice a2 l2 c2] := by rw [hz1]; exact Blk.new w _ _
  have H1 : Hid (l1 = ws.length ∧ l2 = bs.length) := ⟨h1, h2⟩
  have S1 : Hid (SlI w a1 ws ∧ SlB w a2 bs) := ⟨s1, s2⟩
  obtain ⟨x0, x1, x2, x3, x4, x5⟩ := Xz.six
  have HOK : Hid (okA 16 fl pl nn ws l1 l2 = true) := hb
  have dz : Below z1.heap.size z1 z1.drew := (Below.refl _ _).drew
  clear h1 h2 s1 s2 hb hz1
  have hp : 0 < fl ∧ fl ≤ 255 := by have hb := HOK.out; simp [okA, kindB, inB] at hb; omega
  have hf : fl % 256 = fl := by omega
  have hor : bits .or .i64 16 128 = 144 := by decide +kernel
  have o1 := own_lit2 z1 144 fl w.heap.size Bz.size
  have B2 := bel_next Bz (bel_alloc z1 (.cells #[.int .u8 144, .int .u8 fl] 5))
  have R : Hid (Nw w (z1.alloc (.cells #[.int .u8 144, .int .u8 fl] 5)) (.returned (.slice (some ⟨z1.heap.size, 0, none⟩) 2 2)) (putA 16 fl pl nn ws bs)) := by show Nw _ _ _ _; have e : putA 16 fl pl nn ws bs = [144, fl] := (by unfold putA; rw [if_neg h0]; rfl); rw [e]; exact ⟨_, _, 2, rfl, rfl, o1, B2⟩
  clear o1 B2 hp
  go_enter Tryz.func47, Tryz.ntmps47
  go_upto_region 1 with fail
  rw [← HZ.out]
  go_wp2
  go_ret
  simp only [hf]
  exact R.out
set_option maxRecDepth 20000 in
set_option maxHeartbeats 8000000 in
theorem putAnsF_22 (fl pl nn : Int) (a1 a2 : Option Addr) (l1 l2 c1 c2 : Nat) (ws : List Int) (bs : List Bool) (w : World) (h1 : l1 = ws.length) (h2 : l2 = bs.length) (s1 : SlI w a1 ws) (s2 : SlB w a2 bs) (hl1 : ws.length ≤ 2000000) (hl2 : bs.length ≤ 2000000) (hb : okA 22 fl pl nn ws l1 l2 = true) (h0 : ¬ fl = 0) :
    Calls Tryz.prog 47 #[rp 22 fl pl nn a1 a2 l1 l2 c1 c2] w fun e w' => Nw w w' e (putA 22 fl pl nn ws bs) := by
  obtain ⟨z1, hz1⟩ : ∃ z1, z1 = w.alloc (.cells #[.int .i64 22, .int .i64 fl, .int .i64 pl, .int .i64 nn, .slice a1 l1 c1, .slice a2 l2 c2] 36) := ⟨_, rfl⟩
  have HZ : Hid (z1 = _) := hz1
  have Bz : Below w.heap.size w z1 := by rw [hz1]; exact bel_alloc w _
  have Xz : Blk z1 w.heap.size 36 #[.int .i64 22, .int .i64 fl, .int .i64 pl, .int .i64 nn, .slice a1 l1 c1, .slice a2 l2 c2] := by rw [hz1]; exact Blk.new w _ _
  have H1 : Hid (l1 = ws.length ∧ l2 = bs.length) := ⟨h1, h2⟩
  have S1 : Hid (SlI w a1 ws ∧ SlB w a2 bs) := ⟨s1, s2⟩
  obtain ⟨x0, x1, x2, x3, x4, x5⟩ := Xz.six
  have HOK : Hid (okA 22 fl pl nn ws l1 l2 = true) := hb
  have dz : Below z1.heap.size z1 z1.drew := (Below.refl _ _).drew
  clear h1 h2 s1 s2 hb hz1
  have hp : 0 < fl ∧ fl ≤ 255 := by have hb := HOK.out; simp [okA, kindB, inB] at hb; omega
  have hf : fl % 256 = fl := by omega
  have hor : bits .or .i64 22 128 = 150 := by decide +kernel
  have o1 := own_lit2 z1 150 fl w.heap.size Bz.size
  have B2 := bel_next Bz (bel_alloc z1 (.cells #[.int .u8 150, .int .u8 fl] 5))
  have R : Hid (Nw w (z1.alloc (.cells #[.int .u8 150, .int .u8 fl] 5)) (.returned (.slice (some ⟨z1.heap.size, 0, none⟩) 2 2)) (putA 22 fl pl nn ws bs)) := by show Nw _ _ _ _; have e : putA 22 fl pl nn ws bs = [150, fl] := (by unfold putA; rw [if_neg h0]; rfl); rw [e]; exact ⟨_, _, 2, rfl, rfl, o1, B2⟩
  clear o1 B2 hp
  go_enter Tryz.func47, Tryz.ntmps47
  go_upto_region 1 with fail
  rw [← HZ.out]
  go_wp2
  go_ret
  simp only [hf]
  exact R.out
set_option maxRecDepth 20000 in
set_option maxHeartbeats 8000000 in
theorem putAnsF_23 (fl pl nn : Int) (a1 a2 : Option Addr) (l1 l2 c1 c2 : Nat) (ws : List Int) (bs : List Bool) (w : World) (h1 : l1 = ws.length) (h2 : l2 = bs.length) (s1 : SlI w a1 ws) (s2 : SlB w a2 bs) (hl1 : ws.length ≤ 2000000) (hl2 : bs.length ≤ 2000000) (hb : okA 23 fl pl nn ws l1 l2 = true) (h0 : ¬ fl = 0) :
    Calls Tryz.prog 47 #[rp 23 fl pl nn a1 a2 l1 l2 c1 c2] w fun e w' => Nw w w' e (putA 23 fl pl nn ws bs) := by
  obtain ⟨z1, hz1⟩ : ∃ z1, z1 = w.alloc (.cells #[.int .i64 23, .int .i64 fl, .int .i64 pl, .int .i64 nn, .slice a1 l1 c1, .slice a2 l2 c2] 36) := ⟨_, rfl⟩
  have HZ : Hid (z1 = _) := hz1
  have Bz : Below w.heap.size w z1 := by rw [hz1]; exact bel_alloc w _
  have Xz : Blk z1 w.heap.size 36 #[.int .i64 23, .int .i64 fl, .int .i64 pl, .int .i64 nn, .slice a1 l1 c1, .slice a2 l2 c2] := by rw [hz1]; exact Blk.new w _ _
  have H1 : Hid (l1 = ws.length ∧ l2 = bs.length) := ⟨h1, h2⟩
  have S1 : Hid (SlI w a1 ws ∧ SlB w a2 bs) := ⟨s1, s2⟩
  obtain ⟨x0, x1, x2, x3, x4, x5⟩ := Xz.six
  have HOK : Hid (okA 23 fl pl nn ws l1 l2 = true) := hb
  have dz : Below z1.heap.size z1 z1.drew := (Below.refl _ _).drew
  clear h1 h2 s1 s2 hb hz1
  have hp : 0 < fl ∧ fl ≤ 255 := by have hb := HOK.out; simp [okA, kindB, inB] at hb; omega
  have hf : fl % 256 = fl := by omega
  have hor : bits .or .i64 23 128 = 151 := by decide +kernel
  have o1 := own_lit2 z1 151 fl w.heap.size Bz.size
  have B2 := bel_next Bz (bel_alloc z1 (.cells #[.int .u8 151, .int .u8 fl] 5))
  have R : Hid (Nw w (z1.alloc (.cells #[.int .u8 151, .int .u8 fl] 5)) (.returned (.slice (some ⟨z1.heap.size, 0, none⟩) 2 2)) (putA 23 fl pl nn ws bs)) := by show Nw _ _ _ _; have e : putA 23 fl pl nn ws bs = [151, fl] := (by unfold putA; rw [if_neg h0]; rfl); rw [e]; exact ⟨_, _, 2, rfl, rfl, o1, B2⟩
  clear o1 B2 hp
  go_enter Tryz.func47, Tryz.ntmps47
  go_upto_region 1 with fail
  rw [← HZ.out]
  go_wp2
  go_ret
  simp only [hf]
  exact R.out
theorem putAns_q (kd fl pl nn : Int) (a1 a2 : Option Addr) (l1 l2 c1 c2 : Nat) (ws : List Int) (bs : List Bool) (w : World) (h1 : l1 = ws.length) (h2 : l2 = bs.length) (s1 : SlI w a1 ws) (s2 : SlB w a2 bs) (hl1 : ws.length ≤ 2000000) (hl2 : bs.length ≤ 2000000) (hb : okA kd fl pl nn ws l1 l2 = true) :
    Calls Tryz.prog 47 #[rp kd fl pl nn a1 a2 l1 l2 c1 c2] w fun e w' => Nw w w' e (putA kd fl pl nn ws bs) := by
  have hk : kindB kd = true := by unfold okA at hb; simp only [Bool.and_eq_true] at hb; exact hb.1
  by_cases h0 : fl = 0
  · subst h0
    obtain rfl | rfl | rfl | rfl | rfl | rfl | rfl | rfl | rfl | rfl := of_decide_eq_true hk
    · exact putAns_1 pl nn a1 a2 l1 l2 c1 c2 ws bs w h1 h2 s1 s2 hl1 hl2 hb
    · exact putAns_2 pl nn a1 a2 l1 l2 c1 c2 ws bs w h1 h2 s1 s2 hl1 hl2 hb
    · exact putAns_3 pl nn a1 a2 l1 l2 c1 c2 ws bs w h1 h2 s1 s2 hl1 hl2 hb
    · exact putAns_4 pl nn a1 a2 l1 l2 c1 c2 ws bs w h1 h2 s1 s2 hl1 hl2 hb
    · exact putAns_5 pl nn a1 a2 l1 l2 c1 c2 ws bs w h1 h2 s1 s2 hl1 hl2 hb
    · exact putAns_6 pl nn a1 a2 l1 l2 c1 c2 ws bs w h1 h2 s1 s2 hl1 hl2 hb
    · exact putAns_15 pl nn a1 a2 l1 l2 c1 c2 ws bs w h1 h2 s1 s2 hl1 hl2 hb
    · exact putAns_16 pl nn a1 a2 l1 l2 c1 c2 ws bs w h1 h2 s1 s2 hl1 hl2 hb
    · exact putAns_22 pl nn a1 a2 l1 l2 c1 c2 ws bs w h1 h2 s1 s2 hl1 hl2 hb
    · exact putAns_23 pl nn a1 a2 l1 l2 c1 c2 ws bs w h1 h2 s1 s2 hl1 hl2 hb
  · obtain rfl | rfl | rfl | rfl | rfl | rfl | rfl | rfl | rfl | rfl := of_decide_eq_true hk
    · exact putAnsF_1 fl pl nn a1 a2 l1 l2 c1 c2 ws bs w h1 h2 s1 s2 hl1 hl2 hb h0
    · exact putAnsF_2 fl pl nn a1 a2 l1 l2 c1 c2 ws bs w h1 h2 s1 s2 hl1 hl2 hb h0
    · exact putAnsF_3 fl pl nn a1 a2 l1 l2 c1 c2 ws bs w h1 h2 s1 s2 hl1 hl2 hb h0
    · exact putAnsF_4 fl pl nn a1 a2 l1 l2 c1 c2 ws bs w h1 h2 s1 s2 hl1 hl2 hb h0
    · exact putAnsF_5 fl pl nn a1 a2 l1 l2 c1 c2 ws bs w h1 h2 s1 s2 hl1 hl2 hb h0
    · exact putAnsF_6 fl pl nn a1 a2 l1 l2 c1 c2 ws bs w h1 h2 s1 s2 hl1 hl2 hb h0
    · exact putAnsF_15 fl pl nn a1 a2 l1 l2 c1 c2 ws bs w h1 h2 s1 s2 hl1 hl2 hb h0
    · exact putAnsF_16 fl pl nn a1 a2 l1 l2 c1 c2 ws bs w h1 h2 s1 s2 hl1 hl2 hb h0
    · exact putAnsF_22 fl pl nn a1 a2 l1 l2 c1 c2 ws bs w h1 h2 s1 s2 hl1 hl2 hb h0
    · exact putAnsF_23 fl pl nn a1 a2 l1 l2 c1 c2 ws bs w h1 h2 s1 s2 hl1 hl2 hb h0
set_option maxHeartbeats 4000000 in
theorem implPutA_q (kd fl pl nn : Int) (a1 a2 : Option Addr) (l1 l2 c1 c2 : Nat) (ws : List Int) (bs : List Bool) (w : World) (h1 : l1 = ws.length) (h2 : l2 = bs.length) (s1 : SlI w a1 ws) (s2 : SlB w a2 bs) (hl1 : ws.length ≤ 2000000) (hl2 : bs.length ≤ 2000000) :
    Calls Tryz.prog 26 #[rp kd fl pl nn a1 a2 l1 l2 c1 c2] w fun e w' => NwO w w' e (putAV (okA kd fl pl nn ws l1 l2) kd fl pl nn ws bs) := by
  have B0 := bel_alloc w (.cells #[.int .i64 kd, .int .i64 fl, .int .i64 pl, .int .i64 nn, .slice a1 l1 c1, .slice a2 l2 c2] 36)
  have X0 := Blk.new w #[.int .i64 kd, .int .i64 fl, .int .i64 pl, .int .i64 nn, .slice a1 l1 c1, .slice a2 l2 c2] 36
  have HS : Hid (SlI w a1 ws ∧ SlB w a2 bs) := ⟨s1, s2⟩
  have HL : Hid (l1 = ws.length ∧ l2 = bs.length) := ⟨h1, h2⟩
  obtain ⟨x0, x1, x2, x3, x4, x5⟩ := X0.six
  clear h1 h2 s1 s2
  go_enter Tryz.func26, Tryz.ntmps26
  go_wp2_with fail
  refine (implRespOk_q kd fl pl nn a1 a2 l1 l2 c1 c2 ws bs _ HL.out.1 HL.out.2 (HS.out.1.below B0) (HS.out.2.below B0) hl1 hl2).mono ?_
  rintro e w1 ⟨rfl, b'⟩
  have B1 := bel_next B0 b'
  have X1 := X0.below b'
  clear x0 x1 x2 x3 x4 x5 X0 B0 b'
  obtain ⟨x0, x1, x2, x3, x4, x5⟩ := X1.six
  cases hok : okA kd fl pl nn ws l1 l2
  · skip
    go_wp2
    go_ret
    exact ⟨none, 0, 0, rfl, by rw [hok]; rfl, by rw [hok]; exact ⟨rfl, .inl ⟨rfl, rfl⟩⟩, B1⟩
  · have HOK : Hid (okA kd fl pl nn ws l1 l2 = true) := hok
    clear hok
    go_wp2_with fail
    refine (putAns_q kd fl pl nn a1 a2 l1 l2 c1 c2 ws bs _ HL.out.1 HL.out.2 (HS.out.1.below B1) (HS.out.2.below B1) hl1 hl2 HOK.out).mono ?_
    rintro e w3 h3
    replace h3 := nw_next B1 h3
    obtain ⟨g, c, n, rfl, h4⟩ := h3
    have H3 : Hid _ := h4
    clear h4
    go_wp2
    go_ret
    rw [HOK.out]
    exact ⟨_, c, n, rfl, H3.out⟩
end Go.Proofs.YtohikbpolofklaaGreatDoor
