/- Texts that the proof needs, joined: P6. -/
import Derived.Test.YtohikbpolofklaaGreatDoorV13
import Derived.Test.YtohikbpolofklaaGreatDoorV7
import Derived.Deep.RegionHeld3
namespace Go.Proofs.YtohikbpolofklaaGreatDoor
open Go.RowKit
set_option linter.unusedVariables false
set_option linter.unusedSimpArgs false
def putA (kd fl pl nn : Int) (ws : List Int) (bs : List Bool) : List Int :=
  if fl = 0 then
    if kd = 1 ∨ kd = 2 then [kd] ++ [(((bs.length + 7) / 8 : Nat) : Int) % 256] ++ packL bs
    else if kd = 3 ∨ kd = 4 ∨ kd = 23 then [kd] ++ [((2 * ws.length : Nat) : Int) % 256] ++ wbs ws
    else if kd = 5 then 5 :: wbs [pl, bif bs.getD 0 false then 65280 else 0]
    else if kd = 6 ∨ kd = 22 then kd :: wbs (pl :: ws)
    else kd :: wbs [pl, nn]
  else [kd + 128, fl]
def putAV (b : Bool) (kd fl pl nn : Int) (ws : List Int) (bs : List Bool) : List Int := bif b then putA kd fl pl nn ws bs else []
theorem own_lit2 (w : World) (x y : Int) (B : Nat) (hB : B ≤ w.heap.size) : Own (w.alloc (.cells #[.int .u8 x, .int .u8 y] 5)) B (.slice (some ⟨w.heap.size, 0, none⟩) 2 2) [x, y] := by
  refine ⟨by simp, .inr ⟨w.heap.size, 2, #[.int .u8 x, .int .u8 y], rfl, hB, ?_, by simp, by unfold maxLen; omega, by simp, by simp⟩⟩
  show (w.heap.push (.cells #[.int .u8 x, .int .u8 y] 5 (0, 0)))[w.heap.size]? = _
  simp
set_option maxRecDepth 20000 in
set_option maxHeartbeats 8000000 in
theorem specPutA_1 (pl nn : Int) (a1 a2 : Option Addr) (l1 l2 c1 c2 : Nat) (ws : List Int) (bs : List Bool) (w : World) (h1 : l1 = ws.length) (h2 : l2 = bs.length) (s1 : SlI w a1 ws) (s2 : SlB w a2 bs) (hl1 : ws.length ≤ 2000000) (hl2 : bs.length ≤ 2000000) (hb : okA 1 0 pl nn ws l1 l2 = true) :
    Calls Tryz.prog 11 #[rp 1 0 pl nn a1 a2 l1 l2 c1 c2] w fun e w' => Nw w w' e (putA 1 0 pl nn ws bs) := by
  have B0 := bel_alloc w (.cells #[.int .i64 1, .int .i64 0, .int .i64 pl, .int .i64 nn, .slice a1 l1 c1, .slice a2 l2 c2] 36)
  have X0 := Blk.new w #[.int .i64 1, .int .i64 0, .int .i64 pl, .int .i64 nn, .slice a1 l1 c1, .slice a2 l2 c2] 36
  have H1 : Hid (l1 = ws.length ∧ l2 = bs.length) := ⟨h1, h2⟩
  have S1 : Hid (SlI w a1 ws ∧ SlB w a2 bs) := ⟨s1, s2⟩
  obtain ⟨x0, x1, x2, x3, x4, x5⟩ := X0.six
  have HOK : Hid (okA 1 0 pl nn ws l1 l2 = true) := hb
  clear h1 h2 s1 s2
  go_enter Tryz.func11, Tryz.ntmps11
  go_wp2_with fail
  refine (specRespOk_q 1 0 pl nn a1 a2 l1 l2 c1 c2 ws bs _ H1.out.1 H1.out.2 (S1.out.1.below B0) (S1.out.2.below B0) hl1 hl2).mono ?_
  rintro e w1 ⟨rfl, b'⟩
  rw [hb]
  have B1 := bel_next B0 b'
  have X1 := X0.below b'
  obtain ⟨y0, y1, y2, y3, y4, y5⟩ := X1.six
  clear X0 x0 x1 x2 x3 x4 x5 b' B0 hb
  have HLn : Hid (1 ≤ l2 ∧ l2 ≤ 2000) := by show 1 ≤ l2 ∧ l2 ≤ 2000; have hb := HOK.out; simp [okA, okAK, kindB, inB, zr4] at hb; omega
  obtain ⟨z1, hz1⟩ : ∃ z1, z1 = w1.alloc (.cells #[.int .u8 1] 5) := ⟨_, rfl⟩
  have HZ : Hid (z1 = _) := hz1
  obtain ⟨gl, hgl⟩ : ∃ gl, gl = w1.heap.size := ⟨_, rfl⟩
  have HG : Hid (gl = w1.heap.size) := hgl
  have q1 : Below w1.heap.size w1 z1 := by rw [hz1]; exact bel_alloc _ _
  have o1 : Own z1 w.heap.size (.slice (some ⟨gl, 0, none⟩) 1 1) [1] := by rw [hz1, hgl]; exact own_lit1 w1 1 w.heap.size B1.size
  have Bz := bel_next B1 q1
  have Xz := X1.below q1
  clear hz1 hgl q1
  obtain ⟨t0, t1, t2, t3, t4, t5⟩ := (X1.below (bel_alloc w1 (.cells #[.int .u8 1] 5))).six
  go_upto_region 9 with fail
  rw [← HZ.out]
  simp only [← HG.out]
  obtain ⟨v0, v1, v2, v3, v4, v5⟩ := Xz.six
  clear y0 y1 y2 y3 y4 y5 t0 t1 t2 t3 t4 t5 X1 B1 HZ HG
  have dz : Below z1.heap.size z1 z1.drew := (Below.refl _ _).drew
  go_wp2_with fail
  refine (specPack_nw _ _ _ bs _ H1.out.2 (S1.out.2.below Bz) (by have := HLn.out; omega)).mono ?_
  rintro e w3 ⟨gP, cP, nP, rfl, hnP, oP, b3'⟩
  have B3 := bel_next Bz b3'
  have o3 := o1.below b3'
  have ne45 : Hid (¬ gP = gl) := by have a := (oP.lt gP rfl).1; have b := (o1.lt gl rfl).2; show ¬ gP = gl; omega
  have HnP : Hid (nP = (packL bs).length) := hnP
  clear hnP b3' o1 Bz Xz v0 v1 v2 v3 v4 v5
  have lP : (packL bs).length ≤ 1000 := by rw [packL_length]; have := HLn.out; have := H1.out; omega
  go_wp2_with (first | (at_builtin; refine wpList_app rfl (.tmp 32) (.tmp 36) rfl w.heap.size (.slice (some ⟨gl, 0, none⟩) 1 1) [1] rfl (o3.below (bel_alloc _ _)) ⟨w3.heap.size, 0, none⟩ 1 1 [(nP : Int) % 256] rfl rfl (sl_lit1 _ _ rfl) (by simp) (by have := B3.size; simp; omega) ?_; intro v5 w5 o5 g5) | (at_builtin; refine wpList_app rfl (.tmp 37) (.tmp 38) rfl w.heap.size v5 ([1] ++ [(nP : Int) % 256]) rfl o5 ⟨gP, 0, none⟩ nP cP (packL bs) rfl HnP.out (((oP.below (bel_alloc _ _)).kept g5 (.inr (by simp [Value.ownBlock]; exact ne45.out))).sl.2) (by simp; omega) (by have := B3.size; have := g5.size; simp at this; omega) ?_; intro v6 w6 o6 g6))
  have B5 := bel_grown (bel_next B3 (bel_alloc w3 (.cells #[.int .u8 ((nP : Int) % 256)] 5))) (o3.below (bel_alloc _ _)) g5 (Nat.le_refl _) (by have := B3.size; simp; omega)
  have B6 := bel_grown B5 o5 g6 (Nat.le_refl _) B5.size
  have e3 : [1] ++ [(nP : Int) % 256] ++ packL bs = putA 1 0 pl nn ws bs := by rw [HnP.out, packL_length]; rfl
  rw [e3] at o6
  obtain ⟨g, c, n, hv, hn⟩ := own_some' o6 (by rw [← e3]; simp)
  subst hv
  have R : Nw w w6 (.returned (.slice (some ⟨g, 0, none⟩) n c)) (putA 1 0 pl nn ws bs) := ⟨g, c, n, rfl, hn, o6, B6⟩
  clear o6 hn e3
  go_ret
  exact R
set_option maxRecDepth 20000 in
set_option maxHeartbeats 8000000 in
theorem specPutA_2 (pl nn : Int) (a1 a2 : Option Addr) (l1 l2 c1 c2 : Nat) (ws : List Int) (bs : List Bool) (w : World) (h1 : l1 = ws.length) (h2 : l2 = bs.length) (s1 : SlI w a1 ws) (s2 : SlB w a2 bs) (hl1 : ws.length ≤ 2000000) (hl2 : bs.length ≤ 2000000) (hb : okA 2 0 pl nn ws l1 l2 = true) :
    Calls Tryz.prog 11 #[rp 2 0 pl nn a1 a2 l1 l2 c1 c2] w fun e w' => Nw w w' e (putA 2 0 pl nn ws bs) := by
  have B0 := bel_alloc w (.cells #[.int .i64 2, .int .i64 0, .int .i64 pl, .int .i64 nn, .slice a1 l1 c1, .slice a2 l2 c2] 36)
  have X0 := Blk.new w #[.int .i64 2, .int .i64 0, .int .i64 pl, .int .i64 nn, .slice a1 l1 c1, .slice a2 l2 c2] 36
  have H1 : Hid (l1 = ws.length ∧ l2 = bs.length) := ⟨h1, h2⟩
  have S1 : Hid (SlI w a1 ws ∧ SlB w a2 bs) := ⟨s1, s2⟩
  obtain ⟨x0, x1, x2, x3, x4, x5⟩ := X0.six
  have HOK : Hid (okA 2 0 pl nn ws l1 l2 = true) := hb
  clear h1 h2 s1 s2
  go_enter Tryz.func11, Tryz.ntmps11
  go_wp2_with fail
  refine (specRespOk_q 2 0 pl nn a1 a2 l1 l2 c1 c2 ws bs _ H1.out.1 H1.out.2 (S1.out.1.below B0) (S1.out.2.below B0) hl1 hl2).mono ?_
  rintro e w1 ⟨rfl, b'⟩
  rw [hb]
  have B1 := bel_next B0 b'
  have X1 := X0.below b'
  obtain ⟨y0, y1, y2, y3, y4, y5⟩ := X1.six
  clear X0 x0 x1 x2 x3 x4 x5 b' B0 hb
  have HLn : Hid (1 ≤ l2 ∧ l2 ≤ 2000) := by show 1 ≤ l2 ∧ l2 ≤ 2000; have hb := HOK.out; simp [okA, okAK, kindB, inB, zr4] at hb; omega
  obtain ⟨z1, hz1⟩ : ∃ z1, z1 = w1.alloc (.cells #[.int .u8 2] 5) := ⟨_, rfl⟩
  have HZ : Hid (z1 = _) := hz1
  obtain ⟨gl, hgl⟩ : ∃ gl, gl = w1.heap.size := ⟨_, rfl⟩
  have HG : Hid (gl = w1.heap.size) := hgl
  have q1 : Below w1.heap.size w1 z1 := by rw [hz1]; exact bel_alloc _ _
  have o1 : Own z1 w.heap.size (.slice (some ⟨gl, 0, none⟩) 1 1) [2] := by rw [hz1, hgl]; exact own_lit1 w1 2 w.heap.size B1.size
  have Bz := bel_next B1 q1
  have Xz := X1.below q1
  clear hz1 hgl q1
  obtain ⟨t0, t1, t2, t3, t4, t5⟩ := (X1.below (bel_alloc w1 (.cells #[.int .u8 2] 5))).six
  go_upto_region 9 with fail
  rw [← HZ.out]
  simp only [← HG.out]
  obtain ⟨v0, v1, v2, v3, v4, v5⟩ := Xz.six
  clear y0 y1 y2 y3 y4 y5 t0 t1 t2 t3 t4 t5 X1 B1 HZ HG
  have dz : Below z1.heap.size z1 z1.drew := (Below.refl _ _).drew
  go_wp2_with fail
  refine (specPack_nw _ _ _ bs _ H1.out.2 (S1.out.2.below Bz) (by have := HLn.out; omega)).mono ?_
  rintro e w3 ⟨gP, cP, nP, rfl, hnP, oP, b3'⟩
  have B3 := bel_next Bz b3'
  have o3 := o1.below b3'
  have ne45 : Hid (¬ gP = gl) := by have a := (oP.lt gP rfl).1; have b := (o1.lt gl rfl).2; show ¬ gP = gl; omega
  have HnP : Hid (nP = (packL bs).length) := hnP
  clear hnP b3' o1 Bz Xz v0 v1 v2 v3 v4 v5
  have lP : (packL bs).length ≤ 1000 := by rw [packL_length]; have := HLn.out; have := H1.out; omega
  go_wp2_with (first | (at_builtin; refine wpList_app rfl (.tmp 32) (.tmp 36) rfl w.heap.size (.slice (some ⟨gl, 0, none⟩) 1 1) [2] rfl (o3.below (bel_alloc _ _)) ⟨w3.heap.size, 0, none⟩ 1 1 [(nP : Int) % 256] rfl rfl (sl_lit1 _ _ rfl) (by simp) (by have := B3.size; simp; omega) ?_; intro v5 w5 o5 g5) | (at_builtin; refine wpList_app rfl (.tmp 37) (.tmp 38) rfl w.heap.size v5 ([2] ++ [(nP : Int) % 256]) rfl o5 ⟨gP, 0, none⟩ nP cP (packL bs) rfl HnP.out (((oP.below (bel_alloc _ _)).kept g5 (.inr (by simp [Value.ownBlock]; exact ne45.out))).sl.2) (by simp; omega) (by have := B3.size; have := g5.size; simp at this; omega) ?_; intro v6 w6 o6 g6))
  have B5 := bel_grown (bel_next B3 (bel_alloc w3 (.cells #[.int .u8 ((nP : Int) % 256)] 5))) (o3.below (bel_alloc _ _)) g5 (Nat.le_refl _) (by have := B3.size; simp; omega)
  have B6 := bel_grown B5 o5 g6 (Nat.le_refl _) B5.size
  have e3 : [2] ++ [(nP : Int) % 256] ++ packL bs = putA 2 0 pl nn ws bs := by rw [HnP.out, packL_length]; rfl
  rw [e3] at o6
  obtain ⟨g, c, n, hv, hn⟩ := own_some' o6 (by rw [← e3]; simp)
  subst hv
  have R : Nw w w6 (.returned (.slice (some ⟨g, 0, none⟩) n c)) (putA 2 0 pl nn ws bs) := ⟨g, c, n, rfl, hn, o6, B6⟩
  clear o6 hn e3
  go_ret
  exact R
set_option maxRecDepth 20000 in
set_option maxHeartbeats 8000000 in
theorem specPutA_3 (pl nn : Int) (a1 a2 : Option Addr) (l1 l2 c1 c2 : Nat) (ws : List Int) (bs : List Bool) (w : World) (h1 : l1 = ws.length) (h2 : l2 = bs.length) (s1 : SlI w a1 ws) (s2 : SlB w a2 bs) (hl1 : ws.length ≤ 2000000) (hl2 : bs.length ≤ 2000000) (hb : okA 3 0 pl nn ws l1 l2 = true) :
    Calls Tryz.prog 11 #[rp 3 0 pl nn a1 a2 l1 l2 c1 c2] w fun e w' => Nw w w' e (putA 3 0 pl nn ws bs) := by
  have B0 := bel_alloc w (.cells #[.int .i64 3, .int .i64 0, .int .i64 pl, .int .i64 nn, .slice a1 l1 c1, .slice a2 l2 c2] 36)
  have X0 := Blk.new w #[.int .i64 3, .int .i64 0, .int .i64 pl, .int .i64 nn, .slice a1 l1 c1, .slice a2 l2 c2] 36
  have H1 : Hid (l1 = ws.length ∧ l2 = bs.length) := ⟨h1, h2⟩
  have S1 : Hid (SlI w a1 ws ∧ SlB w a2 bs) := ⟨s1, s2⟩
  obtain ⟨x0, x1, x2, x3, x4, x5⟩ := X0.six
  have HOK : Hid (okA 3 0 pl nn ws l1 l2 = true) := hb
  clear h1 h2 s1 s2
  go_enter Tryz.func11, Tryz.ntmps11
  go_wp2_with fail
  refine (specRespOk_q 3 0 pl nn a1 a2 l1 l2 c1 c2 ws bs _ H1.out.1 H1.out.2 (S1.out.1.below B0) (S1.out.2.below B0) hl1 hl2).mono ?_
  rintro e w1 ⟨rfl, b'⟩
  rw [hb]
  have B1 := bel_next B0 b'
  have X1 := X0.below b'
  obtain ⟨y0, y1, y2, y3, y4, y5⟩ := X1.six
  clear X0 x0 x1 x2 x3 x4 x5 b' B0 hb
  have HLn : Hid (1 ≤ l1 ∧ l1 ≤ 125) := by show 1 ≤ l1 ∧ l1 ≤ 125; have hb := HOK.out; simp [okA, okAK, kindB, inB, zr4] at hb; omega
  obtain ⟨z1, hz1⟩ : ∃ z1, z1 = w1.alloc (.cells #[.int .u8 3] 5) := ⟨_, rfl⟩
  have HZ : Hid (z1 = _) := hz1
  obtain ⟨gl, hgl⟩ : ∃ gl, gl = w1.heap.size := ⟨_, rfl⟩
  have HG : Hid (gl = w1.heap.size) := hgl
  have q1 : Below w1.heap.size w1 z1 := by rw [hz1]; exact bel_alloc _ _
  have o1 : Own z1 w.heap.size (.slice (some ⟨gl, 0, none⟩) 1 1) [3] := by rw [hz1, hgl]; exact own_lit1 w1 3 w.heap.size B1.size
  have Bz := bel_next B1 q1
  have Xz := X1.below q1
  clear hz1 hgl q1
  obtain ⟨t0, t1, t2, t3, t4, t5⟩ := (X1.below (bel_alloc w1 (.cells #[.int .u8 3] 5))).six
  go_upto_region 14 with fail
  rw [← HZ.out]
  simp only [← HG.out]
  obtain ⟨v0, v1, v2, v3, v4, v5⟩ := Xz.six
  clear y0 y1 y2 y3 y4 y5 t0 t1 t2 t3 t4 t5 X1 B1 HZ HG
  have dz : Below z1.heap.size z1 z1.drew := (Below.refl _ _).drew
  have od := o1.below dz
  have E3 : Hid ([3] ++ [IntKind.u8.wrap (IntKind.i64.wrap (2 * (l1 : Int)))] ++ wbs ws = putA 3 0 pl nn ws bs) := by show _ = _; have := HLn.out; rw [byte_wrap l1 (by omega), H1.out.1]; rfl
  have qd := (bel_next Bz (bel_alloc z1 (.cells #[.int .u8 (IntKind.u8.wrap (IntKind.i64.wrap (2 * (l1 : Int))))] 5))).drew
  go_region_held3 (fun w' => w'.cell? ⟨w.heap.size, 4, none⟩ = some (.slice a1 l1 c1)) (go_keep)
    (first
      | (refine step_app rfl (.tmp 44) (.tmp 50) rfl w.heap.size (.slice (some ⟨gl, 0, none⟩) 1 1) [3] rfl (by first | exact od.below (bel_alloc _ _) | exact (o1.below (bel_alloc _ _)).below (Below.refl _ _).drew) ⟨_, 0, none⟩ 1 1 [IntKind.u8.wrap (IntKind.i64.wrap (2 * (l1 : Int)))] rfl rfl (by first | exact sl_lit1 _ _ rfl | exact (sl_lit1 z1 _ rfl).below (Below.refl _ _).drew) (by simp) (by have := Bz.size; simp; omega) ?_; intro vB wB oB gB; have BB : Below w.heap.size w wB := bel_grown (by first | exact bel_next Bz.drew (bel_alloc _ _) | exact qd) (by first | exact od.below (bel_alloc _ _) | exact (o1.below (bel_alloc _ _)).below (Below.refl _ _).drew) gB (Nat.le_refl _) (by have := Bz.size; simp; omega); have kB : wB.cell? ⟨w.heap.size, 4, none⟩ = _ := (Blk.row (by first | exact (Xz.below dz).below (bel_alloc _ _) | exact (Xz.below (bel_alloc _ _)).below (Below.refl _ _).drew) (by first | exact od.below (bel_alloc _ _) | exact (o1.below (bel_alloc _ _)).below (Below.refl _ _).drew) gB (by decide)).cell 4 rfl; obtain ⟨gB', cB', nB', hvB, hnB⟩ := own_some' oB (by simp); subst hvB; have HnB : Hid _ := hnB; clear hnB gB)
      | (go_at_call 29; refine (l3PutWords_any gB' nB' cB' ([3] ++ [IntKind.u8.wrap (IntKind.i64.wrap (2 * (l1 : Int)))]) _ _ _ ws _ HnB.out oB.sl.2 (by simp) H1.out.1 (S1.out.1.below BB) (by have := H1.out; have := HLn.out; omega) (by have := H1.out; have := HLn.out; omega)).mono ?_; rintro e w3 h3; have XC := h3.bel; have k3 : w3.cell? ⟨w.heap.size, 4, none⟩ = _ := (XC.cell (p := ⟨w.heap.size, 4, none⟩) (World.block_lt_of_cell? _ _ kB)).trans kB; replace h3 := nw_next BB h3; obtain ⟨g, c, n, rfl, h4⟩ := h3; have H3 : Hid _ := h4; clear h4))
  all_goals (go_wp2; go_ret; rw [← E3.out]; exact ⟨g, c, n, rfl, H3.out⟩)
set_option maxRecDepth 20000 in
set_option maxHeartbeats 8000000 in
theorem specPutA_4 (pl nn : Int) (a1 a2 : Option Addr) (l1 l2 c1 c2 : Nat) (ws : List Int) (bs : List Bool) (w : World) (h1 : l1 = ws.length) (h2 : l2 = bs.length) (s1 : SlI w a1 ws) (s2 : SlB w a2 bs) (hl1 : ws.length ≤ 2000000) (hl2 : bs.length ≤ 2000000) (hb : okA 4 0 pl nn ws l1 l2 = true) :
    Calls Tryz.prog 11 #[rp 4 0 pl nn a1 a2 l1 l2 c1 c2] w fun e w' => Nw w w' e (putA 4 0 pl nn ws bs) := by
  have B0 := bel_alloc w (.cells #[.int .i64 4, .int .i64 0, .int .i64 pl, .int .i64 nn, .slice a1 l1 c1, .slice a2 l2 c2] 36)
  have X0 := Blk.new w #[.int .i64 4, .int .i64 0, .int .i64 pl, .int .i64 nn, .slice a1 l1 c1, .slice a2 l2 c2] 36
  have H1 : Hid (l1 = ws.length ∧ l2 = bs.length) := ⟨h1, h2⟩
  have S1 : Hid (SlI w a1 ws ∧ SlB w a2 bs) := ⟨s1, s2⟩
  obtain ⟨x0, x1, x2, x3, x4, x5⟩ := X0.six
  have HOK : Hid (okA 4 0 pl nn ws l1 l2 = true) := hb
  clear h1 h2 s1 s2
  go_enter Tryz.func11, Tryz.ntmps11
  go_wp2_with fail
  refine (specRespOk_q 4 0 pl nn a1 a2 l1 l2 c1 c2 ws bs _ H1.out.1 H1.out.2 (S1.out.1.below B0) (S1.out.2.below B0) hl1 hl2).mono ?_
  rintro e w1 ⟨rfl, b'⟩
  rw [hb]
  have B1 := bel_next B0 b'
  have X1 := X0.below b'
  obtain ⟨y0, y1, y2, y3, y4, y5⟩ := X1.six
  clear X0 x0 x1 x2 x3 x4 x5 b' B0 hb
  have HLn : Hid (1 ≤ l1 ∧ l1 ≤ 125) := by show 1 ≤ l1 ∧ l1 ≤ 125; have hb := HOK.out; simp [okA, okAK, kindB, inB, zr4] at hb; omega
  obtain ⟨z1, hz1⟩ : ∃ z1, z1 = w1.alloc (.cells #[.int .u8 4] 5) := ⟨_, rfl⟩
  have HZ : Hid (z1 = _) := hz1
  obtain ⟨gl, hgl⟩ : ∃ gl, gl = w1.heap.size := ⟨_, rfl⟩
  have HG : Hid (gl = w1.heap.size) := hgl
  have q1 : Below w1.heap.size w1 z1 := by rw [hz1]; exact bel_alloc _ _
  have o1 : Own z1 w.heap.size (.slice (some ⟨gl, 0, none⟩) 1 1) [4] := by rw [hz1, hgl]; exact own_lit1 w1 4 w.heap.size B1.size
  have Bz := bel_next B1 q1
  have Xz := X1.below q1
  clear hz1 hgl q1
  obtain ⟨t0, t1, t2, t3, t4, t5⟩ := (X1.below (bel_alloc w1 (.cells #[.int .u8 4] 5))).six
  go_upto_region 14 with fail
  rw [← HZ.out]
  simp only [← HG.out]
  obtain ⟨v0, v1, v2, v3, v4, v5⟩ := Xz.six
  clear y0 y1 y2 y3 y4 y5 t0 t1 t2 t3 t4 t5 X1 B1 HZ HG
  have dz : Below z1.heap.size z1 z1.drew := (Below.refl _ _).drew
  have od := o1.below dz
  have E3 : Hid ([4] ++ [IntKind.u8.wrap (IntKind.i64.wrap (2 * (l1 : Int)))] ++ wbs ws = putA 4 0 pl nn ws bs) := by show _ = _; have := HLn.out; rw [byte_wrap l1 (by omega), H1.out.1]; rfl
  have qd := (bel_next Bz (bel_alloc z1 (.cells #[.int .u8 (IntKind.u8.wrap (IntKind.i64.wrap (2 * (l1 : Int))))] 5))).drew
  go_region_held3 (fun w' => w'.cell? ⟨w.heap.size, 4, none⟩ = some (.slice a1 l1 c1)) (go_keep)
    (first
      | (refine step_app rfl (.tmp 44) (.tmp 50) rfl w.heap.size (.slice (some ⟨gl, 0, none⟩) 1 1) [4] rfl (by first | exact od.below (bel_alloc _ _) | exact (o1.below (bel_alloc _ _)).below (Below.refl _ _).drew) ⟨_, 0, none⟩ 1 1 [IntKind.u8.wrap (IntKind.i64.wrap (2 * (l1 : Int)))] rfl rfl (by first | exact sl_lit1 _ _ rfl | exact (sl_lit1 z1 _ rfl).below (Below.refl _ _).drew) (by simp) (by have := Bz.size; simp; omega) ?_; intro vB wB oB gB; have BB : Below w.heap.size w wB := bel_grown (by first | exact bel_next Bz.drew (bel_alloc _ _) | exact qd) (by first | exact od.below (bel_alloc _ _) | exact (o1.below (bel_alloc _ _)).below (Below.refl _ _).drew) gB (Nat.le_refl _) (by have := Bz.size; simp; omega); have kB : wB.cell? ⟨w.heap.size, 4, none⟩ = _ := (Blk.row (by first | exact (Xz.below dz).below (bel_alloc _ _) | exact (Xz.below (bel_alloc _ _)).below (Below.refl _ _).drew) (by first | exact od.below (bel_alloc _ _) | exact (o1.below (bel_alloc _ _)).below (Below.refl _ _).drew) gB (by decide)).cell 4 rfl; obtain ⟨gB', cB', nB', hvB, hnB⟩ := own_some' oB (by simp); subst hvB; have HnB : Hid _ := hnB; clear hnB gB)
      | (go_at_call 29; refine (l3PutWords_any gB' nB' cB' ([4] ++ [IntKind.u8.wrap (IntKind.i64.wrap (2 * (l1 : Int)))]) _ _ _ ws _ HnB.out oB.sl.2 (by simp) H1.out.1 (S1.out.1.below BB) (by have := H1.out; have := HLn.out; omega) (by have := H1.out; have := HLn.out; omega)).mono ?_; rintro e w3 h3; have XC := h3.bel; have k3 : w3.cell? ⟨w.heap.size, 4, none⟩ = _ := (XC.cell (p := ⟨w.heap.size, 4, none⟩) (World.block_lt_of_cell? _ _ kB)).trans kB; replace h3 := nw_next BB h3; obtain ⟨g, c, n, rfl, h4⟩ := h3; have H3 : Hid _ := h4; clear h4))
  all_goals (go_wp2; go_ret; rw [← E3.out]; exact ⟨g, c, n, rfl, H3.out⟩)
set_option maxRecDepth 20000 in
set_option maxHeartbeats 8000000 in
theorem specPutA_5 (pl nn : Int) (a1 a2 : Option Addr) (l1 l2 c1 c2 : Nat) (ws : List Int) (bs : List Bool) (w : World) (h1 : l1 = ws.length) (h2 : l2 = bs.length) (s1 : SlI w a1 ws) (s2 : SlB w a2 bs) (hl1 : ws.length ≤ 2000000) (hl2 : bs.length ≤ 2000000) (hb : okA 5 0 pl nn ws l1 l2 = true) :
    Calls Tryz.prog 11 #[rp 5 0 pl nn a1 a2 l1 l2 c1 c2] w fun e w' => Nw w w' e (putA 5 0 pl nn ws bs) := by
  have B0 := bel_alloc w (.cells #[.int .i64 5, .int .i64 0, .int .i64 pl, .int .i64 nn, .slice a1 l1 c1, .slice a2 l2 c2] 36)
  have X0 := Blk.new w #[.int .i64 5, .int .i64 0, .int .i64 pl, .int .i64 nn, .slice a1 l1 c1, .slice a2 l2 c2] 36
  have H1 : Hid (l1 = ws.length ∧ l2 = bs.length) := ⟨h1, h2⟩
  have S1 : Hid (SlI w a1 ws ∧ SlB w a2 bs) := ⟨s1, s2⟩
  obtain ⟨x0, x1, x2, x3, x4, x5⟩ := X0.six
  have HOK : Hid (okA 5 0 pl nn ws l1 l2 = true) := hb
  clear h1 h2 s1 s2
  go_enter Tryz.func11, Tryz.ntmps11
  go_wp2_with fail
  refine (specRespOk_q 5 0 pl nn a1 a2 l1 l2 c1 c2 ws bs _ H1.out.1 H1.out.2 (S1.out.1.below B0) (S1.out.2.below B0) hl1 hl2).mono ?_
  rintro e w1 ⟨rfl, b'⟩
  rw [hb]
  have B1 := bel_next B0 b'
  have X1 := X0.below b'
  obtain ⟨y0, y1, y2, y3, y4, y5⟩ := X1.six
  clear X0 x0 x1 x2 x3 x4 x5 b' B0 hb
  have HLn : Hid (l2 = 1) := by show l2 = 1; have hb := HOK.out; simp [okA, okAK, kindB, inB, zr4] at hb; omega
  obtain ⟨z1, hz1⟩ : ∃ z1, z1 = w1.alloc (.cells #[.int .u8 5] 5) := ⟨_, rfl⟩
  have HZ : Hid (z1 = _) := hz1
  obtain ⟨gl, hgl⟩ : ∃ gl, gl = w1.heap.size := ⟨_, rfl⟩
  have HG : Hid (gl = w1.heap.size) := hgl
  have q1 : Below w1.heap.size w1 z1 := by rw [hz1]; exact bel_alloc _ _
  have o1 : Own z1 w.heap.size (.slice (some ⟨gl, 0, none⟩) 1 1) [5] := by rw [hz1, hgl]; exact own_lit1 w1 5 w.heap.size B1.size
  have Bz := bel_next B1 q1
  have Xz := X1.below q1
  clear hz1 hgl q1
  obtain ⟨t0, t1, t2, t3, t4, t5⟩ := (X1.below (bel_alloc w1 (.cells #[.int .u8 5] 5))).six
  go_upto_region 16 with fail
  rw [← HZ.out]
  simp only [← HG.out]
  obtain ⟨v0, v1, v2, v3, v4, v5⟩ := Xz.six
  clear y0 y1 y2 y3 y4 y5 t0 t1 t2 t3 t4 t5 X1 B1 HZ HG
  have dz : Below z1.heap.size z1 z1.drew := (Below.refl _ _).drew
  obtain rfl : l2 = 1 := HLn.out
  obtain ⟨bk, off, ea, hbk, hc⟩ := cell_atB (S1.out.2.below Bz) (show 0 < bs.length by have := H1.out; omega)
  have hc0 : z1.cell? ⟨bk, off, none⟩ = some (.bool (bs.getD 0 false)) := by simpa using hc
  subst ea
  clear hc
  generalize hx : bs.getD 0 false = x at *
  go_region_held3 (fun w' => w'.cell? ⟨w.heap.size, 2, none⟩ = some (.int .i64 pl) ∧ w'.cell? ⟨w.heap.size, 5, none⟩ = some (.slice (some ⟨bk, off, none⟩) 1 c2) ∧ w'.cell? ⟨bk, off, none⟩ = some (.bool x)) (go_keep)
    (first
      | (go_at_call 31; refine (specPutWord_nw gl 1 1 [5] pl _ rfl (by first | exact o1.sl.2 | exact o1.sl.2.below dz) (by simp)).mono ?_; rintro e wA ⟨gA, cA, nA, rfl, hnA, oA', bA⟩; have bA0 : Below z1.heap.size z1 wA := (by first | exact bA | exact bel_next dz bA); have oA : Own wA z1.heap.size (.slice (some ⟨gA, 0, none⟩) nA cA) ([5] ++ wb pl) := oA'; have XA := Xz.below bA0; have kA := XA.cell 2 rfl; have kA1 := XA.cell 5 rfl; have kA2 : wA.cell? ⟨bk, off, none⟩ = some (.bool x) := (bA0.cell (p := ⟨bk, off, none⟩) hbk).trans hc0; clear hnA oA' bA XA)
      | (go_at_call 30; refine (l3Coil_any gA nA cA ([5] ++ wb pl) x _ z1.heap.size bA0.size oA (by simp [wb])).mono ?_; rintro e w3 ⟨g, c, n, rfl, hn3, o3, _, hbb⟩; have b3 := hbb _ bA0; have X3 := Xz.below b3; have k3 := X3.cell 2 rfl; have k31 := X3.cell 5 rfl; have k32 : w3.cell? ⟨bk, off, none⟩ = some (.bool x) := (b3.cell (p := ⟨bk, off, none⟩) hbk).trans hc0; have e3 : ([5] ++ wb pl) ++ [bif x then 255 else 0, 0] = putA 5 0 pl nn ws bs := (by unfold putA; rw [hx]; cases x <;> rfl); have HR : Hid (Nw w w3 (.returned (.slice (some ⟨g, 0, none⟩) n c)) (putA 5 0 pl nn ws bs)) := (by show Nw _ _ _ _; rw [← e3]; exact ⟨g, c, n, rfl, hn3, own_mono o3 Bz.size, bel_next Bz b3⟩); clear hn3 o3 hbb e3 b3 X3))
  all_goals (go_wp2; go_ret; exact HR.out)
set_option maxRecDepth 20000 in
set_option maxHeartbeats 8000000 in
theorem specPutA_6 (pl nn : Int) (a1 a2 : Option Addr) (l1 l2 c1 c2 : Nat) (ws : List Int) (bs : List Bool) (w : World) (h1 : l1 = ws.length) (h2 : l2 = bs.length) (s1 : SlI w a1 ws) (s2 : SlB w a2 bs) (hl1 : ws.length ≤ 2000000) (hl2 : bs.length ≤ 2000000) (hb : okA 6 0 pl nn ws l1 l2 = true) :
    Calls Tryz.prog 11 #[rp 6 0 pl nn a1 a2 l1 l2 c1 c2] w fun e w' => Nw w w' e (putA 6 0 pl nn ws bs) := by
  have B0 := bel_alloc w (.cells #[.int .i64 6, .int .i64 0, .int .i64 pl, .int .i64 nn, .slice a1 l1 c1, .slice a2 l2 c2] 36)
  have X0 := Blk.new w #[.int .i64 6, .int .i64 0, .int .i64 pl, .int .i64 nn, .slice a1 l1 c1, .slice a2 l2 c2] 36
  have H1 : Hid (l1 = ws.length ∧ l2 = bs.length) := ⟨h1, h2⟩
  have S1 : Hid (SlI w a1 ws ∧ SlB w a2 bs) := ⟨s1, s2⟩
  obtain ⟨x0, x1, x2, x3, x4, x5⟩ := X0.six
  have HOK : Hid (okA 6 0 pl nn ws l1 l2 = true) := hb
  clear h1 h2 s1 s2
  go_enter Tryz.func11, Tryz.ntmps11
  go_wp2_with fail
  refine (specRespOk_q 6 0 pl nn a1 a2 l1 l2 c1 c2 ws bs _ H1.out.1 H1.out.2 (S1.out.1.below B0) (S1.out.2.below B0) hl1 hl2).mono ?_
  rintro e w1 ⟨rfl, b'⟩
  rw [hb]
  have B1 := bel_next B0 b'
  have X1 := X0.below b'
  obtain ⟨y0, y1, y2, y3, y4, y5⟩ := X1.six
  clear X0 x0 x1 x2 x3 x4 x5 b' B0 hb
  have HLn : Hid (l1 = 1) := by show l1 = 1; have hb := HOK.out; simp [okA, okAK, kindB, inB, zr4] at hb; omega
  obtain ⟨z1, hz1⟩ : ∃ z1, z1 = w1.alloc (.cells #[.int .u8 6] 5) := ⟨_, rfl⟩
  have HZ : Hid (z1 = _) := hz1
  obtain ⟨gl, hgl⟩ : ∃ gl, gl = w1.heap.size := ⟨_, rfl⟩
  have HG : Hid (gl = w1.heap.size) := hgl
  have q1 : Below w1.heap.size w1 z1 := by rw [hz1]; exact bel_alloc _ _
  have o1 : Own z1 w.heap.size (.slice (some ⟨gl, 0, none⟩) 1 1) [6] := by rw [hz1, hgl]; exact own_lit1 w1 6 w.heap.size B1.size
  have Bz := bel_next B1 q1
  have Xz := X1.below q1
  clear hz1 hgl q1
  obtain ⟨t0, t1, t2, t3, t4, t5⟩ := (X1.below (bel_alloc w1 (.cells #[.int .u8 6] 5))).six
  go_upto_region 19 with fail
  rw [← HZ.out]
  simp only [← HG.out]
  obtain ⟨v0, v1, v2, v3, v4, v5⟩ := Xz.six
  clear y0 y1 y2 y3 y4 y5 t0 t1 t2 t3 t4 t5 X1 B1 HZ HG
  have dz : Below z1.heap.size z1 z1.drew := (Below.refl _ _).drew
  go_region_held3 (fun w' => w'.cell? ⟨w.heap.size, 2, none⟩ = some (.int .i64 pl) ∧ w'.cell? ⟨w.heap.size, 4, none⟩ = some (.slice a1 l1 c1)) (go_keep)
    (first
      | (go_at_call 31; refine (specPutWord_nw gl 1 1 [6] pl _ rfl (by first | exact o1.sl.2 | exact o1.sl.2.below dz) (by simp)).mono ?_; rintro e wA ⟨gA, cA, nA, rfl, hnA, oA', bA⟩; have BA := bel_next (w0 := w) (by first | exact Bz | exact Bz.drew) bA; have XA := Blk.below (by first | exact Xz | exact Xz.below dz) bA; have oA := own_mono oA' (by first | exact Bz.size | exact Bz.drew.size); have kA := XA.cell 2 rfl; have kA1 := XA.cell 4 rfl; have HnA : Hid _ := hnA; clear hnA oA' bA)
      | (go_at_call 29; refine (l3PutWords_any gA nA cA ([6] ++ wb pl) _ _ _ ws _ HnA.out oA.sl.2 (by simp [wb]) H1.out.1 (S1.out.1.below BA) (by have := H1.out; have := HLn.out; omega) (by have := H1.out; have := HLn.out; omega)).mono ?_; rintro e w3 h3; have X3 := XA.below h3.bel; have k3 := X3.cell 2 rfl; have k31 := X3.cell 4 rfl; replace h3 := nw_next BA h3; obtain ⟨g, c, n, rfl, h4⟩ := h3; have H3 : Hid _ := h4; clear h4))
  all_goals (go_wp2; go_ret; exact ⟨g, c, n, rfl, H3.out⟩)
set_option maxRecDepth 20000 in
set_option maxHeartbeats 8000000 in
theorem specPutA_15 (pl nn : Int) (a1 a2 : Option Addr) (l1 l2 c1 c2 : Nat) (ws : List Int) (bs : List Bool) (w : World) (h1 : l1 = ws.length) (h2 : l2 = bs.length) (s1 : SlI w a1 ws) (s2 : SlB w a2 bs) (hl1 : ws.length ≤ 2000000) (hl2 : bs.length ≤ 2000000) (hb : okA 15 0 pl nn ws l1 l2 = true) :
    Calls Tryz.prog 11 #[rp 15 0 pl nn a1 a2 l1 l2 c1 c2] w fun e w' => Nw w w' e (putA 15 0 pl nn ws bs) := by
  have B0 := bel_alloc w (.cells #[.int .i64 15, .int .i64 0, .int .i64 pl, .int .i64 nn, .slice a1 l1 c1, .slice a2 l2 c2] 36)
  have X0 := Blk.new w #[.int .i64 15, .int .i64 0, .int .i64 pl, .int .i64 nn, .slice a1 l1 c1, .slice a2 l2 c2] 36
  have H1 : Hid (l1 = ws.length ∧ l2 = bs.length) := ⟨h1, h2⟩
  have S1 : Hid (SlI w a1 ws ∧ SlB w a2 bs) := ⟨s1, s2⟩
  obtain ⟨x0, x1, x2, x3, x4, x5⟩ := X0.six
  have HOK : Hid (okA 15 0 pl nn ws l1 l2 = true) := hb
  clear h1 h2 s1 s2
  go_enter Tryz.func11, Tryz.ntmps11
  go_wp2_with fail
  refine (specRespOk_q 15 0 pl nn a1 a2 l1 l2 c1 c2 ws bs _ H1.out.1 H1.out.2 (S1.out.1.below B0) (S1.out.2.below B0) hl1 hl2).mono ?_
  rintro e w1 ⟨rfl, b'⟩
  rw [hb]
  have B1 := bel_next B0 b'
  have X1 := X0.below b'
  obtain ⟨y0, y1, y2, y3, y4, y5⟩ := X1.six
  clear X0 x0 x1 x2 x3 x4 x5 b' B0 hb
  obtain ⟨z1, hz1⟩ : ∃ z1, z1 = w1.alloc (.cells #[.int .u8 15] 5) := ⟨_, rfl⟩
  have HZ : Hid (z1 = _) := hz1
  obtain ⟨gl, hgl⟩ : ∃ gl, gl = w1.heap.size := ⟨_, rfl⟩
  have HG : Hid (gl = w1.heap.size) := hgl
  have q1 : Below w1.heap.size w1 z1 := by rw [hz1]; exact bel_alloc _ _
  have o1 : Own z1 w.heap.size (.slice (some ⟨gl, 0, none⟩) 1 1) [15] := by rw [hz1, hgl]; exact own_lit1 w1 15 w.heap.size B1.size
  have Bz := bel_next B1 q1
  have Xz := X1.below q1
  clear hz1 hgl q1
  obtain ⟨t0, t1, t2, t3, t4, t5⟩ := (X1.below (bel_alloc w1 (.cells #[.int .u8 15] 5))).six
  go_upto_region 20 with fail
  rw [← HZ.out]
  simp only [← HG.out]
  obtain ⟨v0, v1, v2, v3, v4, v5⟩ := Xz.six
  clear y0 y1 y2 y3 y4 y5 t0 t1 t2 t3 t4 t5 X1 B1 HZ HG
  have dz : Below z1.heap.size z1 z1.drew := (Below.refl _ _).drew
  go_region_held3 (fun w' => w'.cell? ⟨w.heap.size, 2, none⟩ = some (.int .i64 pl) ∧ w'.cell? ⟨w.heap.size, 3, none⟩ = some (.int .i64 nn)) (go_keep)
    (first
      | (go_at_call_of 31 gl; refine (specPutWord_nw gl 1 1 [15] pl _ rfl (by first | exact o1.sl.2 | exact o1.sl.2.below dz) (by simp)).mono ?_; rintro e wA ⟨gA, cA, nA, rfl, hnA, oA', bA⟩; have BA := bel_next (w0 := w) (by first | exact Bz | exact Bz.drew) bA; have XA := Blk.below (by first | exact Xz | exact Xz.below dz) bA; have oA := own_mono oA' (by first | exact Bz.size | exact Bz.drew.size); have kA := XA.cell 2 rfl; have kA1 := XA.cell 3 rfl; have HnA : Hid _ := hnA; clear hnA oA' bA)
      | (go_at_call_of 31 nA; refine (specPutWord_nw gA nA cA ([15] ++ wb pl) nn _ HnA.out oA.sl.2 (by simp [wb])).mono ?_; rintro e w3 h3; have X3 := XA.below h3.bel; have k3 := X3.cell 2 rfl; have k31 := X3.cell 3 rfl; replace h3 := nw_next BA h3; obtain ⟨g, c, n, rfl, h4⟩ := h3; have H3 : Hid _ := h4; clear h4))
  all_goals (go_wp2; go_ret; exact ⟨g, c, n, rfl, H3.out⟩)
set_option maxRecDepth 20000 in
set_option maxHeartbeats 8000000 in
theorem specPutA_16 (pl nn : Int) (a1 a2 : Option Addr) (l1 l2 c1 c2 : Nat) (ws : List Int) (bs : List Bool) (w : World) (h1 : l1 = ws.length) (h2 : l2 = bs.length) (s1 : SlI w a1 ws) (s2 : SlB w a2 bs) (hl1 : ws.length ≤ 2000000) (hl2 : bs.length ≤ 2000000) (hb : okA 16 0 pl nn ws l1 l2 = true) :
    Calls Tryz.prog 11 #[rp 16 0 pl nn a1 a2 l1 l2 c1 c2] w fun e w' => Nw w w' e (putA 16 0 pl nn ws bs) := by
  have B0 := bel_alloc w (.cells #[.int .i64 16, .int .i64 0, .int .i64 pl, .int .i64 nn, .slice a1 l1 c1, .slice a2 l2 c2] 36)
  have X0 := Blk.new w #[.int .i64 16, .int .i64 0, .int .i64 pl, .int .i64 nn, .slice a1 l1 c1, .slice a2 l2 c2] 36
  have H1 : Hid (l1 = ws.length ∧ l2 = bs.length) := ⟨h1, h2⟩
  have S1 : Hid (SlI w a1 ws ∧ SlB w a2 bs) := ⟨s1, s2⟩
  obtain ⟨x0, x1, x2, x3, x4, x5⟩ := X0.six
  have HOK : Hid (okA 16 0 pl nn ws l1 l2 = true) := hb
  clear h1 h2 s1 s2
  go_enter Tryz.func11, Tryz.ntmps11
  go_wp2_with fail
  refine (specRespOk_q 16 0 pl nn a1 a2 l1 l2 c1 c2 ws bs _ H1.out.1 H1.out.2 (S1.out.1.below B0) (S1.out.2.below B0) hl1 hl2).mono ?_
  rintro e w1 ⟨rfl, b'⟩
  rw [hb]
  have B1 := bel_next B0 b'
  have X1 := X0.below b'
  obtain ⟨y0, y1, y2, y3, y4, y5⟩ := X1.six
  clear X0 x0 x1 x2 x3 x4 x5 b' B0 hb
  obtain ⟨z1, hz1⟩ : ∃ z1, z1 = w1.alloc (.cells #[.int .u8 16] 5) := ⟨_, rfl⟩
  have HZ : Hid (z1 = _) := hz1
  obtain ⟨gl, hgl⟩ : ∃ gl, gl = w1.heap.size := ⟨_, rfl⟩
  have HG : Hid (gl = w1.heap.size) := hgl
  have q1 : Below w1.heap.size w1 z1 := by rw [hz1]; exact bel_alloc _ _
  have o1 : Own z1 w.heap.size (.slice (some ⟨gl, 0, none⟩) 1 1) [16] := by rw [hz1, hgl]; exact own_lit1 w1 16 w.heap.size B1.size
  have Bz := bel_next B1 q1
  have Xz := X1.below q1
  clear hz1 hgl q1
  obtain ⟨t0, t1, t2, t3, t4, t5⟩ := (X1.below (bel_alloc w1 (.cells #[.int .u8 16] 5))).six
  go_upto_region 20 with fail
  rw [← HZ.out]
  simp only [← HG.out]
  obtain ⟨v0, v1, v2, v3, v4, v5⟩ := Xz.six
  clear y0 y1 y2 y3 y4 y5 t0 t1 t2 t3 t4 t5 X1 B1 HZ HG
  have dz : Below z1.heap.size z1 z1.drew := (Below.refl _ _).drew
  go_region_held3 (fun w' => w'.cell? ⟨w.heap.size, 2, none⟩ = some (.int .i64 pl) ∧ w'.cell? ⟨w.heap.size, 3, none⟩ = some (.int .i64 nn)) (go_keep)
    (first
      | (go_at_call_of 31 gl; refine (specPutWord_nw gl 1 1 [16] pl _ rfl (by first | exact o1.sl.2 | exact o1.sl.2.below dz) (by simp)).mono ?_; rintro e wA ⟨gA, cA, nA, rfl, hnA, oA', bA⟩; have BA := bel_next (w0 := w) (by first | exact Bz | exact Bz.drew) bA; have XA := Blk.below (by first | exact Xz | exact Xz.below dz) bA; have oA := own_mono oA' (by first | exact Bz.size | exact Bz.drew.size); have kA := XA.cell 2 rfl; have kA1 := XA.cell 3 rfl; have HnA : Hid _ := hnA; clear hnA oA' bA)
      | (go_at_call_of 31 nA; refine (specPutWord_nw gA nA cA ([16] ++ wb pl) nn _ HnA.out oA.sl.2 (by simp [wb])).mono ?_; rintro e w3 h3; have X3 := XA.below h3.bel; have k3 := X3.cell 2 rfl; have k31 := X3.cell 3 rfl; replace h3 := nw_next BA h3; obtain ⟨g, c, n, rfl, h4⟩ := h3; have H3 : Hid _ := h4; clear h4))
  all_goals (go_wp2; go_ret; exact ⟨g, c, n, rfl, H3.out⟩)
set_option maxRecDepth 20000 in
set_option maxHeartbeats 8000000 in
theorem specPutA_22 (pl nn : Int) (a1 a2 : Option Addr) (l1 l2 c1 c2 : Nat) (ws : List Int) (bs : List Bool) (w : World) (h1 : l1 = ws.length) (h2 : l2 = bs.length) (s1 : SlI w a1 ws) (s2 : SlB w a2 bs) (hl1 : ws.length ≤ 2000000) (hl2 : bs.length ≤ 2000000) (hb : okA 22 0 pl nn ws l1 l2 = true) :
    Calls Tryz.prog 11 #[rp 22 0 pl nn a1 a2 l1 l2 c1 c2] w fun e w' => Nw w w' e (putA 22 0 pl nn ws bs) := by
  have B0 := bel_alloc w (.cells #[.int .i64 22, .int .i64 0, .int .i64 pl, .int .i64 nn, .slice a1 l1 c1, .slice a2 l2 c2] 36)
  have X0 := Blk.new w #[.int .i64 22, .int .i64 0, .int .i64 pl, .int .i64 nn, .slice a1 l1 c1, .slice a2 l2 c2] 36
  have H1 : Hid (l1 = ws.length ∧ l2 = bs.length) := ⟨h1, h2⟩
  have S1 : Hid (SlI w a1 ws ∧ SlB w a2 bs) := ⟨s1, s2⟩
  obtain ⟨x0, x1, x2, x3, x4, x5⟩ := X0.six
  have HOK : Hid (okA 22 0 pl nn ws l1 l2 = true) := hb
  clear h1 h2 s1 s2
  go_enter Tryz.func11, Tryz.ntmps11
  go_wp2_with fail
  refine (specRespOk_q 22 0 pl nn a1 a2 l1 l2 c1 c2 ws bs _ H1.out.1 H1.out.2 (S1.out.1.below B0) (S1.out.2.below B0) hl1 hl2).mono ?_
  rintro e w1 ⟨rfl, b'⟩
  rw [hb]
  have B1 := bel_next B0 b'
  have X1 := X0.below b'
  obtain ⟨y0, y1, y2, y3, y4, y5⟩ := X1.six
  clear X0 x0 x1 x2 x3 x4 x5 b' B0 hb
  have HLn : Hid (l1 = 2) := by show l1 = 2; have hb := HOK.out; simp [okA, okAK, kindB, inB, zr4] at hb; omega
  obtain ⟨z1, hz1⟩ : ∃ z1, z1 = w1.alloc (.cells #[.int .u8 22] 5) := ⟨_, rfl⟩
  have HZ : Hid (z1 = _) := hz1
  obtain ⟨gl, hgl⟩ : ∃ gl, gl = w1.heap.size := ⟨_, rfl⟩
  have HG : Hid (gl = w1.heap.size) := hgl
  have q1 : Below w1.heap.size w1 z1 := by rw [hz1]; exact bel_alloc _ _
  have o1 : Own z1 w.heap.size (.slice (some ⟨gl, 0, none⟩) 1 1) [22] := by rw [hz1, hgl]; exact own_lit1 w1 22 w.heap.size B1.size
  have Bz := bel_next B1 q1
  have Xz := X1.below q1
  clear hz1 hgl q1
  obtain ⟨t0, t1, t2, t3, t4, t5⟩ := (X1.below (bel_alloc w1 (.cells #[.int .u8 22] 5))).six
  go_upto_region 19 with fail
  rw [← HZ.out]
  simp only [← HG.out]
  obtain ⟨v0, v1, v2, v3, v4, v5⟩ := Xz.six
  clear y0 y1 y2 y3 y4 y5 t0 t1 t2 t3 t4 t5 X1 B1 HZ HG
  have dz : Below z1.heap.size z1 z1.drew := (Below.refl _ _).drew
  go_region_held3 (fun w' => w'.cell? ⟨w.heap.size, 2, none⟩ = some (.int .i64 pl) ∧ w'.cell? ⟨w.heap.size, 4, none⟩ = some (.slice a1 l1 c1)) (go_keep)
    (first
      | (go_at_call 31; refine (specPutWord_nw gl 1 1 [22] pl _ rfl (by first | exact o1.sl.2 | exact o1.sl.2.below dz) (by simp)).mono ?_; rintro e wA ⟨gA, cA, nA, rfl, hnA, oA', bA⟩; have BA := bel_next (w0 := w) (by first | exact Bz | exact Bz.drew) bA; have XA := Blk.below (by first | exact Xz | exact Xz.below dz) bA; have oA := own_mono oA' (by first | exact Bz.size | exact Bz.drew.size); have kA := XA.cell 2 rfl; have kA1 := XA.cell 4 rfl; have HnA : Hid _ := hnA; clear hnA oA' bA)
      | (go_at_call 29; refine (l3PutWords_any gA nA cA ([22] ++ wb pl) _ _ _ ws _ HnA.out oA.sl.2 (by simp [wb]) H1.out.1 (S1.out.1.below BA) (by have := H1.out; have := HLn.out; omega) (by have := H1.out; have := HLn.out; omega)).mono ?_; rintro e w3 h3; have X3 := XA.below h3.bel; have k3 := X3.cell 2 rfl; have k31 := X3.cell 4 rfl; replace h3 := nw_next BA h3; obtain ⟨g, c, n, rfl, h4⟩ := h3; have H3 : Hid _ := h4; clear h4))
  all_goals (go_wp2; go_ret; exact ⟨g, c, n, rfl, H3.out⟩)
set_option maxRecDepth 20000 in
set_option maxHeartbeats 8000000 in
theorem specPutA_23 (pl nn : Int) (a1 a2 : Option Addr) (l1 l2 c1 c2 : Nat) (ws : List Int) (bs : List Bool) (w : World) (h1 : l1 = ws.length) (h2 : l2 = bs.length) (s1 : SlI w a1 ws) (s2 : SlB w a2 bs) (hl1 : ws.length ≤ 2000000) (hl2 : bs.length ≤ 2000000) (hb : okA 23 0 pl nn ws l1 l2 = true) :
    Calls Tryz.prog 11 #[rp 23 0 pl nn a1 a2 l1 l2 c1 c2] w fun e w' => Nw w w' e (putA 23 0 pl nn ws bs) := by
  have B0 := bel_alloc w (.cells #[.int .i64 23, .int .i64 0, .int .i64 pl, .int .i64 nn, .slice a1 l1 c1, .slice a2 l2 c2] 36)
  have X0 := Blk.new w #[.int .i64 23, .int .i64 0, .int .i64 pl, .int .i64 nn, .slice a1 l1 c1, .slice a2 l2 c2] 36
  have H1 : Hid (l1 = ws.length ∧ l2 = bs.length) := ⟨h1, h2⟩
  have S1 : Hid (SlI w a1 ws ∧ SlB w a2 bs) := ⟨s1, s2⟩
  obtain ⟨x0, x1, x2, x3, x4, x5⟩ := X0.six
  have HOK : Hid (okA 23 0 pl nn ws l1 l2 = true) := hb
  clear h1 h2 s1 s2
  go_enter Tryz.func11, Tryz.ntmps11
  go_wp2_with fail
  refine (specRespOk_q 23 0 pl nn a1 a2 l1 l2 c1 c2 ws bs _ H1.out.1 H1.out.2 (S1.out.1.below B0) (S1.out.2.below B0) hl1 hl2).mono ?_
  rintro e w1 ⟨rfl, b'⟩
  rw [hb]
  have B1 := bel_next B0 b'
  have X1 := X0.below b'
  obtain ⟨y0, y1, y2, y3, y4, y5⟩ := X1.six
  clear X0 x0 x1 x2 x3 x4 x5 b' B0 hb
  have HLn : Hid (1 ≤ l1 ∧ l1 ≤ 125) := by show 1 ≤ l1 ∧ l1 ≤ 125; have hb := HOK.out; simp [okA, okAK, kindB, inB, zr4] at hb; omega
  obtain ⟨z1, hz1⟩ : ∃ z1, z1 = w1.alloc (.cells #[.int .u8 23] 5) := ⟨_, rfl⟩
  have HZ : Hid (z1 = _) := hz1
  obtain ⟨gl, hgl⟩ : ∃ gl, gl = w1.heap.size := ⟨_, rfl⟩
  have HG : Hid (gl = w1.heap.size) := hgl
  have q1 : Below w1.heap.size w1 z1 := by rw [hz1]; exact bel_alloc _ _
  have o1 : Own z1 w.heap.size (.slice (some ⟨gl, 0, none⟩) 1 1) [23] := by rw [hz1, hgl]; exact own_lit1 w1 23 w.heap.size B1.size
  have Bz := bel_next B1 q1
  have Xz := X1.below q1
  clear hz1 hgl q1
  obtain ⟨t0, t1, t2, t3, t4, t5⟩ := (X1.below (bel_alloc w1 (.cells #[.int .u8 23] 5))).six
  go_upto_region 14 with fail
  rw [← HZ.out]
  simp only [← HG.out]
  obtain ⟨v0, v1, v2, v3, v4, v5⟩ := Xz.six
  clear y0 y1 y2 y3 y4 y5 t0 t1 t2 t3 t4 t5 X1 B1 HZ HG
  have dz : Below z1.heap.size z1 z1.drew := (Below.refl _ _).drew
  have od := o1.below dz
  have E3 : Hid ([23] ++ [IntKind.u8.wrap (IntKind.i64.wrap (2 * (l1 : Int)))] ++ wbs ws = putA 23 0 pl nn ws bs) := by show _ = _; have := HLn.out; rw [byte_wrap l1 (by omega), H1.out.1]; rfl
  have qd := (bel_next Bz (bel_alloc z1 (.cells #[.int .u8 (IntKind.u8.wrap (IntKind.i64.wrap (2 * (l1 : Int))))] 5))).drew
  go_region_held3 (fun w' => w'.cell? ⟨w.heap.size, 4, none⟩ = some (.slice a1 l1 c1)) (go_keep)
    (first
      | (refine step_app rfl (.tmp 44) (.tmp 50) rfl w.heap.size (.slice (some ⟨gl, 0, none⟩) 1 1) [23] rfl (by first | exact od.below (bel_alloc _ _) | exact (o1.below (bel_alloc _ _)).below (Below.refl _ _).drew) ⟨_, 0, none⟩ 1 1 [IntKind.u8.wrap (IntKind.i64.wrap (2 * (l1 : Int)))] rfl rfl (by first | exact sl_lit1 _ _ rfl | exact (sl_lit1 z1 _ rfl).below (Below.refl _ _).drew) (by simp) (by have := Bz.size; simp; omega) ?_; intro vB wB oB gB; have BB : Below w.heap.size w wB := bel_grown (by first | exact bel_next Bz.drew (bel_alloc _ _) | exact qd) (by first | exact od.below (bel_alloc _ _) | exact (o1.below (bel_alloc _ _)).below (Below.refl _ _).drew) gB (Nat.le_refl _) (by have := Bz.size; simp; omega); have kB : wB.cell? ⟨w.heap.size, 4, none⟩ = _ := (Blk.row (by first | exact (Xz.below dz).below (bel_alloc _ _) | exact (Xz.below (bel_alloc _ _)).below (Below.refl _ _).drew) (by first | exact od.below (bel_alloc _ _) | exact (o1.below (bel_alloc _ _)).below (Below.refl _ _).drew) gB (by decide)).cell 4 rfl; obtain ⟨gB', cB', nB', hvB, hnB⟩ := own_some' oB (by simp); subst hvB; have HnB : Hid _ := hnB; clear hnB gB)
      | (go_at_call 29; refine (l3PutWords_any gB' nB' cB' ([23] ++ [IntKind.u8.wrap (IntKind.i64.wrap (2 * (l1 : Int)))]) _ _ _ ws _ HnB.out oB.sl.2 (by simp) H1.out.1 (S1.out.1.below BB) (by have := H1.out; have := HLn.out; omega) (by have := H1.out; have := HLn.out; omega)).mono ?_; rintro e w3 h3; have XC := h3.bel; have k3 : w3.cell? ⟨w.heap.size, 4, none⟩ = _ := (XC.cell (p := ⟨w.heap.size, 4, none⟩) (World.block_lt_of_cell? _ _ kB)).trans kB; replace h3 := nw_next BB h3; obtain ⟨g, c, n, rfl, h4⟩ := h3; have H3 : Hid _ := h4; clear h4))
  all_goals (go_wp2; go_ret; rw [← E3.out]; exact ⟨g, c, n, rfl, H3.out⟩)
set_option maxRecDepth 20000 in
set_option maxHeartbeats 8000000 in
theorem specPutF_1 (fl pl nn : Int) (a1 a2 : Option Addr) (l1 l2 c1 c2 : Nat) (ws : List Int) (bs : List Bool) (w : World) (h1 : l1 = ws.length) (h2 : l2 = bs.length) (s1 : SlI w a1 ws) (s2 : SlB w a2 bs) (hl1 : ws.length ≤ 2000000) (hl2 : bs.length ≤ 2000000) (hb : okA 1 fl pl nn ws l1 l2 = true) (h0 : ¬ fl = 0) :
    Calls Tryz.prog 11 #[rp 1 fl pl nn a1 a2 l1 l2 c1 c2] w fun e w' => Nw w w' e (putA 1 fl pl nn ws bs) := by
  have B0 := bel_alloc w (.cells #[.int .i64 1, .int .i64 fl, .int .i64 pl, .int .i64 nn, .slice a1 l1 c1, .slice a2 l2 c2] 36)
  have X0 := Blk.new w #[.int .i64 1, .int .i64 fl, .int .i64 pl, .int .i64 nn, .slice a1 l1 c1, .slice a2 l2 c2] 36
  have H1 : Hid (l1 = ws.length ∧ l2 = bs.length) := ⟨h1, h2⟩
  have S1 : Hid (SlI w a1 ws ∧ SlB w a2 bs) := ⟨s1, s2⟩
  obtain ⟨x0, x1, x2, x3, x4, x5⟩ := X0.six
  have HOK : Hid (okA 1 fl pl nn ws l1 l2 = true) := hb
  clear h1 h2 s1 s2
  go_enter Tryz.func11, Tryz.ntmps11
  go_wp2_with fail
  refine (specRespOk_q 1 fl pl nn a1 a2 l1 l2 c1 c2 ws bs _ H1.out.1 H1.out.2 (S1.out.1.below B0) (S1.out.2.below B0) hl1 hl2).mono ?_
  rintro e w1 ⟨rfl, b'⟩
  rw [hb]
  have B1 := bel_next B0 b'
  have X1 := X0.below b'
  obtain ⟨y0, y1, y2, y3, y4, y5⟩ := X1.six
  clear X0 x0 x1 x2 x3 x4 x5 b' B0 hb
  have hp : 0 < fl ∧ fl ≤ 255 := by have hb := HOK.out; simp [okA, kindB, inB] at hb; omega
  have hp1 : 0 < fl := hp.1
  have hf : fl % 256 = fl := by omega
  have o1 := own_lit2 w1 129 fl w.heap.size B1.size
  have B2 := bel_next B1 (bel_alloc w1 (.cells #[.int .u8 129, .int .u8 fl] 5))
  have R : Hid (Nw w (w1.alloc (.cells #[.int .u8 129, .int .u8 fl] 5)) (.returned (.slice (some ⟨w1.heap.size, 0, none⟩) 2 2)) (putA 1 fl pl nn ws bs)) := by show Nw _ _ _ _; have e : putA 1 fl pl nn ws bs = [129, fl] := (by unfold putA; rw [if_neg h0]; rfl); rw [e]; exact ⟨_, _, 2, rfl, rfl, o1, B2⟩
  clear o1 B2 hp h0
  go_wp2
  go_ret
  simp only [hf]
  exact R.out
set_option maxRecDepth 20000 in
set_option maxHeartbeats 8000000 in
theorem specPutF_2 (fl pl nn : Int) (a1 a2 : Option Addr) (l1 l2 c1 c2 : Nat) (ws : List Int) (bs : List Bool) (w : World) (h1 : l1 = ws.length) (h2 : l2 = bs.length) (s1 : SlI w a1 ws) (s2 : SlB w a2 bs) (hl1 : ws.length ≤ 2000000) (hl2 : bs.length ≤ 2000000) (hb : okA 2 fl pl nn ws l1 l2 = true) (h0 : ¬ fl = 0) :
    Calls Tryz.prog 11 #[rp 2 fl pl nn a1 a2 l1 l2 c1 c2] w fun e w' => Nw w w' e (putA 2 fl pl nn ws bs) := by
  have B0 := bel_alloc w (.cells #[.int .i64 2, .int .i64 fl, .int .i64 pl, .int .i64 nn, .slice a1 l1 c1, .slice a2 l2 c2] 36)
  have X0 := Blk.new w #[.int .i64 2, .int .i64 fl, .int .i64 pl, .int .i64 nn, .slice a1 l1 c1, .slice a2 l2 c2] 36
  have H1 : Hid (l1 = ws.length ∧ l2 = bs.length) := ⟨h1, h2⟩
  have S1 : Hid (SlI w a1 ws ∧ SlB w a2 bs) := ⟨s1, s2⟩
  obtain ⟨x0, x1, x2, x3, x4, x5⟩ := X0.six
  have HOK : Hid (okA 2 fl pl nn ws l1 l2 = true) := hb
  clear h1 h2 s1 s2
  go_enter Tryz.func11, Tryz.ntmps11
  go_wp2_with fail
  refine (specRespOk_q 2 fl pl nn a1 a2 l1 l2 c1 c2 ws bs _ H1.out.1 H1.out.2 (S1.out.1.below B0) (S1.out.2.below B0) hl1 hl2).mono ?_
  rintro e w1 ⟨rfl, b'⟩
  rw [hb]
  have B1 := bel_next B0 b'
  have X1 := X0.below b'
  obtain ⟨y0, y1, y2, y3, y4, y5⟩ := X1.six
  clear X0 x0 x1 x2 x3 x4 x5 b' B0 hb
  have hp : 0 < fl ∧ fl ≤ 255 := by have hb := HOK.out; simp [okA, kindB, inB] at hb; omega
  have hp1 : 0 < fl := hp.1
  have hf : fl % 256 = fl := by omega
  have o1 := own_lit2 w1 130 fl w.heap.size B1.size
  have B2 := bel_next B1 (bel_alloc w1 (.cells #[.int .u8 130, .int .u8 fl] 5))
  have R : Hid (Nw w (w1.alloc (.cells #[.int .u8 130, .int .u8 fl] 5)) (.returned (.slice (some ⟨w1.heap.size, 0, none⟩) 2 2)) (putA 2 fl pl nn ws bs)) := by show Nw _ _ _ _; have e : putA 2 fl pl nn ws bs = [130, fl] := (by unfold putA; rw [if_neg h0]; rfl); rw [e]; exact ⟨_, _, 2, rfl, rfl, o1, B2⟩
  clear o1 B2 hp h0
  go_wp2
  go_ret
  simp only [hf]
  exact R.out
set_option maxRecDepth 20000 in
set_option maxHeartbeats 8000000 in
theorem specPutF_3 (fl pl nn : Int) (a1 a2 : Option Addr) (l1 l2 c1 c2 : Nat) (ws : List Int) (bs : List Bool) (w : World) (h1 : l1 = ws.length) (h2 : l2 = bs.length) (s1 : SlI w a1 ws) (s2 : SlB w a2 bs) (hl1 : ws.length ≤ 2000000) (hl2 : bs.length ≤ 2000000) (hb : okA 3 fl pl nn ws l1 l2 = true) (h0 : ¬ fl = 0) :
    Calls Tryz.prog 11 #[rp 3 fl pl nn a1 a2 l1 l2 c1 c2] w fun e w' => Nw w w' e (putA 3 fl pl nn ws bs) := by
  have B0 := bel_alloc w (.cells #[.int .i64 3, .int .i64 fl, .int .i64 pl, .int .i64 nn, .slice a1 l1 c1, .slice a2 l2 c2] 36)
  have X0 := Blk.new w #[.int .i64 3, .int .i64 fl, .int .i64 pl, .int .i64 nn, .slice a1 l1 c1, .slice a2 l2 c2] 36
  have H1 : Hid (l1 = ws.length ∧ l2 = bs.length) := ⟨h1, h2⟩
  have S1 : Hid (SlI w a1 ws ∧ SlB w a2 bs) := ⟨s1, s2⟩
  obtain ⟨x0, x1, x2, x3, x4, x5⟩ := X0.six
  have HOK : Hid (okA 3 fl pl nn ws l1 l2 = true) := hb
  clear h1 h2 s1 s2
  go_enter Tryz.func11, Tryz.ntmps11
  go_wp2_with fail
  refine (specRespOk_q 3 fl pl nn a1 a2 l1 l2 c1 c2 ws bs _ H1.out.1 H1.out.2 (S1.out.1.below B0) (S1.out.2.below B0) hl1 hl2).mono ?_
  rintro e w1 ⟨rfl, b'⟩
  rw [hb]
  have B1 := bel_next B0 b'
  have X1 := X0.below b'
  obtain ⟨y0, y1, y2, y3, y4, y5⟩ := X1.six
  clear X0 x0 x1 x2 x3 x4 x5 b' B0 hb
  have hp : 0 < fl ∧ fl ≤ 255 := by have hb := HOK.out; simp [okA, kindB, inB] at hb; omega
  have hp1 : 0 < fl := hp.1
  have hf : fl % 256 = fl := by omega
  have o1 := own_lit2 w1 131 fl w.heap.size B1.size
  have B2 := bel_next B1 (bel_alloc w1 (.cells #[.int .u8 131, .int .u8 fl] 5))
  have R : Hid (Nw w (w1.alloc (.cells #[.int .u8 131, .int .u8 fl] 5)) (.returned (.slice (some ⟨w1.heap.size, 0, none⟩) 2 2)) (putA 3 fl pl nn ws bs)) := by show Nw _ _ _ _; have e : putA 3 fl pl nn ws bs = [131, fl] := (by unfold putA; rw [if_neg h0]; rfl); rw [e]; exact ⟨_, _, 2, rfl, rfl, o1, B2⟩
  clear o1 B2 hp h0
  go_wp2
  go_ret
  simp only [hf]
  exact R.out
set_option maxRecDepth 20000 in
set_option maxHeartbeats 8000000 in
theorem specPutF_4 (fl pl nn : Int) (a1 a2 : Option Addr) (l1 l2 c1 c2 : Nat) (ws : List Int) (bs : List Bool) (w : World) (h1 : l1 = ws.length) (h2 : l2 = bs.length) (s1 : SlI w a1 ws) (s2 : SlB w a2 bs) (hl1 : ws.length ≤ 2000000) (hl2 : bs.length ≤ 2000000) (hb : okA 4 fl pl nn ws l1 l2 = true) (h0 : ¬ fl = 0) :
    Calls Tryz.prog 11 #[rp 4 fl pl nn a1 a2 l1 l2 c1 c2] w fun e w' => Nw w w' e (putA 4 fl pl nn ws bs) := by
  have B0 := bel_alloc w (.cells #[.int .i64 4, .int .i64 fl, .int .i64 pl, .int .i64 nn, .slice a1 l1 c1, .slice a2 l2 c2] 36)
  have X0 := Blk.new w #[.int .i64 4, .int .i64 fl, .int .i64 pl, .int .i64 nn, .slice a1 l1 c1, .slice a2 l2 c2] 36
  have H1 : Hid (l1 = ws.length ∧ l2 = bs.length) := ⟨h1, h2⟩
  have S1 : Hid (SlI w a1 ws ∧ SlB w a2 bs) := ⟨s1, s2⟩
  obtain ⟨x0, x1, x2, x3, x4, x5⟩ := X0.six
  have HOK : Hid (okA 4 fl pl nn ws l1 l2 = true) := hb
  clear h1 h2 s1 s2
  go_enter Tryz.func11, Tryz.ntmps11
  go_wp2_with fail
  refine (specRespOk_q 4 fl pl nn a1 a2 l1 l2 c1 c2 ws bs _ H1.out.1 H1.out.2 (S1.out.1.below B0) (S1.out.2.below B0) hl1 hl2).mono ?_
  rintro e w1 ⟨rfl, b'⟩
  rw [hb]
  have B1 := bel_next B0 b'
  have X1 := X0.below b'
  obtain ⟨y0, y1, y2, y3, y4, y5⟩ := X1.six
  clear X0 x0 x1 x2 x3 x4 x5 b' B0 hb
  have hp : 0 < fl ∧ fl ≤ 255 := by have hb := HOK.out; simp [okA, kindB, inB] at hb; omega
  have hp1 : 0 < fl := hp.1
  have hf : fl % 256 = fl := by omega
  have o1 := own_lit2 w1 132 fl w.heap.size B1.size
  have B2 := bel_next B1 (bel_alloc w1 (.cells #[.int .u8 132, .int .u8 fl] 5))
  have R : Hid (Nw w (w1.alloc (.cells #[.int .u8 132, .int .u8 fl] 5)) (.returned (.slice (some ⟨w1.heap.size, 0, none⟩) 2 2)) (putA 4 fl pl nn ws bs)) := by show Nw _ _ _ _; have e : putA 4 fl pl nn ws bs = [132, fl] := (by unfold putA; rw [if_neg h0]; rfl); rw [e]; exact ⟨_, _, 2, rfl, rfl, o1, B2⟩
  clear o1 B2 hp h0
  go_wp2
  go_ret
  simp only [hf]
  exact R.out
set_option maxRecDepth 20000 in
set_option maxHeartbeats 8000000 in
theorem specPutF_5 (fl pl nn : Int) (a1 a2 : Option Addr) (l1 l2 c1 c2 : Nat) (ws : List Int) (bs : List Bool) (w : World) (h1 : l1 = ws.length) (h2 : l2 = bs.length) (s1 : SlI w a1 ws) (s2 : SlB w a2 bs) (hl1 : ws.length ≤ 2000000) (hl2 : bs.length ≤ 2000000) (hb : okA 5 fl pl nn ws l1 l2 = true) (h0 : ¬ fl = 0) :
    Calls Tryz.prog 11 #[rp 5 fl pl nn a1 a2 l1 l2 c1 c2] w fun e w' => Nw w w' e (putA 5 fl pl nn ws bs) := by
  have B0 := bel_alloc w (.cells #[.int .i64 5, .int .i64 fl, .int .i64 pl, .int .i64 nn, .slice a1 l1 c1, .slice a2 l2 c2] 36)
  have X0 := Blk.new w #[.int .i64 5, .int .i64 fl, .int .i64 pl, .int .i64 nn, .slice a1 l1 c1, .slice a2 l2 c2] 36
  have H1 : Hid (l1 = ws.length ∧ l2 = bs.length) := ⟨h1, h2⟩
  have S1 : Hid (SlI w a1 ws ∧ SlB w a2 bs) := ⟨s1, s2⟩
  obtain ⟨x0, x1, x2, x3, x4, x5⟩ := X0.six
  have HOK : Hid (okA 5 fl pl nn ws l1 l2 = true) := hb
  clear h1 h2 s1 s2
  go_enter Tryz.func11, Tryz.ntmps11
  go_wp2_with fail
  refine (specRespOk_q 5 fl pl nn a1 a2 l1 l2 c1 c2 ws bs _ H1.out.1 H1.out.2 (S1.out.1.below B0) (S1.out.2.below B0) hl1 hl2).mono ?_
  rintro e w1 ⟨rfl, b'⟩
  rw [hb]
  have B1 := bel_next B0 b'
  have X1 := X0.below b'
  obtain ⟨y0, y1, y2, y3, y4, y5⟩ := X1.six
  clear X0 x0 x1 x2 x3 x4 x5 b' B0 hb
  have hp : 0 < fl ∧ fl ≤ 255 := by have hb := HOK.out; simp [okA, kindB, inB] at hb; omega
  have hp1 : 0 < fl := hp.1
  have hf : fl % 256 = fl := by omega
  have o1 := own_lit2 w1 133 fl w.heap.size B1.size
  have B2 := bel_next B1 (bel_alloc w1 (.cells #[.int .u8 133, .int .u8 fl] 5))
  have R : Hid (Nw w (w1.alloc (.cells #[.int .u8 133, .int .u8 fl] 5)) (.returned (.slice (some ⟨w1.heap.size, 0, none⟩) 2 2)) (putA 5 fl pl nn ws bs)) := by show Nw _ _ _ _; have e : putA 5 fl pl nn ws bs = [133, fl] := (by unfold putA; rw [if_neg h0]; rfl); rw [e]; exact ⟨_, _, 2, rfl, rfl, o1, B2⟩
  clear o1 B2 hp h0
  go_wp2
  go_ret
  simp only [hf]
  exact R.out
set_option maxRecDepth 20000 in
set_option maxHeartbeats 8000000 in
theorem specPutF_6 (fl pl nn : Int) (a1 a2 : Option Addr) (l1 l2 c1 c2 : Nat) (ws : List Int) (bs : List Bool) (w : World) (h1 : l1 = ws.length) (h2 : l2 = bs.length) (s1 : SlI w a1 ws) (s2 : SlB w a2 bs) (hl1 : ws.length ≤ 2000000) (hl2 : bs.length ≤ 2000000) (hb : okA 6 fl pl nn ws l1 l2 = true) (h0 : ¬ fl = 0) :
    Calls Tryz.prog 11 #[rp 6 fl pl nn a1 a2 l1 l2 c1 c2] w fun e w' => Nw w w' e (putA 6 fl pl nn ws bs) := by
  have B0 := bel_alloc w (.cells #[.int .i64 6, .int .i64 fl, .int .i64 pl, .int .i64 nn, .slice a1 l1 c1, .slice a2 l2 c2] 36)
  have X0 := Blk.new w #[.int .i64 6, .int .i64 fl, .int .i64 pl, .int .i64 nn, .slice a1 l1 c1, .slice a2 l2 c2] 36
  have H1 : Hid (l1 = ws.length ∧ l2 = bs.length) := ⟨h1, h2⟩
  have S1 : Hid (SlI w a1 ws ∧ SlB w a2 bs) := ⟨s1, s2⟩
  obtain ⟨x0, x1, x2, x3, x4, x5⟩ := X0.six
  have HOK : Hid (okA 6 fl pl nn ws l1 l2 = true) := hb
  clear h1 h2 s1 s2
  go_enter Tryz.func11, Tryz.ntmps11
  go_wp2_with fail
  refine (specRespOk_q 6 fl pl nn a1 a2 l1 l2 c1 c2 ws bs _ H1.out.1 H1.out.2 (S1.out.1.below B0) (S1.out.2.below B0) hl1 hl2).mono ?_
  rintro e w1 ⟨rfl, b'⟩
  rw [hb]
  have B1 := bel_next B0 b'
  have X1 := X0.below b'
  obtain ⟨y0, y1, y2, y3, y4, y5⟩ := X1.six
  clear X0 x0 x1 x2 x3 x4 x5 b' B0 hb
  have hp : 0 < fl ∧ fl ≤ 255 := by have hb := HOK.out; simp [okA, kindB, inB] at hb; omega
  have hp1 : 0 < fl := hp.1
  have hf : fl % 256 = fl := by omega
  have o1 := own_lit2 w1 134 fl w.heap.size B1.size
  have B2 := bel_next B1 (bel_alloc w1 (.cells #[.int .u8 134, .int .u8 fl] 5))
  have R : Hid (Nw w (w1.alloc (.cells #[.int .u8 134, .int .u8 fl] 5)) (.returned (.slice (some ⟨w1.heap.size, 0, none⟩) 2 2)) (putA 6 fl pl nn ws bs)) := by show Nw _ _ _ _; have e : putA 6 fl pl nn ws bs = [134, fl] := (by unfold putA; rw [if_neg h0]; rfl); rw [e]; exact ⟨_, _, 2, rfl, rfl, o1, B2⟩
  clear o1 B2 hp h0
  go_wp2
  go_ret
  simp only [hf]
  exact R.out
set_option maxRecDepth 20000 in
set_option maxHeartbeats 8000000 in
theorem specPutF_15 (fl pl nn : Int) (a1 a2 : Option Addr) (l1 l2 c1 c2 : Nat) (ws : List Int) (bs : List Bool) (w : World) (h1 : l1 = ws.length) (h2 : l2 = bs.length) (s1 : SlI w a1 ws) (s2 : SlB w a2 bs) (hl1 : ws.length ≤ 2000000) (hl2 : bs.length ≤ 2000000) (hb : okA 15 fl pl nn ws l1 l2 = true) (h0 : ¬ fl = 0) :
    Calls Tryz.prog 11 #[rp 15 fl pl nn a1 a2 l1 l2 c1 c2] w fun e w' => Nw w w' e (putA 15 fl pl nn ws bs) := by
  have B0 := bel_alloc w (.cells #[.int .i64 15, .int .i64 fl, .int .i64 pl, .int .i64 nn, .slice a1 l1 c1, .slice a2 l2 c2] 36)
  have X0 := Blk.new w #[.int .i64 15, .int .i64 fl, .int .i64 pl, .int .i64 nn, .slice a1 l1 c1, .slice a2 l2 c2] 36
  have H1 : Hid (l1 = ws.length ∧ l2 = bs.length) := ⟨h1, h2⟩
  have S1 : Hid (SlI w a1 ws ∧ SlB w a2 bs) := ⟨s1, s2⟩
  obtain ⟨x0, x1, x2, x3, x4, x5⟩ := X0.six
  have HOK : Hid (okA 15 fl pl nn ws l1 l2 = true) := hb
  clear h1 h2 s1 s2
  go_enter Tryz.func11, Tryz.ntmps11
  go_wp2_with fail
  refine (specRespOk_q 15 fl pl nn a1 a2 l1 l2 c1 c2 ws bs _ H1.out.1 H1.out.2 (S1.out.1.below B0) (S1.out.2.below B0) hl1 hl2).mono ?_
  rintro e w1 ⟨rfl, b'⟩
  rw [hb]
  have B1 := bel_next B0 b'
  have X1 := X0.below b'
  obtain ⟨y0, y1, y2, y3, y4, y5⟩ := X1.six
  clear X0 x0 x1 x2 x3 x4 x5 b' B0 hb
  have hp : 0 < fl ∧ fl ≤ 255 := by have hb := HOK.out; simp [okA, kindB, inB] at hb; omega
  have hp1 : 0 < fl := hp.1
  have hf : fl % 256 = fl := by omega
  have o1 := own_lit2 w1 143 fl w.heap.size B1.size
  have B2 := bel_next B1 (bel_alloc w1 (.cells #[.int .u8 143, .int .u8 fl] 5))
  have R : Hid (Nw w (w1.alloc (.cells #[.int .u8 143, .int .u8 fl] 5)) (.returned (.slice (some ⟨w1.heap.size, 0, none⟩) 2 2)) (putA 15 fl pl nn ws bs)) := by show Nw _ _ _ _; have e : putA 15 fl pl nn ws bs = [143, fl] := (by unfold putA; rw [if_neg h0]; rfl); rw [e]; exact ⟨_, _, 2, rfl, rfl, o1, B2⟩
  clear o1 B2 hp h0
  go_wp2
  go_ret
  simp only [hf]
  exact R.out
set_option maxRecDepth 20000 in
set_option maxHeartbeats 8000000 in
theorem specPutF_16 (fl pl nn : Int) (a1 a2 : Option Addr) (l1 l2 c1 c2 : Nat) (ws : List Int) (bs : List Bool) (w : World) (h1 : l1 = ws.length) (h2 : l2 = bs.length) (s1 : SlI w a1 ws) (s2 : SlB w a2 bs) (hl1 : ws.length ≤ 2000000) (hl2 : bs.length ≤ 2000000) (hb : okA 16 fl pl nn ws l1 l2 = true) (h0 : ¬ fl = 0) :
    Calls Tryz.prog 11 #[rp 16 fl pl nn a1 a2 l1 l2 c1 c2] w fun e w' => Nw w w' e (putA 16 fl pl nn ws bs) := by
  have B0 := bel_alloc w (.cells #[.int .i64 16, .int .i64 fl, .int .i64 pl, .int .i64 nn, .slice a1 l1 c1, .slice a2 l2 c2] 36)
  have X0 := Blk.new w #[.int .i64 16, .int .i64 fl, .int .i64 pl, .int .i64 nn, .slice a1 l1 c1, .slice a2 l2 c2] 36
  have H1 : Hid (l1 = ws.length ∧ l2 = bs.length) := ⟨h1, h2⟩
  have S1 : Hid (SlI w a1 ws ∧ SlB w a2 bs) := ⟨s1, s2⟩
  obtain ⟨x0, x1, x2, x3, x4, x5⟩ := X0.six
  have HOK : Hid (okA 16 fl pl nn ws l1 l2 = true) := hb
  clear h1 h2 s1 s2
  go_enter Tryz.func11, Tryz.ntmps11
  go_wp2_with fail
  refine (specRespOk_q 16 fl pl nn a1 a2 l1 l2 c1 c2 ws bs _ H1.out.1 H1.out.2 (S1.out.1.below B0) (S1.out.2.below B0) hl1 hl2).mono ?_
  rintro e w1 ⟨rfl, b'⟩
  rw [hb]
  have B1 := bel_next B0 b'
  have X1 := X0.below b'
  obtain ⟨y0, y1, y2, y3, y4, y5⟩ := X1.six
  clear X0 x0 x1 x2 x3 x4 x5 b' B0 hb
  have hp : 0 < fl ∧ fl ≤ 255 := by have hb := HOK.out; simp [okA, kindB, inB] at hb; omega
  have hp1 : 0 < fl := hp.1
  have hf : fl % 256 = fl := by omega
  have o1 := own_lit2 w1 144 fl w.heap.size B1.size
  have B2 := bel_next B1 (bel_alloc w1 (.cells #[.int .u8 144, .int .u8 fl] 5))
  have R : Hid (Nw w (w1.alloc (.cells #[.int .u8 144, .int .u8 fl] 5)) (.returned (.slice (some ⟨w1.heap.size, 0, none⟩) 2 2)) (putA 16 fl pl nn ws bs)) := by show Nw _ _ _ _; have e : putA 16 fl pl nn ws bs = [144, fl] := (by unfold putA; rw [if_neg h0]; rfl); rw [e]; exact ⟨_, _, 2, rfl, rfl, o1, B2⟩
  clear o1 B2 hp h0
  go_wp2
  go_ret
  simp only [hf]
  exact R.out
set_option maxRecDepth 20000 in
set_option maxHeartbeats 8000000 in
theorem specPutF_22 (fl pl nn : Int) (a1 a2 : Option Addr) (l1 l2 c1 c2 : Nat) (ws : List Int) (bs : List Bool) (w : World) (h1 : l1 = ws.length) (h2 : l2 = bs.length) (s1 : SlI w a1 ws) (s2 : SlB w a2 bs) (hl1 : ws.length ≤ 2000000) (hl2 : bs.length ≤ 2000000) (hb : okA 22 fl pl nn ws l1 l2 = true) (h0 : ¬ fl = 0) :
    Calls Tryz.prog 11 #[rp 22 fl pl nn a1 a2 l1 l2 c1 c2] w fun e w' => Nw w w' e (putA 22 fl pl nn ws bs) := by
  have B0 := bel_alloc w (.cells #[.int .i64 22, .int .i64 fl, .int .i64 pl, .int .i64 nn, .slice a1 l1 c1, .slice a2 l2 c2] 36)
  have X0 := Blk.new w #[.int .i64 22, .int .i64 fl, .int .i64 pl, .int .i64 nn, .slice a1 l1 c1, .slice a2 l2 c2] 36
  have H1 : Hid (l1 = ws.length ∧ l2 = bs.length) := ⟨h1, h2⟩
  have S1 : Hid (SlI w a1 ws ∧ SlB w a2 bs) := ⟨s1, s2⟩
  obtain ⟨x0, x1, x2, x3, x4, x5⟩ := X0.six
  have HOK : Hid (okA 22 fl pl nn ws l1 l2 = true) := hb
  clear h1 h2 s1 s2
  go_enter Tryz.func11, Tryz.ntmps11
  go_wp2_with fail
  refine (specRespOk_q 22 fl pl nn a1 a2 l1 l2 c1 c2 ws bs _ H1.out.1 H1.out.2 (S1.out.1.below B0) (S1.out.2.below B0) hl1 hl2).mono ?_
  rintro e w1 ⟨rfl, b'⟩
  rw [hb]
  have B1 := bel_next B0 b'
  have X1 := X0.below b'
  obtain ⟨y0, y1, y2, y3, y4, y5⟩ := X1.six
  clear X0 x0 x1 x2 x3 x4 x5 b' B0 hb
  have hp : 0 < fl ∧ fl ≤ 255 := by have hb := HOK.out; simp [okA, kindB, inB] at hb; omega
  have hp1 : 0 < fl := hp.1
  have hf : fl % 256 = fl := by omega
  have o1 := own_lit2 w1 150 fl w.heap.size B1.size
  have B2 := bel_next B1 (bel_alloc w1 (.cells #[.int .u8 150, .int .u8 fl] 5))
  have R : Hid (Nw w (w1.alloc (.cells #[.int .u8 150, .int .u8 fl] 5)) (.returned (.slice (some ⟨w1.heap.size, 0, none⟩) 2 2)) (putA 22 fl pl nn ws bs)) := by show Nw _ _ _ _; have e : putA 22 fl pl nn ws bs = [150, fl] := (by unfold putA; rw [if_neg h0]; rfl); rw [e]; exact ⟨_, _, 2, rfl, rfl, o1, B2⟩
  clear o1 B2 hp h0
  go_wp2
  go_ret
  simp only [hf]
  exact R.out
set_option maxRecDepth 20000 in
set_option maxHeartbeats 8000000 in
theorem specPutF_23 (fl pl nn : Int) (a1 a2 : Option Addr) (l1 l2 c1 c2 : Nat) (ws : List Int) (bs : List Bool) (w : World) (h1 : l1 = ws.length) (h2 : l2 = bs.length) (s1 : SlI w a1 ws) (s2 : SlB w a2 bs) (hl1 : ws.length ≤ 2000000) (hl2 : bs.length ≤ 2000000) (hb : okA 23 fl pl nn ws l1 l2 = true) (h0 : ¬ fl = 0) :
    Calls Tryz.prog 11 #[rp 23 fl pl nn a1 a2 l1 l2 c1 c2] w fun e w' => Nw w w' e (putA 23 fl pl nn ws bs) := by
  have B0 := bel_alloc w (.cells #[.int .i64 23, .int .i64 fl, .int .i64 pl, .int .i64 nn, .slice a1 l1 c1, .slice a2 l2 c2] 36)
  have X0 := Blk.new w #[.int .i64 23, .int .i64 fl, .int .i64 pl, .int .i64 nn, .slice a1 l1 c1, .slice a2 l2 c2] 36
  have H1 : Hid (l1 = ws.length ∧ l2 = bs.length) := ⟨h1, h2⟩
  have S1 : Hid (SlI w a1 ws ∧ SlB w a2 bs) := ⟨s1, s2⟩
  obtain ⟨x0, x1, x2, x3, x4, x5⟩ := X0.six
  have HOK : Hid (okA 23 fl pl nn ws l1 l2 = true) := hb
  clear h1 h2 s1 s2
  go_enter Tryz.func11, Tryz.ntmps11
  go_wp2_with fail
  refine (specRespOk_q 23 fl pl nn a1 a2 l1 l2 c1 c2 ws bs _ H1.out.1 H1.out.2 (S1.out.1.below B0) (S1.out.2.below B0) hl1 hl2).mono ?_
  rintro e w1 ⟨rfl, b'⟩
  rw [hb]
  have B1 := bel_next B0 b'
  have X1 := X0.below b'
  obtain ⟨y0, y1, y2, y3, y4, y5⟩ := X1.six
  clear X0 x0 x1 x2 x3 x4 x5 b' B0 hb
  have hp : 0 < fl ∧ fl ≤ 255 := by have hb := HOK.out; simp [okA, kindB, inB] at hb; omega
  have hp1 : 0 < fl := hp.1
  have hf : fl % 256 = fl := by omega
  have o1 := own_lit2 w1 151 fl w.heap.size B1.size
  have B2 := bel_next B1 (bel_alloc w1 (.cells #[.int .u8 151, .int .u8 fl] 5))
  have R : Hid (Nw w (w1.alloc (.cells #[.int .u8 151, .int .u8 fl] 5)) (.returned (.slice (some ⟨w1.heap.size, 0, none⟩) 2 2)) (putA 23 fl pl nn ws bs)) := by show Nw _ _ _ _; have e : putA 23 fl pl nn ws bs = [151, fl] := (by unfold putA; rw [if_neg h0]; rfl); rw [e]; exact ⟨_, _, 2, rfl, rfl, o1, B2⟩
  clear o1 B2 hp h0
  go_wp2
  go_ret
  simp only [hf]
  exact R.out
set_option maxHeartbeats 4000000 in
theorem specPutA_no (kd fl pl nn : Int) (a1 a2 : Option Addr) (l1 l2 c1 c2 : Nat) (ws : List Int) (bs : List Bool) (w : World) (h1 : l1 = ws.length) (h2 : l2 = bs.length) (s1 : SlI w a1 ws) (s2 : SlB w a2 bs) (hl1 : ws.length ≤ 2000000) (hl2 : bs.length ≤ 2000000) (hb : okA kd fl pl nn ws l1 l2 = false) :
    Calls Tryz.prog 11 #[rp kd fl pl nn a1 a2 l1 l2 c1 c2] w fun e w' => NwO w w' e [] := by
  have B0 := bel_alloc w (.cells #[.int .i64 kd, .int .i64 fl, .int .i64 pl, .int .i64 nn, .slice a1 l1 c1, .slice a2 l2 c2] 36)
  have X0 := Blk.new w #[.int .i64 kd, .int .i64 fl, .int .i64 pl, .int .i64 nn, .slice a1 l1 c1, .slice a2 l2 c2] 36
  have H1 : Hid (l1 = ws.length ∧ l2 = bs.length) := ⟨h1, h2⟩
  have S1 : Hid (SlI w a1 ws ∧ SlB w a2 bs) := ⟨s1, s2⟩
  obtain ⟨x0, x1, x2, x3, x4, x5⟩ := X0.six
  clear h1 h2 s1 s2
  go_enter Tryz.func11, Tryz.ntmps11
  go_wp2_with fail
  refine (specRespOk_q kd fl pl nn a1 a2 l1 l2 c1 c2 ws bs _ H1.out.1 H1.out.2 (S1.out.1.below B0) (S1.out.2.below B0) hl1 hl2).mono ?_
  rintro e w1 ⟨rfl, b'⟩
  rw [hb]
  have B1 := bel_next B0 b'
  have R : Hid (NwO w (w1.alloc (.cells #[] 5)) (.returned (.slice (some ⟨w1.heap.size, 0, none⟩) 0 0)) []) := ⟨_, _, _, rfl, rfl, ⟨rfl, .inr ⟨w1.heap.size, 0, #[], rfl, B1.size, Blk.new w1 #[] 5, by simp, by simp, rfl, rfl⟩⟩, bel_next B1 (bel_alloc _ _)⟩
  clear b' B0 B1 X0
  go_wp2
  go_ret
  exact R.out
theorem specPutA_q (kd fl pl nn : Int) (a1 a2 : Option Addr) (l1 l2 c1 c2 : Nat) (ws : List Int) (bs : List Bool) (w : World) (h1 : l1 = ws.length) (h2 : l2 = bs.length) (s1 : SlI w a1 ws) (s2 : SlB w a2 bs) (hl1 : ws.length ≤ 2000000) (hl2 : bs.length ≤ 2000000) :
    Calls Tryz.prog 11 #[rp kd fl pl nn a1 a2 l1 l2 c1 c2] w fun e w' => NwO w w' e (putAV (okA kd fl pl nn ws l1 l2) kd fl pl nn ws bs) := by
  cases hb : okA kd fl pl nn ws l1 l2
  · exact specPutA_no kd fl pl nn a1 a2 l1 l2 c1 c2 ws bs w h1 h2 s1 s2 hl1 hl2 hb
  · have hk : kindB kd = true := by unfold okA at hb; simp only [Bool.and_eq_true] at hb; exact hb.1
    by_cases h0 : fl = 0
    · subst h0
      obtain rfl | rfl | rfl | rfl | rfl | rfl | rfl | rfl | rfl | rfl := of_decide_eq_true hk
      · exact (specPutA_1 pl nn a1 a2 l1 l2 c1 c2 ws bs w h1 h2 s1 s2 hl1 hl2 hb).mono fun e w' h => h.o
      · exact (specPutA_2 pl nn a1 a2 l1 l2 c1 c2 ws bs w h1 h2 s1 s2 hl1 hl2 hb).mono fun e w' h => h.o
      · exact (specPutA_3 pl nn a1 a2 l1 l2 c1 c2 ws bs w h1 h2 s1 s2 hl1 hl2 hb).mono fun e w' h => h.o
      · exact (specPutA_4 pl nn a1 a2 l1 l2 c1 c2 ws bs w h1 h2 s1 s2 hl1 hl2 hb).mono fun e w' h => h.o
      · exact (specPutA_5 pl nn a1 a2 l1 l2 c1 c2 ws bs w h1 h2 s1 s2 hl1 hl2 hb).mono fun e w' h => h.o
      · exact (specPutA_6 pl nn a1 a2 l1 l2 c1 c2 ws bs w h1 h2 s1 s2 hl1 hl2 hb).mono fun e w' h => h.o
      · exact (specPutA_15 pl nn a1 a2 l1 l2 c1 c2 ws bs w h1 h2 s1 s2 hl1 hl2 hb).mono fun e w' h => h.o
      · exact (specPutA_16 pl nn a1 a2 l1 l2 c1 c2 ws bs w h1 h2 s1 s2 hl1 hl2 hb).mono fun e w' h => h.o
      · exact (specPutA_22 pl nn a1 a2 l1 l2 c1 c2 ws bs w h1 h2 s1 s2 hl1 hl2 hb).mono fun e w' h => h.o
      · exact (specPutA_23 pl nn a1 a2 l1 l2 c1 c2 ws bs w h1 h2 s1 s2 hl1 hl2 hb).mono fun e w' h => h.o
    · obtain rfl | rfl | rfl | rfl | rfl | rfl | rfl | rfl | rfl | rfl := of_decide_eq_true hk
      · exact (specPutF_1 fl pl nn a1 a2 l1 l2 c1 c2 ws bs w h1 h2 s1 s2 hl1 hl2 hb h0).mono fun e w' h => h.o
      · exact (specPutF_2 fl pl nn a1 a2 l1 l2 c1 c2 ws bs w h1 h2 s1 s2 hl1 hl2 hb h0).mono fun e w' h => h.o
      · exact (specPutF_3 fl pl nn a1 a2 l1 l2 c1 c2 ws bs w h1 h2 s1 s2 hl1 hl2 hb h0).mono fun e w' h => h.o
      · exact (specPutF_4 fl pl nn a1 a2 l1 l2 c1 c2 ws bs w h1 h2 s1 s2 hl1 hl2 hb h0).mono fun e w' h => h.o
      · exact (specPutF_5 fl pl nn a1 a2 l1 l2 c1 c2 ws bs w h1 h2 s1 s2 hl1 hl2 hb h0).mono fun e w' h => h.o
      · exact (specPutF_6 fl pl nn a1 a2 l1 l2 c1 c2 ws bs w h1 h2 s1 s2 hl1 hl2 hb h0).mono fun e w' h => h.o
      · exact (specPutF_15 fl pl nn a1 a2 l1 l2 c1 c2 ws bs w h1 h2 s1 s2 hl1 hl2 hb h0).mono fun e w' h => h.o
      · exact (specPutF_16 fl pl nn a1 a2 l1 l2 c1 c2 ws bs w h1 h2 s1 s2 hl1 hl2 hb h0).mono fun e w' h => h.o
      · exact (specPutF_22 fl pl nn a1 a2 l1 l2 c1 c2 ws bs w h1 h2 s1 s2 hl1 hl2 hb h0).mono fun e w' h => h.o
      · exact (specPutF_23 fl pl nn a1 a2 l1 l2 c1 c2 ws bs w h1 h2 s1 s2 hl1 hl2 hb h0).mono fun e w' h => h.o
end Go.Proofs.YtohikbpolofklaaGreatDoor
