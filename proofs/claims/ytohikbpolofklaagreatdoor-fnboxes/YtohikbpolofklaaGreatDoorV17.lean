/- Texts that the proof needs, joined: Bx2 Cur1 Cur2 Cur3 AskC AskR. -/
import Derived.Test.YtohikbpolofklaaGreatDoorV11
import Derived.Test.YtohikbpolofklaaGreatDoorV14
import Derived.Test.YtohikbpolofklaaGreatDoorV16
import Derived.Test.YtohikbpolofklaaGreatDoorV1
import Derived.Test.YtohikbpolofklaaGreatDoorV3
namespace Go.Proofs.YtohikbpolofklaaGreatDoor
open Go.RowKit
set_option linter.unusedVariables false
set_option linter.unusedSimpArgs false
theorem row_setLb {w : World} {base size n g o : Nat} {e t : TypeId} {v : Value} {xs vs : List Value} (h : w.ownsRow base e size v n xs) (hb : ExB w g t) (ht : t ≠ e) : (setL w g o vs).ownsRow base e size v n xs := by
  obtain ⟨cs, hb⟩ := hb
  exact World.ownsRow.kept h (setL_gw vs w o) (.inr (row_noBlk h hb ht))
theorem Blk.wrb {u : World} {g o : Nat} {t : TypeId} {cs cs' : Array Value} {vs : List Value} (h : Blk u g t cs) (he : wrA cs o vs = cs') : Blk (setL u g o vs) g t cs' := by
  rw [← he]; exact Blk.stL _ _ h
def BtP (nm un : Int) (R : List Int) (w w' : World) (e : Ending) : Prop :=
  ∃ ao co no, e = .returned (.agg (bxc nm un ao no co)) ∧ no = R.length ∧ Own w' w.heap.size (.slice ao no co) R ∧ Below w.heap.size w w'
set_option maxRecDepth 20000 in
set_option maxHeartbeats 4000000 in
theorem implBoxTell_q (nm un : Int) (a : Option Addr) (l c : Nat) (kd fl pl nn : Int) (a1 a2 : Option Addr) (l1 l2 c1 c2 : Nat) (ws : List Int) (bs : List Bool) (w : World) (h1 : l1 = ws.length) (h2 : l2 = bs.length) (s1 : SlI w a1 ws) (s2 : SlB w a2 bs) (hl1 : ws.length ≤ 2000000) (hl2 : bs.length ≤ 2000000) (R : List Int) (hR : putAV (okA kd fl pl nn ws l1 l2) kd fl pl nn ws bs = R) :
    Calls Tryz.prog 9 #[.agg (bxc nm un a l c), rp kd fl pl nn a1 a2 l1 l2 c1 c2] w fun e w' => BtP nm un R w w' e := by
  obtain ⟨W, hW⟩ : ∃ W, W = ((w.alloc (.cells (bxc nm un a l c) 25)).alloc (.cells #[.int .i64 kd, .int .i64 fl, .int .i64 pl, .int .i64 nn, .slice a1 l1 c1, .slice a2 l2 c2] 36)).alloc (.cells (bxc 0 0 none 0 0) 25) := ⟨_, rfl⟩
  have hz : W.heap.size = w.heap.size + 1 + 1 + 1 := by rw [hW]; simp
  have B0 : Below w.heap.size w W := by rw [hW]; exact bel_next (bel_next (bel_alloc w _) (bel_alloc _ _)) (bel_alloc _ _)
  have X0 : Blk W w.heap.size 25 (bxc nm un a l c) := by rw [hW]; exact ((Blk.new w _ _).below (bel_alloc _ _)).below (bel_alloc _ _)
  have Y0 : Blk W (w.heap.size + 1) 36 #[.int .i64 kd, .int .i64 fl, .int .i64 pl, .int .i64 nn, .slice a1 l1 c1, .slice a2 l2 c2] := by
    rw [hW]; have := (Blk.new (w.alloc (.cells (bxc nm un a l c) 25)) #[.int .i64 kd, .int .i64 fl, .int .i64 pl, .int .i64 nn, .slice a1 l1 c1, .slice a2 l2 c2] 36).below (bel_alloc _ (.cells (bxc 0 0 none 0 0) 25)); simpa using this
  have Z0 : Blk W (w.heap.size + 1 + 1) 25 (bxc 0 0 none 0 0) := by
    rw [hW]; have := Blk.new ((w.alloc (.cells (bxc nm un a l c) 25)).alloc (.cells #[.int .i64 kd, .int .i64 fl, .int .i64 pl, .int .i64 nn, .slice a1 l1 c1, .slice a2 l2 c2] 36)) (bxc 0 0 none 0 0) 25; simpa using this
  have HH : Hid (l1 = ws.length ∧ l2 = bs.length ∧ SlI W a1 ws ∧ SlB W a2 bs ∧ putAV (okA kd fl pl nn ws l1 l2) kd fl pl nn ws bs = R) := ⟨h1, h2, s1.below B0, s2.below B0, hR⟩
  have HB : Hid (Below w.heap.size w W ∧ Blk W w.heap.size 25 (bxc nm un a l c) ∧ Blk W (w.heap.size + 1) 36 #[.int .i64 kd, .int .i64 fl, .int .i64 pl, .int .i64 nn, .slice a1 l1 c1, .slice a2 l2 c2] ∧ Blk W (w.heap.size + 1 + 1) 25 (bxc 0 0 none 0 0) ∧ W.heap.size = w.heap.size + 1 + 1 + 1) := ⟨B0, X0, Y0, Z0, hz⟩
  clear h1 h2 s1 s2 hR B0 X0 Y0 Z0 hz
  go_enter Tryz.func9, Tryz.ntmps9
  go_upto_region 1 with fail
  rw [← hW]
  clear hW
  try go_simp
  refine wp_region_any (by kernel_rfl) ?_
  refine wpAny_st 7 (fun u => Below W.heap.size W u)
    (fun σ u => ∃ ao co no, no = R.length ∧ Own u W.heap.size (.slice ao no co) R ∧ Blk u (w.heap.size + 1 + 1) 25 (bxc nm un ao no co) ∧ Below w.heap.size w u)
    (fun i v u => match i with
      | 0 => v = .pointer (some ⟨w.heap.size, 0, none⟩)
      | 1 => v = .int .i64 nm
      | 2 => v = .pointer (some ⟨w.heap.size, 1, none⟩)
      | 3 => v = .int .i64 un
      | 4 => v = rp kd fl pl nn a1 a2 l1 l2 c1 c2
      | 5 => ∃ ao co no, v = .slice ao no co ∧ no = R.length ∧ Own u W.heap.size (.slice ao no co) R
      | 6 => ∃ ao co no, v = .agg (bxc nm un ao no co) ∧ no = R.length ∧ Own u W.heap.size (.slice ao no co) R
      | _ => True) (by kernel_rfl) (by kernel_rfl) rfl (by kernel_rfl) (fun u u' h hb => bel_next h hb) ?_ (by first | exact Below.refl _ _ | exact (Below.refl _ _).drew) ?_ ?_ ?_ _ _ rfl (by decide) (fun i => by simp [Array.getD]; try (split <;> rfl))
  · intro i v u u' h hb
    match i, h with
    | 0, h => exact h
    | 1, h => exact h
    | 2, h => exact h
    | 3, h => exact h
    | 4, h => exact h
    | 5, ⟨ao, co, no, e, h9, r⟩ => exact ⟨ao, co, no, e, h9, r.below hb⟩
    | 6, ⟨ao, co, no, e, h9, r⟩ => exact ⟨ao, co, no, e, h9, r.below hb⟩
    | _ + 7, _ => trivial
  rotate_left
  · intro u i o ρ hi hR ho hρ hc hf hd
    obtain rfl | rfl | rfl | rfl | rfl | rfl | rfl : i = 0 ∨ i = 1 ∨ i = 2 ∨ i = 3 ∨ i = 4 ∨ i = 5 ∨ i = 6 := by omega
    all_goals (simp only [List.getElem?_toArray, List.getElem?_cons_zero, List.getElem?_cons_succ, Option.some.injEq] at ho; subst ho)
    · have s0 : ρ (.tmp 2) = .pointer (some ⟨w.heap.size, 0, none⟩) := (hρ 2 (by kernel_rfl)).trans rfl
      exact .inl ⟨rfl, .inl ⟨_, u, run_field_op rfl s0 (by go_simp), rfl, Below.refl _ _⟩⟩
    · have s0 : ρ (.tmp 5) = .pointer (some ⟨w.heap.size, 0, none⟩) := hd ⟨0, .data⟩ (by simp) rfl 5 rfl
      have c0 := (HB.out.2.1.below hR).cell 0 rfl
      exact .inl ⟨rfl, .inl ⟨_, u, run_load_op rfl s0 (by go_simp), rfl, Below.refl _ _⟩⟩
    · have s0 : ρ (.tmp 2) = .pointer (some ⟨w.heap.size, 0, none⟩) := (hρ 2 (by kernel_rfl)).trans rfl
      exact .inl ⟨rfl, .inl ⟨_, u, run_field_op rfl s0 (by go_simp), rfl, Below.refl _ _⟩⟩
    · have s0 : ρ (.tmp 7) = .pointer (some ⟨w.heap.size, 1, none⟩) := hd ⟨2, .data⟩ (by simp) rfl 7 rfl
      have c0 := (HB.out.2.1.below hR).cell 1 rfl
      exact .inl ⟨rfl, .inl ⟨_, u, run_load_op rfl s0 (by go_simp), rfl, Below.refl _ _⟩⟩
    · have s0 : ρ (.tmp 3) = .pointer (some ⟨w.heap.size + 1, 0, none⟩) := (hρ 3 (by kernel_rfl)).trans rfl
      exact .inl ⟨rfl, .inl ⟨_, u, run_load_op rfl s0 (run_loadAt_mid u (w.heap.size + 1) 0 36 [.int .i64 kd, .int .i64 fl, .int .i64 pl, .int .i64 nn, .slice a1 l1 c1, .slice a2 l2 c2] _ (Blk.all (vs := [.int .i64 kd, .int .i64 fl, .int .i64 pl, .int .i64 nn, .slice a1 l1 c1, .slice a2 l2 c2]) (HB.out.2.2.1.below hR)) Tryz.underlying36 rfl (by kernel_rfl)), rfl, Below.refl _ _⟩⟩
    · have h0 : ρ (.tmp 9) = rp kd fl pl nn a1 a2 l1 l2 c1 c2 := hd ⟨4, .data⟩ (by simp) rfl 9 rfl
      refine .inl ⟨rfl, .inr ⟨_, _, run_call_op rfl (hf _) (args := #[rp kd fl pl nn a1 a2 l1 l2 c1 c2]) (by simp [h0]) (by kernel_rfl), ?_⟩⟩
      refine (implPutA_q kd fl pl nn a1 a2 l1 l2 c1 c2 ws bs _ HH.out.1 HH.out.2.1 (HH.out.2.2.1.below hR) (HH.out.2.2.2.1.below hR) hl1 hl2).mono ?_
      rintro e u' ⟨ao, co, no, he, hno, ro, b'⟩
      rw [HH.out.2.2.2.2] at hno ro
      exact ⟨_, he, ⟨ao, co, no, rfl, hno, own_mono ro hR.size⟩, b'⟩
    · have h1 : ρ (.tmp 6) = .int .i64 nm := hd ⟨1, .data⟩ (by simp) rfl 6 rfl
      have h3 : ρ (.tmp 8) = .int .i64 un := hd ⟨3, .data⟩ (by simp) rfl 8 rfl
      obtain ⟨ao, co, no, h5, hno, ro⟩ : ∃ ao co no, ρ (.tmp 10) = .slice ao no co ∧ no = R.length ∧ Own u W.heap.size (.slice ao no co) R := hd ⟨5, .data⟩ (by simp) rfl 10 rfl
      exact .inl ⟨rfl, .inl ⟨.agg (bxc nm un ao no co), u, run_bldz rfl (qs := #[(0, .int .i64 nm), (1, .int .i64 un), (2, .slice ao no co)]) (by simp [h1, h3, h5]) (by kernel_rfl), ⟨ao, co, no, rfl, hno, ro⟩, Below.refl _ _⟩⟩
  · intro u o ρ hR ho hρ hc hv
    simp only [List.getElem?_toArray, List.getElem?_cons_zero, List.getElem?_cons_succ, Option.some.injEq] at ho
    subst ho
    obtain ⟨ao, co, no, h6, hno, ro⟩ : ∃ ao co no, ρ (.tmp 11) = .agg (bxc nm un ao no co) ∧ no = R.length ∧ Own u W.heap.size (.slice ao no co) R := hv 6 11 (by decide) rfl
    have s0 : ρ (.tmp 4) = .pointer (some ⟨w.heap.size + 1 + 1, 0, none⟩) := (hρ 4 (by kernel_rfl)).trans rfl
    have k1 := HB.out.2.2.2.1.below hR
    exact ⟨rfl, setL u (w.heap.size + 1 + 1) 0 [.int .i64 nm, .int .i64 un, .slice ao no co], run_store_op rfl s0 h6 ((run_storeAt_mid u (w.heap.size + 1 + 1) 0 25 (bxc nm un ao no co) (k1.there 0 3 (by simp)) (by kernel_rfl) (by simp [Value.oneCell'])).trans (by rw [setCells_L])), ao, co, no, hno, row_setLb ro ⟨_, k1⟩ (by decide), Blk.wrb k1 (by simp [wrA]), setL_below (by omega) _ _ _ (bel_next HB.out.1 hR)⟩
  intro vs σ u hE hvs
  obtain ⟨ao, co, no, hno, ro, kZ, bZ⟩ := hE
  have H9 : Hid (no = R.length ∧ Own u W.heap.size (.slice ao no co) R ∧ Blk u (w.heap.size + 1 + 1) 25 (bxc nm un ao no co) ∧ Below w.heap.size w u) := ⟨hno, ro, kZ, bZ⟩
  obtain ⟨z0, z1, z2⟩ := kZ.tri
  clear hvs hno ro kZ bZ
  try simp only [putsL]
  try go_simp
  go_wp2
  refine bodyPost_ret (v := .agg (bxc nm un ao no co)) (by simp [results, Tryz.results9, go_sem, z0, z1, z2]) rfl ?_
  obtain ⟨hno, ro, kZ, bZ⟩ := H9.out
  exact ⟨ao, co, no, rfl, hno, own_mono ro (by have := HB.out.2.2.2.2; omega), bZ⟩
end Go.Proofs.YtohikbpolofklaaGreatDoor
namespace Go.Proofs.YtohikbpolofklaaGreatDoor
open Go.RowKit
structure Cur (w0 : World) (a : Option Addr) (cap : Nat) (zs : List Int) (w : World) (g : Nat) : Prop where
  lo : w0.heap.size ≤ g
  hi : g < w.heap.size
  c0 : w.cell? ⟨g, 0, none⟩ = some (.slice a zs.length cap)
  c1 : ∃ i : Nat, i ≤ zs.length ∧ w.cell? ⟨g, 1, none⟩ = some (.int .i64 i)
  c2 : ∃ h : Int, w.cell? ⟨g, 2, none⟩ = some (.int .i64 h)
  fz : ∀ o, w.frozen? ⟨g, o, none⟩ = false
  sl : Sl w0 a zs
  rg : ∀ z ∈ zs, 0 ≤ z ∧ z ≤ 255
  len : zs.length ≤ 1048576
  bel : Below w0.heap.size w0 w
theorem grown_trans {w w1 w2 : World} {g : Nat} (h1 : w.grownBy w1 (some g)) (h2 : w1.grownBy w2 (some g)) : w.grownBy w2 (some g) :=
  ⟨h2.os.trans h1.os, h2.tape.trans h1.tape, h2.output.trans h1.output, Nat.le_trans h1.size h2.size, fun k hk hne => (h2.block k (Nat.lt_of_lt_of_le hk h1.size) hne).trans (h1.block k hk hne)⟩
theorem grown_set (w : World) (g o : Nat) (v : Value) : w.grownBy (w.setCell ⟨g, o, none⟩ v) (some g) :=
  ⟨rfl, rfl, rfl, by simp [World.setCell], fun k hk hne => Below.heap_setCell _ _ _ _ (fun e => hne (by simpa using e))⟩
theorem grown_drewN (w : World) (n : Nat) (row : Option Nat) : w.grownBy (w.drewN n) row := ⟨rfl, rfl, rfl, Nat.le_refl _, fun _ _ _ => rfl⟩
section
variable {w0 w w' : World} {a : Option Addr} {cap g : Nat} {zs : List Int}
theorem Cur.drewN (h : Cur w0 a cap zs w g) (n : Nat) : Cur w0 a cap zs (w.drewN n) g :=
  ⟨h.lo, h.hi, h.c0, h.c1, h.c2, h.fz, h.sl, h.rg, h.len, bel_drewN h.bel n⟩
theorem cell_other (w : World) (g o o' : Nat) (v : Value) (h : o' ≠ o) : (w.setCell ⟨g, o, none⟩ v).cell? ⟨g, o', none⟩ = w.cell? ⟨g, o', none⟩ :=
  World.cell?_setCell_other _ _ _ _ (fun e => h (congrArg Addr.off e).symm)
theorem Cur.set2 (h : Cur w0 a cap zs w g) (x : Int) : Cur w0 a cap zs (w.setCell ⟨g, 2, none⟩ (.int .i64 x)) g := by
  obtain ⟨i, hi, c1⟩ := h.c1
  obtain ⟨y, c2⟩ := h.c2
  refine ⟨h.lo, by simpa [World.setCell] using h.hi, by rw [cell_other _ _ _ _ _ (by decide)]; exact h.c0, ⟨i, hi, by rw [cell_other _ _ _ _ _ (by decide)]; exact c1⟩, ⟨x, World.cell?_setCell_same _ _ _ c2⟩, fun o => ?_, h.sl, h.rg, h.len, h.bel.setCell h.lo _⟩
  simpa using h.fz o
theorem Cur.set1 (h : Cur w0 a cap zs w g) (i : Nat) (hi : i ≤ zs.length) : Cur w0 a cap zs (w.setCell ⟨g, 1, none⟩ (.int .i64 i)) g := by
  obtain ⟨_, _, c1⟩ := h.c1
  obtain ⟨y, c2⟩ := h.c2
  refine ⟨h.lo, by simpa [World.setCell] using h.hi, by rw [cell_other _ _ _ _ _ (by decide)]; exact h.c0, ⟨i, hi, World.cell?_setCell_same _ _ _ c1⟩, ⟨y, by rw [cell_other _ _ _ _ _ (by decide)]; exact c2⟩, fun o => ?_, h.sl, h.rg, h.len, h.bel.setCell h.lo _⟩
  simpa using h.fz o
theorem Cur.grown {w2 : World} {row : Option Nat} (h : Cur w0 a cap zs w g) (hg : w.grownBy w2 row) (hne : some g ≠ row) (hr : ∀ k, row = some k → w0.heap.size ≤ k) : Cur w0 a cap zs w2 g := by
  have e : w2.heap[g]? = w.heap[g]? := hg.block g h.hi hne
  have ec : ∀ o, w2.cell? ⟨g, o, none⟩ = w.cell? ⟨g, o, none⟩ := fun o => World.cell?_of_block (a := ⟨g, o, none⟩) e
  have ef : ∀ o, w2.frozen? ⟨g, o, none⟩ = w.frozen? ⟨g, o, none⟩ := fun o => World.frozen?_of_block (a := ⟨g, o, none⟩) e
  obtain ⟨i, hi, c1⟩ := h.c1
  obtain ⟨y, c2⟩ := h.c2
  exact ⟨h.lo, Nat.lt_of_lt_of_le h.hi hg.size, by rw [ec]; exact h.c0, ⟨i, hi, by rw [ec]; exact c1⟩, ⟨y, by rw [ec]; exact c2⟩, fun o => by rw [ef]; exact h.fz o, h.sl, h.rg, h.len, h.bel.grown hg h.bel.size hr⟩
theorem Cur.alloc (h : Cur w0 a cap zs w g) (o : Obj) : Cur w0 a cap zs (w.alloc o) g :=
  h.grown (World.grownBy_alloc w o none) (by simp) (fun k hk => by cases hk)
end
end Go.Proofs.YtohikbpolofklaaGreatDoor
namespace Go.Proofs.YtohikbpolofklaaGreatDoor
open Go.RowKit
def Drawn (w0 : World) (a : Option Addr) (cap : Nat) (zs : List Int) (w : World) (g : Nat) (P : Int → Prop) (e : Ending) (w' : World) : Prop :=
  ∃ x : Int, e = .returned (.int .i64 x) ∧ P x ∧ Cur w0 a cap zs w' g ∧ w.grownBy w' (some g)
theorem mod_bd (n : Int) : 0 ≤ n % 256 ∧ n % 256 ≤ 255 := by omega
set_option maxHeartbeats 2000000 in
theorem l1Byte_any (w0 : World) (a : Option Addr) (cap : Nat) (zs : List Int) (w : World) (g : Nat) (hC : Cur w0 a cap zs w g) :
    Calls Tryz.prog 57 #[.pointer (some ⟨g, 0, none⟩)] w fun e w' => Drawn w0 a cap zs w g (fun x => 0 ≤ x ∧ x ≤ 255) e w' := by
  obtain ⟨i, hi, c1⟩ := hC.c1
  obtain ⟨h, c2⟩ := hC.c2
  have c0 := hC.c0
  have fz1 := hC.fz 1
  have fz2 := hC.fz 2
  have hlen := hC.len
  have e255 : ∀ n : Int, bits BinOp.and IntKind.i64 n 255 = n % 256 := and8
  by_cases hlt : i < zs.length
  · obtain ⟨b, off, hab, hb0, hz0⟩ := cell_at hC.sl hlt
    have hz : w.cell? ⟨b, off + i, none⟩ = some (.int .u8 (zs.getD i 0)) := by rw [hC.bel.cell (p := ⟨b, off + i, none⟩) hb0]; exact hz0
    have rg := get_range hC.rg i
    have hbg : b ≠ g := by have := hC.lo; omega
    have hz' : ∀ v, (w.setCell ⟨g, 2, none⟩ v).cell? ⟨b, off + i, none⟩ = some (.int .u8 (zs.getD i 0)) := fun v => by
      rw [World.cell?_setCell_other _ _ _ _ (fun e => hbg (congrArg Addr.block e).symm)]; exact hz
    generalize zs.getD i 0 = z at *
    rw [hab] at c0
    have HC : Hid (Cur w0 a cap zs w g) := hC
    have hi' : (i : Int) < (zs.length : Int) := by omega
    clear hC hz0 hz
    go_enter Tryz.func57, Tryz.ntmps57
    go_wp2
    go_quiet (fail)
    go_wp2
    go_quiet (fail)
    go_wp2
    go_quiet (fail)
    go_wp2
    go_ret
    exact ⟨_, rfl, mod_bd _, ((HC.out.set2 _).drewN _).set1 (i + 1) (by omega), grown_trans (grown_trans (grown_set w g 2 _) (grown_drewN _ _ _)) (grown_set _ g 1 _)⟩
  · have HC : Hid (Cur w0 a cap zs w g) := hC
    have hi' : ¬ (i : Int) < (zs.length : Int) := by omega
    clear hC
    go_enter Tryz.func57, Tryz.ntmps57
    go_wp2
    go_quiet (fail)
    go_wp2
    go_quiet (fail)
    go_wp2
    go_ret
    exact ⟨_, rfl, mod_bd _, ((HC.out.set2 _).drewN _).drewN _, grown_trans (grown_trans (grown_set w g 2 _) (grown_drewN _ _ _)) (grown_drewN _ _ _)⟩
set_option maxHeartbeats 1000000 in
theorem l1Below_any (w0 : World) (a : Option Addr) (cap : Nat) (zs : List Int) (w : World) (g : Nat) (n : Int) (hn : 1 ≤ n) (hC : Cur w0 a cap zs w g) :
    Calls Tryz.prog 34 #[.pointer (some ⟨g, 0, none⟩), .int .i64 n] w fun e w' => Drawn w0 a cap zs w g (fun x => 0 ≤ x ∧ x < n) e w' := by
  have h0 : ¬ n ≤ 0 := by omega
  by_cases h1 : n ≤ 256
  · go_enter Tryz.func34, Tryz.ntmps34
    go_wp2_with fail
    refine (l1Byte_any w0 a cap zs _ g hC).mono ?_
    rintro e w1 ⟨x, rfl, hx, C1, g1⟩
    go_wp2
    go_ret
    exact ⟨_, rfl, ⟨Int.emod_nonneg _ (by omega), Int.emod_lt_of_pos _ (by omega)⟩, C1, g1⟩
  · go_enter Tryz.func34, Tryz.ntmps34
    go_wp2_with fail
    refine (l1Byte_any w0 a cap zs _ g hC).mono ?_
    rintro e w1 ⟨x, rfl, hx, C1, g1⟩
    go_wp2_with fail
    refine (l1Byte_any w0 a cap zs _ g C1).mono ?_
    rintro e w2 ⟨y, rfl, hy, C2, g2⟩
    go_wp2_with fail
    refine (l1Byte_any w0 a cap zs _ g C2).mono ?_
    rintro e w3 ⟨z, rfl, hz, C3, g3⟩
    go_wp2
    go_ret
    exact ⟨_, rfl, ⟨Int.emod_nonneg _ (by omega), Int.emod_lt_of_pos _ (by omega)⟩, C3, grown_trans (grown_trans g1 g2) g3⟩
def Ints (w : World) (ad : Addr) (l : List Int) : Prop := ∃ b off, ad = ⟨b, off, none⟩ ∧ b < w.heap.size ∧ ∀ i, i < l.length → w.cell? ⟨b, off + i, none⟩ = some (.int .i64 (l.getD i 0))
theorem Ints.grown {w w' : World} {ad : Addr} {l : List Int} {row : Option Nat} (h : Ints w ad l) (hg : w.grownBy w' row) (hne : some ad.block ≠ row) : Ints w' ad l := by
  obtain ⟨b, off, rfl, hb, hc⟩ := h
  exact ⟨b, off, rfl, Nat.lt_of_lt_of_le hb hg.size, fun i hi => hg.cell (hc i hi) hne⟩
set_option maxHeartbeats 1000000 in
theorem l1Int_any (w0 : World) (a : Option Addr) (cap : Nat) (zs : List Int) (w : World) (g : Nat) (ad : Addr) (n c : Nat) (l : List Int) (hn : n = l.length) (h1 : 1 ≤ n) (h2 : n ≤ 1000) (hl : Ints w ad l) (hne : ad.block ≠ g) (hC : Cur w0 a cap zs w g) :
    Calls Tryz.prog 58 #[.pointer (some ⟨g, 0, none⟩), .slice (some ad) n c] w fun e w' => Drawn w0 a cap zs w g (fun x => x ∈ l) e w' := by
  subst hn
  go_enter Tryz.func58, Tryz.ntmps58
  go_wp2_with fail
  refine (l1Below_any w0 a cap zs _ g _ (by omega) hC).mono ?_
  rintro e w1 ⟨x, rfl, hx, C1, g1⟩
  obtain ⟨k, rfl⟩ := Int.eq_ofNat_of_zero_le hx.1
  obtain ⟨b, off, rfl, hb, hc⟩ := hl.grown g1 (by simpa using hne)
  have hk : k < l.length := by omega
  have hck := hc k hk
  have hm : l.getD k 0 ∈ l := by rw [List.getD_eq_getElem?_getD, List.getElem?_eq_getElem hk]; exact List.getElem_mem hk
  generalize l.getD k 0 = v at *
  clear hc hl
  go_wp2
  go_ret
  exact ⟨v, rfl, hm, C1, g1⟩
end Go.Proofs.YtohikbpolofklaaGreatDoor
namespace Go.Proofs.YtohikbpolofklaaGreatDoor
open Go.RowKit
theorem and30 (n : Int) : bits .and .i64 n 1073741823 = n % 1073741824 := i64_and_mask n 30 1073741823 (by decide) (by decide)
theorem cur_new {w : World} {a : Option Addr} {cap : Nat} {zs : List Int} (hs : Sl w a zs) (hr : ∀ z ∈ zs, 0 ≤ z ∧ z ≤ 255) (hl : zs.length ≤ 1048576) (h : Int) (t : TypeId) :
    Cur w a cap zs (w.alloc (.cells #[.slice a zs.length cap, .int .i64 0, .int .i64 h] t)) w.heap.size where
  lo := Nat.le_refl _
  hi := by simp
  c0 := by simp
  c1 := ⟨0, Nat.zero_le _, by simp⟩
  c2 := ⟨h, by simp⟩
  fz := fun o => by simp
  sl := hs
  rg := hr
  len := hl
  bel := (Below.refl _ _).alloc (Nat.le_refl _) _
set_option maxHeartbeats 1000000 in
theorem l1New_any (w : World) (a : Option Addr) (n cap : Nat) (zs : List Int) (hn : n = zs.length) (hs : Sl w a zs) (hr : ∀ z ∈ zs, 0 ≤ z ∧ z ≤ 255) (hl : zs.length ≤ 1048576) :
    Calls Tryz.prog 13 #[.slice a n cap] w fun e w' => e = .returned (.pointer (some ⟨w.heap.size, 0, none⟩)) ∧ Cur w a cap zs w' w.heap.size ∧ w.grownBy w' none := by
  subst hn
  have e30 : ∀ n : Int, bits BinOp.and IntKind.i64 n 1073741823 = n % 1073741824 := and30
  go_enter Tryz.func13, Tryz.ntmps13
  go_wp2
  go_loop [3, 4] (fun x i => ∃ (k : Nat) (h : Int), k ≤ zs.length ∧ i = .int .i64 k ∧ x = .int .i64 h ∧ 0 ≤ h ∧ h ≤ 1073741824) (fun _ i => zs.length - (intOf i).toNat)
  case atStart => exact ⟨0, _, Nat.zero_le _, rfl, rfl, by omega, by omega⟩
  case round =>
    obtain ⟨k, h, hk, rfl, rfl, h0, h1⟩ := hrel
    by_cases hlt : k < zs.length
    · by_cases h4 : k < 4000
      · obtain ⟨b, off, rfl, _, hc⟩ := cell_at hs hlt
        have rg := get_range hr k
        generalize zs.getD k 0 = z at *
        have hi' : (k : Int) < (zs.length : Int) := by omega
        have hi4 : (k : Int) < 4000 := by omega
        clear hs hr
        go_wp2
        go_round
        case rel => exact ⟨k + 1, _, by omega, by go_num, rfl, by omega, by omega⟩
        case measure => simp [intOf]; omega
      · have hi' : (k : Int) < (zs.length : Int) := by omega
        have hi4 : decide ((k : Int) < 4000) = false := by simp; omega
        have R := cur_new (cap := cap) hs hr hl h 70
        clear hs hr
        go_wp2
        go_ret
        exact ⟨rfl, R, World.grownBy_alloc _ _ _⟩
    · have hi' : decide ((k : Int) < (zs.length : Int)) = false := by simp; omega
      have R := cur_new (cap := cap) hs hr hl h 70
      clear hs hr
      go_wp2
      go_ret
      exact ⟨rfl, R, World.grownBy_alloc _ _ _⟩
end Go.Proofs.YtohikbpolofklaaGreatDoor
namespace Go.Proofs.YtohikbpolofklaaGreatDoor
open Go.RowKit
set_option linter.unusedVariables false
set_option linter.unusedSimpArgs false
set_option maxHeartbeats 1000000 in
theorem l1Once_any (w0 : World) (a : Option Addr) (cap : Nat) (zs : List Int) (w : World) (g : Nat) (n : Int) (hn : 1 ≤ n) (hC : Cur w0 a cap zs w g) :
    Calls Tryz.prog 44 #[.pointer (some ⟨g, 0, none⟩), .int .i64 n] w fun e w' => ∃ t : Bool, e = .returned (.bool t) ∧ Cur w0 a cap zs w' g ∧ w.grownBy w' (some g) := by
  go_enter Tryz.func44, Tryz.ntmps44
  go_wp2_with fail
  refine (l1Below_any w0 a cap zs _ g n hn hC).mono ?_
  rintro e w1 ⟨x, rfl, _, C1, g1⟩
  have R : Hid (Cur w0 a cap zs w1 g ∧ w.grownBy w1 (some g)) := ⟨C1, g1⟩
  clear hC C1 g1
  go_wp2
  go_ret
  exact ⟨_, rfl, R.out⟩
def DrawnBits (w0 : World) (a : Option Addr) (cap : Nat) (zs : List Int) (w : World) (g n : Nat) (e : Ending) (w' : World) : Prop :=
  ∃ (ad : Addr) (c : Nat) (bs : List Bool), e = .returned (.slice (some ad) n c) ∧ n = bs.length ∧ OwnB w' w.heap.size (.slice (some ad) n c) bs ∧ Cur w0 a cap zs w' g ∧ w.grownBy w' (some g)
theorem ownB_some {w : World} {base : Nat} {v : Value} {bs : List Bool} (h : OwnB w base v bs) (h0 : 0 < bs.length) : ∃ ad c, v = .slice (some ad) bs.length c := by
  obtain ⟨_, h2⟩ := h
  rcases h2 with ⟨h2, h3⟩ | ⟨g, cap', cur, hv, _⟩
  · omega
  · exact ⟨_, _, hv⟩
theorem bits_step {w0 w wr w1 w2 : World} {a : Option Addr} {cap g : Nat} {zs : List Int} {bs : List Bool} {v v' : Value} {o1 : Obj} {x : Bool} (hg : g < w.heap.size) (gr : w.grownBy wr (some g)) (ho : OwnB wr w.heap.size v bs) (C1 : Cur w0 a cap zs w1 g) (g1 : wr.grownBy w1 (some g))
    (h2 : w2.ownsRow w.heap.size 4 1 v' (bs.length + 1) (bs.map Value.bool ++ [Value.bool x])) (g2 : (w1.alloc o1).grownBy w2 v.ownBlock) (hlo : w0.heap.size ≤ g) :
    OwnB w2 w.heap.size v' (bs ++ [x]) ∧ Cur w0 a cap zs w2 g ∧ w.grownBy w2 (some g) := by
  have hv : ∀ k, v.ownBlock = some k → w.heap.size ≤ k := fun k hk => (World.ownsRow.lt ho k hk).1
  refine ⟨by simpa [OwnB] using h2, (C1.alloc o1).grown g2 (fun e => by have := hv g e.symm; omega) (fun k hk => by have := hv k hk; omega), ?_⟩
  have gg := grown_trans gr g1
  refine ⟨g2.os.trans gg.os, g2.tape.trans gg.tape, g2.output.trans gg.output, ?_, fun k hk hne => ?_⟩
  · have h := g2.size
    have h' := gg.size
    simp at h
    omega
  · rw [g2.block k (by have := gg.size; simp; omega) (fun e => by have := hv k e.symm; omega)]
    rw [Below.heap_alloc w1 o1 k (by have := gg.size; omega)]
    exact gg.block k hk hne
set_option maxHeartbeats 2000000 in
theorem l2Bits_any (w0 : World) (a : Option Addr) (cap : Nat) (zs : List Int) (w : World) (g : Nat) (n : Nat) (hn : n ≤ 1000000) (hC : Cur w0 a cap zs w g) :
    Calls Tryz.prog 59 #[.pointer (some ⟨g, 0, none⟩), .int .i64 n] w fun e w' => DrawnBits w0 a cap zs w g n e w' := by
  obtain ⟨i0, hi, hz0, hz1, hz2⟩ := info_parts Tryz.info4
  have hml : n + 2 ≤ maxLen := by unfold maxLen; omega
  have o0 := World.ownsRow_lit (base := w.heap.size) (e := 4) (size := 1) w #[] 0 (Nat.le_refl _) (by omega) rfl
  have hg := hC.hi
  have hlo := hC.lo
  have C0 := hC.alloc (.cells #[] 4)
  have G0 : w.grownBy (w.alloc (.cells #[] 4)) (some g) := World.grownBy_alloc _ _ _
  clear hC
  go_enter Tryz.func59, Tryz.ntmps59
  go_wp2
  go_loopw [5, 6] (fun v i wr => ∃ (k : Nat) (ad : Addr) (c : Nat) (bs : List Bool), k ≤ n ∧ i = .int .i64 k ∧ v = .slice (some ad) k c ∧ bs.length = k ∧ OwnB wr w.heap.size v bs ∧ Cur w0 a cap zs wr g ∧ w.grownBy wr (some g)) (fun _ i _ => n - (intOf i).toNat)
  case atStart => exact ⟨0, _, _, [], Nat.zero_le _, rfl, rfl, rfl, o0, C0, G0⟩
  case round =>
    obtain ⟨k, ad, c, bs, hk, rfl, rfl, hb, ho, C, G⟩ := hrel
    by_cases hlt : k < n
    · have hi' : (k : Int) < (n : Int) := by omega
      have HB : Hid (bs.length = k) := hb
      clear o0 C0 G0 hb
      go_wp2_with fail
      refine (l1Once_any w0 a cap zs _ g _ (by decide) C).mono ?_
      rintro e w1 ⟨x, rfl, C1, g1⟩
      have ho1 : w1.ownsRow w.heap.size 4 1 (.slice (some ad) k c) bs.length (bs.map Value.bool) := ho.kept g1 (.inr (fun e => by have := (World.ownsRow.lt ho g e).1; omega))
      have hm1 : bs.length + 1 ≤ maxLen := by rw [HB.out]; omega
      have hm2 : (bs.length + 1) * 1 ≤ 140737488355328 := by rw [HB.out]; omega
      have hsz : w.heap.size ≤ w1.heap.size := Nat.le_trans G.size g1.size
      go_wp2_with (at_builtin; refine wpList_append_own _ rfl (.tmp 13) (.tmp 16) 28 rfl w.heap.size 4 i0 (.bool false) 1 1 Tryz.underlying28 hi hz0 hz1 hz2 rfl (by decide) (.slice (some ad) k c) bs.length (bs.map Value.bool) rfl (ho1.alloc _) ⟨w1.heap.size, 0, none⟩ 1 1 [.bool x] rfl (by simp) one_cellB (one_oneB _) hm1 hm2 (by simp; omega) ?_; intro v' w2 o2 g2 _; have R := bits_step hg G ho C1 g1 o2 g2 hlo; clear ho ho1 o2 g2)
      obtain ⟨R1, R2, R3⟩ := R
      obtain ⟨ad', c', hv⟩ := ownB_some R1 (by simp)
      have hv' : Hid (v' = .slice (some ad') (k + 1) c') := by
        show v' = _
        rw [hv, List.length_append, HB.out]; rfl
      clear hv
      go_roundw
      case rel => exact ⟨k + 1, ad', c', bs ++ [x], by omega, by go_num, hv'.out, by rw [List.length_append, HB.out]; rfl, R1, R2, R3⟩
      case measure => simp [intOf]; omega
    · obtain rfl : k = n := by omega
      clear o0 C0 G0
      go_wp2
      go_ret
      exact ⟨ad, c, bs, rfl, hb.symm, ho, C, G⟩
theorem ints_lit (w : World) (l : List Int) (t : TypeId) : Ints (w.alloc (.cells (l.map (Value.int .i64)).toArray t)) ⟨w.heap.size, 0, none⟩ l :=
  ⟨w.heap.size, 0, rfl, by simp, fun i hi => by simp [hi]⟩
def DrawnInts (w0 : World) (a : Option Addr) (cap : Nat) (zs : List Int) (w : World) (g n : Nat) (e : Ending) (w' : World) : Prop :=
  ∃ (ad : Option Addr) (c : Nat) (ws : List Int), e = .returned (.slice ad n c) ∧ n = ws.length ∧ OwnI w' w.heap.size (.slice ad n c) ws ∧ Cur w0 a cap zs w' g ∧ w.grownBy w' (some g)
theorem ints_step {w0 w wr w1 w2 : World} {a : Option Addr} {cap g : Nat} {zs : List Int} {ws : List Int} {v v' : Value} {o1 : Obj} {x : Int} (hg : g < w.heap.size) (gr : w.grownBy wr (some g)) (ho : OwnI wr w.heap.size v ws) (C1 : Cur w0 a cap zs w1 g) (g1 : wr.grownBy w1 (some g))
    (h2 : OwnI w2 w.heap.size v' (ws ++ [x])) (g2 : (w1.alloc o1).grownBy w2 v.ownBlock) (hlo : w0.heap.size ≤ g) :
    OwnI w2 w.heap.size v' (ws ++ [x]) ∧ Cur w0 a cap zs w2 g ∧ w.grownBy w2 (some g) := by
  have hv : ∀ k, v.ownBlock = some k → w.heap.size ≤ k := fun k hk => (World.ownsRow.lt ho k hk).1
  refine ⟨h2, (C1.alloc o1).grown g2 (fun e => by have := hv g e.symm; omega) (fun k hk => by have := hv k hk; omega), ?_⟩
  have gg := grown_trans gr g1
  refine ⟨g2.os.trans gg.os, g2.tape.trans gg.tape, g2.output.trans gg.output, ?_, fun k hk hne => ?_⟩
  · have h := g2.size
    have h' := gg.size
    simp at h
    omega
  · rw [g2.block k (by have := gg.size; simp; omega) (fun e => by have := hv k e.symm; omega)]
    rw [Below.heap_alloc w1 o1 k (by have := gg.size; omega)]
    exact gg.block k hk hne
end Go.Proofs.YtohikbpolofklaaGreatDoor
namespace Go.Proofs.YtohikbpolofklaaGreatDoor
open Go.RowKit
set_option linter.unusedVariables false
set_option linter.unusedSimpArgs false
theorem grown_setHi {w u : World} {g G j : Nat} {y : Value} (h : w.grownBy u (some g)) (hG : w.heap.size ≤ G) : w.grownBy (u.setCell ⟨G, j, none⟩ y) (some g) :=
  ⟨h.os, h.tape, h.output, by simpa [World.setCell] using h.size, fun k hk hne => (Below.heap_setCell _ _ _ _ (by show k ≠ G; omega)).trans (h.block k hk hne)⟩
theorem row_ne_g {u : World} {B size n g : Nat} {e : TypeId} {v : Value} {xs : List Value} (h : u.ownsRow B e size v n xs) (hg : g < B) : v.ownBlock = none ∨ v.ownBlock ≠ some g :=
  .inr (fun e => by have := (World.ownsRow.lt h g e).1; omega)
theorem Cur.setHi {w0 u : World} {a : Option Addr} {cap g G j : Nat} {zs : List Int} {y : Value} (h : Cur w0 a cap zs u g) (hne : g ≠ G) (hlo : w0.heap.size ≤ G) : Cur w0 a cap zs (u.setCell ⟨G, j, none⟩ y) g :=
  h.grown (grown_setj u G j y) (by simpa using hne) (fun k hk => by simp at hk; omega)
def DrawnIntsR (w0 : World) (a : Option Addr) (cap : Nat) (zs : List Int) (w : World) (g n : Nat) (e : Ending) (w' : World) : Prop :=
  ∃ (ad : Option Addr) (c : Nat) (ws : List Int), e = .returned (.slice ad n c) ∧ n = ws.length ∧ (∀ z ∈ ws, 0 ≤ z ∧ z ≤ 65535) ∧ OwnI w' w.heap.size (.slice ad n c) ws ∧ Cur w0 a cap zs w' g ∧ w.grownBy w' (some g)
set_option maxHeartbeats 4000000 in
theorem l3ListR_any (w0 : World) (a : Option Addr) (cap : Nat) (zs : List Int) (w : World) (g : Nat) (n : Nat) (hn : n ≤ 1000) (hC : Cur w0 a cap zs w g) :
    Calls Tryz.prog 60 #[.pointer (some ⟨g, 0, none⟩), .int .i64 n] w fun e w' => DrawnIntsR w0 a cap zs w g n e w' := by
  have o0 : OwnI (w.alloc (.cells #[] 3)) w.heap.size (.slice (some ⟨w.heap.size, 0, none⟩) 0 0) [] := ⟨rfl, .inr ⟨w.heap.size, 0, #[], rfl, Nat.le_refl _, Blk.new w #[] 3, by simp, by simp, rfl, rfl⟩⟩
  have hg := hC.hi
  have hlo := hC.lo
  have C0 := hC.alloc (.cells #[] 3)
  have G0 : w.grownBy (w.alloc (.cells #[] 3)) (some g) := World.grownBy_alloc _ _ _
  clear hC
  go_enter Tryz.func60, Tryz.ntmps60
  go_wp2
  go_loopw [5, 6] (fun v i wr => ∃ (k : Nat) (ad : Option Addr) (c : Nat) (ws : List Int), k ≤ n ∧ i = .int .i64 k ∧ v = .slice ad k c ∧ ws.length = k ∧ (∀ z ∈ ws, 0 ≤ z ∧ z ≤ 65535) ∧ OwnI wr w.heap.size v ws ∧ Cur w0 a cap zs wr g ∧ w.grownBy wr (some g)) (fun _ i _ => n - (intOf i).toNat)
  case atStart => exact ⟨0, _, _, [], Nat.zero_le _, rfl, rfl, rfl, (fun z hz => by cases hz), o0, C0, G0⟩
  case round =>
    obtain ⟨k, ad, c, ws, hk, rfl, rfl, hb, hrg, ho, C, G⟩ := hrel
    have HRg : Hid (∀ z ∈ ws, 0 ≤ z ∧ z ≤ 65535) := hrg
    clear hrg
    by_cases hlt : k < n
    · have hi' : (k : Int) < (n : Int) := by omega
      have HB : Hid (ws.length = k) := hb
      clear o0 C0 G0 hb
      go_wp2_with fail
      refine (l1Below_any w0 a cap zs _ g _ (by decide) C).mono ?_
      rintro e w1 ⟨x, rfl, hx, C1, g1⟩
      have HX : Hid (0 ≤ x ∧ x < 65536) := hx
      clear hx
      have I1 := ints_lit w1 [0, 1, 65535, 256, x] 3
      have C1' := C1.alloc (.cells ([0, 1, 65535, 256, x].map (Value.int .i64)).toArray 3)
      have g1' : wr.grownBy (w1.alloc (.cells ([0, 1, 65535, 256, x].map (Value.int .i64)).toArray 3)) (some g) := grown_trans g1 (World.grownBy_alloc _ _ _)
      have hneg : w1.heap.size ≠ g := by have := C1.hi; omega
      clear C1 g1
      go_wp2_with fail
      refine (l1Int_any w0 a cap zs _ g ⟨w1.heap.size, 0, none⟩ 5 5 [0, 1, 65535, 256, x] rfl (by omega) (by omega) I1 hneg C1').mono ?_
      rintro e w2 ⟨y, rfl, hy, C2, g2⟩
      have HY : Hid (0 ≤ y ∧ y ≤ 65535) := by show _ ∧ _; have := HX.out; simp at hy; omega
      clear hy
      have gg := grown_trans g1' g2
      have ho1 : OwnI w2 w.heap.size (.slice ad k c) ws := ho.kept gg (.inr (fun e => by have := (World.ownsRow.lt ho g e).1; omega))
      have HLn : Hid (ws.length + 1 ≤ 4000000) := by show ws.length + 1 ≤ 4000000; rw [HB.out]; omega
      have hsz : w.heap.size ≤ w2.heap.size := Nat.le_trans G.size gg.size
      clear I1 C1' g1' g2
      go_wp2_with (at_builtin; refine wpList_appI rfl (.tmp 13) (.tmp 19) rfl w.heap.size (.slice ad k c) ws rfl (ho1.below (bel_alloc _ _)) ⟨w2.heap.size, 0, none⟩ 1 1 [y] rfl rfl (lit_slI1' _ _ rfl) HLn.out (by simp; omega) ?_; intro v' w3 o3 g3)
      obtain ⟨R1, R2, R3⟩ := ints_step hg G ho C2 gg o3 g3 hlo
      obtain ⟨ad', c', n', hv, hn'⟩ := ownI_shape R1
      have en : n' = k + 1 := by rw [hn', List.length_append, HB.out]; rfl
      subst en
      subst hv
      clear o3 g3 ho1 ho C2 gg
      go_roundw
      case rel => exact ⟨k + 1, ad', c', ws ++ [y], by omega, by go_num, rfl, by rw [List.length_append, HB.out]; rfl, (fun z hz => by rcases List.mem_append.1 hz with h | h; exact HRg.out z h; simp at h; subst h; exact HY.out), R1, R2, R3⟩
      case measure => simp [intOf]; omega
    · obtain rfl : k = n := by omega
      clear o0 C0 G0
      go_wp2
      go_ret
      exact ⟨ad, c, ws, rfl, hb.symm, HRg.out, ho, C, G⟩
theorem allW_of {ws : List Int} (h : ∀ z ∈ ws, 0 ≤ z ∧ z ≤ 65535) : allW ws = true := by
  unfold allW
  refine decide_eq_true (fun k hk => ?_)
  rw [List.getD_eq_getElem?_getD, List.getElem?_eq_getElem hk]
  exact h _ (List.getElem_mem hk)
theorem l3List_at (w0 : World) (a : Option Addr) (cap : Nat) (zs : List Int) (w : World) (g : Nat) (x : Int) (n : Nat) (hx : x = (n : Int)) (hn : n ≤ 1000) (hC : Cur w0 a cap zs w g) :
    Calls Tryz.prog 60 #[.pointer (some ⟨g, 0, none⟩), .int .i64 x] w fun e w' => DrawnIntsR w0 a cap zs w g n e w' := by
  subst hx
  exact l3ListR_any w0 a cap zs w g n hn hC
theorem l2Bits_at (w0 : World) (a : Option Addr) (cap : Nat) (zs : List Int) (w : World) (g : Nat) (x : Int) (n : Nat) (hx : x = (n : Int)) (hn : n ≤ 1000) (hC : Cur w0 a cap zs w g) :
    Calls Tryz.prog 59 #[.pointer (some ⟨g, 0, none⟩), .int .i64 x] w fun e w' => DrawnBits w0 a cap zs w g n e w' := by
  subst hx
  exact l2Bits_any w0 a cap zs w g n (by omega) hC
def DrawnReqR (w0 : World) (a : Option Addr) (cap : Nat) (zs : List Int) (w : World) (g : Nat) (e : Ending) (w' : World) : Prop :=
  ∃ (kd pl nn wa : Int) (a1 a2 : Option Addr) (l1 l2 c1 c2 : Nat) (ws : List Int) (bs : List Bool), e = .returned (rq kd pl nn wa a1 a2 l1 l2 c1 c2) ∧ l1 = ws.length ∧ l2 = bs.length ∧ l1 ≤ 6 ∧ l2 ≤ 20 ∧ okR kd pl nn wa ws l1 l2 = true ∧ OwnI w' w.heap.size (.slice a1 l1 c1) ws ∧ OwnB w' w.heap.size (.slice a2 l2 c2) bs ∧ Cur w0 a cap zs w' g ∧ w.grownBy w' (some g)
def DrawnReqN (w0 : World) (a : Option Addr) (cap : Nat) (zs : List Int) (w : World) (g : Nat) (e : Ending) (w' : World) : Prop :=
  ∃ (kd pl nn wa : Int) (a1 a2 : Option Addr) (l1 l2 c1 c2 : Nat) (ws : List Int) (bs : List Bool), e = .returned (rq kd pl nn wa a1 a2 l1 l2 c1 c2) ∧ l1 = ws.length ∧ l2 = bs.length ∧ l1 ≤ 6 ∧ l2 ≤ 20 ∧ okR kd pl nn wa ws l1 l2 = true ∧ OwnI w' w.heap.size (.slice a1 l1 c1) ws ∧ OwnB w' w.heap.size (.slice a2 l2 c2) bs ∧ Cur w0 a cap zs w' g ∧ w.grownBy w' (some g) ∧ (0 ≤ pl ∧ pl ≤ 100 ∧ 0 ≤ nn ∧ nn ≤ 100)
set_option maxRecDepth 20000 in
set_option maxHeartbeats 16000000 in
theorem l3DrawN_any (w0 : World) (a : Option Addr) (cap : Nat) (zs : List Int) (w : World) (g : Nat) (hC : Cur w0 a cap zs w g) :
    Calls Tryz.prog 35 #[.pointer (some ⟨g, 0, none⟩), .int .i64 0] w fun e w' => DrawnReqN w0 a cap zs w g e w' := by
  obtain ⟨W0, hW0⟩ : ∃ W0, W0 = w.alloc (.cells #[.int .i64 0, .int .i64 0, .int .i64 0, .slice none 0 0, .slice none 0 0, .int .i64 0] 30) := ⟨_, rfl⟩
  have HW : Hid (W0 = _) := hW0
  have hg := hC.hi
  have hlo := hC.lo
  have C0 : Cur w0 a cap zs W0 g := by rw [hW0]; exact hC.alloc _
  have G0 : w.grownBy W0 (some g) := by rw [hW0]; exact World.grownBy_alloc _ _ _
  have R0 : Blk W0 w.heap.size 30 #[.int .i64 0, .int .i64 0, .int .i64 0, .slice none 0 0, .slice none 0 0, .int .i64 0] := by rw [hW0]; exact Blk.new _ _ _
  have I1 := ints_lit W0 [1, 2, 3, 4, 5, 6, 15, 16, 22, 23, 3, 16] 3
  have C1 := C0.alloc (.cells ([1, 2, 3, 4, 5, 6, 15, 16, 22, 23, 3, 16].map (Value.int .i64)).toArray 3)
  have G1 : w.grownBy (W0.alloc (.cells ([1, 2, 3, 4, 5, 6, 15, 16, 22, 23, 3, 16].map (Value.int .i64)).toArray 3)) (some g) := grown_trans G0 (World.grownBy_alloc _ _ _)
  have R1 := R0.below (bel_alloc W0 (.cells ([1, 2, 3, 4, 5, 6, 15, 16, 22, 23, 3, 16].map (Value.int .i64)).toArray 3))
  have hne1 : W0.heap.size ≠ g := by have := C0.hi; omega
  have HGR : Hid (g < w.heap.size ∧ w0.heap.size ≤ g) := ⟨hg, hlo⟩
  clear hC hW0 C0 G0 R0 hlo
  go_enter Tryz.func35, Tryz.ntmps35
  go_upto_region 1 with fail
  rw [← HW.out]
  go_wp2_with fail
  refine (l1Int_any w0 a cap zs _ g ⟨W0.heap.size, 0, none⟩ 12 12 [1, 2, 3, 4, 5, 6, 15, 16, 22, 23, 3, 16] rfl (by omega) (by omega) I1 hne1 C1).mono ?_
  rintro e u1 ⟨kd, rfl, hkd, C2, g2⟩
  have G2 := grown_trans G1 g2
  have R2 := R1.grown g2 (by simp; omega)
  have hk : kd = 1 ∨ kd = 2 ∨ kd = 3 ∨ kd = 4 ∨ kd = 5 ∨ kd = 6 ∨ kd = 15 ∨ kd = 16 ∨ kd = 22 ∨ kd = 23 := by simp at hkd; omega
  clear I1 C1 G1 R1 g2 hne1 hkd
  go_wp2_with fail
  refine (l1Below_any w0 a cap zs _ g _ (by decide) C2).mono ?_
  rintro e u2 ⟨p, rfl, hp, C3, g3⟩
  have G3 := grown_trans G2 g3
  have R3 := R2.grown g3 (by simp; omega)
  clear C2 G2 R2 g3
  obtain rfl | rfl | rfl | rfl | rfl | rfl | rfl | rfl | rfl | rfl := hk
  · skip
    obtain ⟨u3, hu3⟩ : ∃ u3, u3 = u2.alloc (.cells #[.int .i64 1, .int .i64 p, .int .i64 0, .slice none 0 0, .slice none 0 0, .int .i64 0] 30) := ⟨_, rfl⟩
    have HU : Hid (u3 = _) := hu3
    obtain ⟨B, hB⟩ : ∃ B, B = u2.heap.size := ⟨_, rfl⟩
    have HBe : Hid (B = u2.heap.size) := hB
    have HB : Hid (w.heap.size < B) := by show w.heap.size < B; have := R3.lt; omega
    have C4 : Cur w0 a cap zs u3 g := by rw [hu3]; exact C3.alloc _
    have G4 : w.grownBy u3 (some g) := by rw [hu3]; exact grown_trans G3 (World.grownBy_alloc _ _ _)
    have R4 : Blk u3 w.heap.size 30 #[.int .i64 0, .int .i64 0, .int .i64 0, .slice none 0 0, .slice none 0 0, .int .i64 0] := by rw [hu3]; exact R3.below (bel_alloc _ _)
    have Q4 : Blk u3 B 30 #[.int .i64 1, .int .i64 p, .int .i64 0, .slice none 0 0, .slice none 0 0, .int .i64 0] := by rw [hu3, hB]; exact Blk.new _ _ _
    clear C3 G3 R3 hu3 hB
    go_upto_region 2 with fail
    rw [← HU.out]
    simp only [← HBe.out]
    go_wp2_with fail
    refine (l1Below_any w0 a cap zs _ g _ (by decide) C4).mono ?_
    rintro e t5 ⟨x, rfl, hx, C5, gg⟩
    have G5 := grown_trans G4 gg
    have R5 := R4.grown gg (by have := HGR.out; simp; omega)
    have Q5 := Q4.grown gg (by have := HGR.out; have := HB.out; simp; omega)
    clear C4 R4 Q4 gg
    clear G4
    have k0 := Q5.cell 0 rfl
    go_upto_region 4 with fail
    have qc := Q5.cell 2 rfl
    have qf := Q5.fro 2
    have Q6 := Q5.set 2 (.int .i64 (1 + x))
    have R6 := R5.setNe (g' := B) (j := 2) (y := .int .i64 (1 + x)) (by have := HB.out; omega)
    have C6 := C5.setHi (G := B) (j := 2) (y := .int .i64 (1 + x)) (by have := HB.out; have := HGR.out; omega) (by have := HB.out; have := HGR.out; omega)
    have G6 := grown_setHi (G := B) (j := 2) (y := .int .i64 (1 + x)) G5 (by have := HB.out; omega)
    go_upto_region 19 with fail
    obtain ⟨v6, hv6⟩ : ∃ v6, v6 = t5.setCell ⟨B, 2, none⟩ (.int .i64 (1 + x)) := ⟨_, rfl⟩
    rw [← hv6] at Q6 R6 C6 G6 ⊢
    clear hv6 qc qf Q5 R5 C5 G5
    obtain ⟨q0, q1, q2, q3, q4, q5⟩ := Q6.six
    obtain ⟨y0, y1, y2, y3, y4, y5⟩ := R6.six
    have fy := R6.fro
    have OI : OwnI v6 w.heap.size (.slice none 0 0) [] := (ownI_nil _ _)
    have OB : OwnB v6 w.heap.size (.slice none 0 0) [] := (ownB_nil _ _)
    have HH : Hid (OwnI v6 w.heap.size (.slice none 0 0) [] ∧ OwnB v6 w.heap.size (.slice none 0 0) [] ∧ Cur w0 a cap zs v6 g ∧ w.grownBy v6 (some g) ∧ Blk v6 w.heap.size 30 #[.int .i64 0, .int .i64 0, .int .i64 0, .slice none 0 0, .slice none 0 0, .int .i64 0]) := ⟨OI, OB, C6, G6, R6⟩
    clear OI OB C6 G6 R6 Q6
    go_wp2
    refine bodyPost_ret (v := rq 1 (p) ((1 + x)) (0) none none 0 0 0 0) (by simp [results, Tryz.results35, go_sem, y0, y1, y2, y3, y4, y5]) rfl ?_
    obtain ⟨OI, OB, CE, GE, RE⟩ := HH.out
    have hA0 : allW ([] : List Int) = true := by decide
    have hOK : okR 1 (p) ((1 + x)) (0) [] 0 0 = true := by first | (simp [okR, okK, zrB, inB, fitB, hA0]; omega) | (have h6 := HM.out; simp [okR, okK, zrB, inB, fitB, hA0]; omega) | (have h5 := HAW.out; have h6 := HM.out; simp [okR, okK, zrB, inB, fitB, h5]; omega) | (have h5 := HAW.out; simp [okR, okK, zrB, inB, fitB, h5]; omega)
    have hgR : g ≠ w.heap.size := by have := HGR.out; omega
    have hwR : w0.heap.size ≤ w.heap.size := by have := HGR.out; omega
    exact ⟨_, _, _, _, _, _, _, _, _, _, [], [], rfl, rfl, rfl, by first | omega | (have := HM.out; omega), by first | omega | (have := HM.out; omega), hOK, row_set6 OI ⟨_, RE⟩ (by decide), row_set6 OB ⟨_, RE⟩ (by decide), (((((CE.setHi hgR hwR).setHi hgR hwR).setHi hgR hwR).setHi hgR hwR).setHi hgR hwR).setHi hgR hwR, grown_setHi (grown_setHi (grown_setHi (grown_setHi (grown_setHi (grown_setHi GE (Nat.le_refl _)) (Nat.le_refl _)) (Nat.le_refl _)) (Nat.le_refl _)) (Nat.le_refl _)) (Nat.le_refl _), ⟨by first | omega | (have := HM.out; omega), by first | omega | (have := HM.out; omega), by first | omega | (have := HM.out; omega), by first | omega | (have := HM.out; omega)⟩⟩
  · skip
    obtain ⟨u3, hu3⟩ : ∃ u3, u3 = u2.alloc (.cells #[.int .i64 2, .int .i64 p, .int .i64 0, .slice none 0 0, .slice none 0 0, .int .i64 0] 30) := ⟨_, rfl⟩
    have HU : Hid (u3 = _) := hu3
    obtain ⟨B, hB⟩ : ∃ B, B = u2.heap.size := ⟨_, rfl⟩
    have HBe : Hid (B = u2.heap.size) := hB
    have HB : Hid (w.heap.size < B) := by show w.heap.size < B; have := R3.lt; omega
    have C4 : Cur w0 a cap zs u3 g := by rw [hu3]; exact C3.alloc _
    have G4 : w.grownBy u3 (some g) := by rw [hu3]; exact grown_trans G3 (World.grownBy_alloc _ _ _)
    have R4 : Blk u3 w.heap.size 30 #[.int .i64 0, .int .i64 0, .int .i64 0, .slice none 0 0, .slice none 0 0, .int .i64 0] := by rw [hu3]; exact R3.below (bel_alloc _ _)
    have Q4 : Blk u3 B 30 #[.int .i64 2, .int .i64 p, .int .i64 0, .slice none 0 0, .slice none 0 0, .int .i64 0] := by rw [hu3, hB]; exact Blk.new _ _ _
    clear C3 G3 R3 hu3 hB
    go_upto_region 2 with fail
    rw [← HU.out]
    simp only [← HBe.out]
    go_wp2_with fail
    refine (l1Below_any w0 a cap zs _ g _ (by decide) C4).mono ?_
    rintro e t5 ⟨x, rfl, hx, C5, gg⟩
    have G5 := grown_trans G4 gg
    have R5 := R4.grown gg (by have := HGR.out; simp; omega)
    have Q5 := Q4.grown gg (by have := HGR.out; have := HB.out; simp; omega)
    clear C4 R4 Q4 gg
    clear G4
    have k0 := Q5.cell 0 rfl
    go_upto_region 4 with fail
    have qc := Q5.cell 2 rfl
    have qf := Q5.fro 2
    have Q6 := Q5.set 2 (.int .i64 (1 + x))
    have R6 := R5.setNe (g' := B) (j := 2) (y := .int .i64 (1 + x)) (by have := HB.out; omega)
    have C6 := C5.setHi (G := B) (j := 2) (y := .int .i64 (1 + x)) (by have := HB.out; have := HGR.out; omega) (by have := HB.out; have := HGR.out; omega)
    have G6 := grown_setHi (G := B) (j := 2) (y := .int .i64 (1 + x)) G5 (by have := HB.out; omega)
    go_upto_region 19 with fail
    obtain ⟨v6, hv6⟩ : ∃ v6, v6 = t5.setCell ⟨B, 2, none⟩ (.int .i64 (1 + x)) := ⟨_, rfl⟩
    rw [← hv6] at Q6 R6 C6 G6 ⊢
    clear hv6 qc qf Q5 R5 C5 G5
    obtain ⟨q0, q1, q2, q3, q4, q5⟩ := Q6.six
    obtain ⟨y0, y1, y2, y3, y4, y5⟩ := R6.six
    have fy := R6.fro
    have OI : OwnI v6 w.heap.size (.slice none 0 0) [] := (ownI_nil _ _)
    have OB : OwnB v6 w.heap.size (.slice none 0 0) [] := (ownB_nil _ _)
    have HH : Hid (OwnI v6 w.heap.size (.slice none 0 0) [] ∧ OwnB v6 w.heap.size (.slice none 0 0) [] ∧ Cur w0 a cap zs v6 g ∧ w.grownBy v6 (some g) ∧ Blk v6 w.heap.size 30 #[.int .i64 0, .int .i64 0, .int .i64 0, .slice none 0 0, .slice none 0 0, .int .i64 0]) := ⟨OI, OB, C6, G6, R6⟩
    clear OI OB C6 G6 R6 Q6
    go_wp2
    refine bodyPost_ret (v := rq 2 (p) ((1 + x)) (0) none none 0 0 0 0) (by simp [results, Tryz.results35, go_sem, y0, y1, y2, y3, y4, y5]) rfl ?_
    obtain ⟨OI, OB, CE, GE, RE⟩ := HH.out
    have hA0 : allW ([] : List Int) = true := by decide
    have hOK : okR 2 (p) ((1 + x)) (0) [] 0 0 = true := by first | (simp [okR, okK, zrB, inB, fitB, hA0]; omega) | (have h6 := HM.out; simp [okR, okK, zrB, inB, fitB, hA0]; omega) | (have h5 := HAW.out; have h6 := HM.out; simp [okR, okK, zrB, inB, fitB, h5]; omega) | (have h5 := HAW.out; simp [okR, okK, zrB, inB, fitB, h5]; omega)
    have hgR : g ≠ w.heap.size := by have := HGR.out; omega
    have hwR : w0.heap.size ≤ w.heap.size := by have := HGR.out; omega
    exact ⟨_, _, _, _, _, _, _, _, _, _, [], [], rfl, rfl, rfl, by first | omega | (have := HM.out; omega), by first | omega | (have := HM.out; omega), hOK, row_set6 OI ⟨_, RE⟩ (by decide), row_set6 OB ⟨_, RE⟩ (by decide), (((((CE.setHi hgR hwR).setHi hgR hwR).setHi hgR hwR).setHi hgR hwR).setHi hgR hwR).setHi hgR hwR, grown_setHi (grown_setHi (grown_setHi (grown_setHi (grown_setHi (grown_setHi GE (Nat.le_refl _)) (Nat.le_refl _)) (Nat.le_refl _)) (Nat.le_refl _)) (Nat.le_refl _)) (Nat.le_refl _), ⟨by first | omega | (have := HM.out; omega), by first | omega | (have := HM.out; omega), by first | omega | (have := HM.out; omega), by first | omega | (have := HM.out; omega)⟩⟩
  · skip
    obtain ⟨u3, hu3⟩ : ∃ u3, u3 = u2.alloc (.cells #[.int .i64 3, .int .i64 p, .int .i64 0, .slice none 0 0, .slice none 0 0, .int .i64 0] 30) := ⟨_, rfl⟩
    have HU : Hid (u3 = _) := hu3
    obtain ⟨B, hB⟩ : ∃ B, B = u2.heap.size := ⟨_, rfl⟩
    have HBe : Hid (B = u2.heap.size) := hB
    have HB : Hid (w.heap.size < B) := by show w.heap.size < B; have := R3.lt; omega
    have C4 : Cur w0 a cap zs u3 g := by rw [hu3]; exact C3.alloc _
    have G4 : w.grownBy u3 (some g) := by rw [hu3]; exact grown_trans G3 (World.grownBy_alloc _ _ _)
    have R4 : Blk u3 w.heap.size 30 #[.int .i64 0, .int .i64 0, .int .i64 0, .slice none 0 0, .slice none 0 0, .int .i64 0] := by rw [hu3]; exact R3.below (bel_alloc _ _)
    have Q4 : Blk u3 B 30 #[.int .i64 3, .int .i64 p, .int .i64 0, .slice none 0 0, .slice none 0 0, .int .i64 0] := by rw [hu3, hB]; exact Blk.new _ _ _
    clear C3 G3 R3 hu3 hB
    go_upto_region 2 with fail
    rw [← HU.out]
    simp only [← HBe.out]
    go_wp2_with fail
    refine (l1Below_any w0 a cap zs _ g _ (by decide) C4).mono ?_
    rintro e t5 ⟨x, rfl, hx, C5, gg⟩
    have G5 := grown_trans G4 gg
    have R5 := R4.grown gg (by have := HGR.out; simp; omega)
    have Q5 := Q4.grown gg (by have := HGR.out; have := HB.out; simp; omega)
    clear C4 R4 Q4 gg
    clear G4
    have k0 := Q5.cell 0 rfl
    go_upto_region 4 with fail
    have qc := Q5.cell 2 rfl
    have qf := Q5.fro 2
    have Q6 := Q5.set 2 (.int .i64 (1 + x))
    have R6 := R5.setNe (g' := B) (j := 2) (y := .int .i64 (1 + x)) (by have := HB.out; omega)
    have C6 := C5.setHi (G := B) (j := 2) (y := .int .i64 (1 + x)) (by have := HB.out; have := HGR.out; omega) (by have := HB.out; have := HGR.out; omega)
    have G6 := grown_setHi (G := B) (j := 2) (y := .int .i64 (1 + x)) G5 (by have := HB.out; omega)
    go_upto_region 19 with fail
    obtain ⟨v6, hv6⟩ : ∃ v6, v6 = t5.setCell ⟨B, 2, none⟩ (.int .i64 (1 + x)) := ⟨_, rfl⟩
    rw [← hv6] at Q6 R6 C6 G6 ⊢
    clear hv6 qc qf Q5 R5 C5 G5
    obtain ⟨q0, q1, q2, q3, q4, q5⟩ := Q6.six
    obtain ⟨y0, y1, y2, y3, y4, y5⟩ := R6.six
    have fy := R6.fro
    have OI : OwnI v6 w.heap.size (.slice none 0 0) [] := (ownI_nil _ _)
    have OB : OwnB v6 w.heap.size (.slice none 0 0) [] := (ownB_nil _ _)
    have HH : Hid (OwnI v6 w.heap.size (.slice none 0 0) [] ∧ OwnB v6 w.heap.size (.slice none 0 0) [] ∧ Cur w0 a cap zs v6 g ∧ w.grownBy v6 (some g) ∧ Blk v6 w.heap.size 30 #[.int .i64 0, .int .i64 0, .int .i64 0, .slice none 0 0, .slice none 0 0, .int .i64 0]) := ⟨OI, OB, C6, G6, R6⟩
    clear OI OB C6 G6 R6 Q6
    go_wp2
    refine bodyPost_ret (v := rq 3 (p) ((1 + x)) (0) none none 0 0 0 0) (by simp [results, Tryz.results35, go_sem, y0, y1, y2, y3, y4, y5]) rfl ?_
    obtain ⟨OI, OB, CE, GE, RE⟩ := HH.out
    have hA0 : allW ([] : List Int) = true := by decide
    have hOK : okR 3 (p) ((1 + x)) (0) [] 0 0 = true := by first | (simp [okR, okK, zrB, inB, fitB, hA0]; omega) | (have h6 := HM.out; simp [okR, okK, zrB, inB, fitB, hA0]; omega) | (have h5 := HAW.out; have h6 := HM.out; simp [okR, okK, zrB, inB, fitB, h5]; omega) | (have h5 := HAW.out; simp [okR, okK, zrB, inB, fitB, h5]; omega)
    have hgR : g ≠ w.heap.size := by have := HGR.out; omega
    have hwR : w0.heap.size ≤ w.heap.size := by have := HGR.out; omega
    exact ⟨_, _, _, _, _, _, _, _, _, _, [], [], rfl, rfl, rfl, by first | omega | (have := HM.out; omega), by first | omega | (have := HM.out; omega), hOK, row_set6 OI ⟨_, RE⟩ (by decide), row_set6 OB ⟨_, RE⟩ (by decide), (((((CE.setHi hgR hwR).setHi hgR hwR).setHi hgR hwR).setHi hgR hwR).setHi hgR hwR).setHi hgR hwR, grown_setHi (grown_setHi (grown_setHi (grown_setHi (grown_setHi (grown_setHi GE (Nat.le_refl _)) (Nat.le_refl _)) (Nat.le_refl _)) (Nat.le_refl _)) (Nat.le_refl _)) (Nat.le_refl _), ⟨by first | omega | (have := HM.out; omega), by first | omega | (have := HM.out; omega), by first | omega | (have := HM.out; omega), by first | omega | (have := HM.out; omega)⟩⟩
  · skip
    obtain ⟨u3, hu3⟩ : ∃ u3, u3 = u2.alloc (.cells #[.int .i64 4, .int .i64 p, .int .i64 0, .slice none 0 0, .slice none 0 0, .int .i64 0] 30) := ⟨_, rfl⟩
    have HU : Hid (u3 = _) := hu3
    obtain ⟨B, hB⟩ : ∃ B, B = u2.heap.size := ⟨_, rfl⟩
    have HBe : Hid (B = u2.heap.size) := hB
    have HB : Hid (w.heap.size < B) := by show w.heap.size < B; have := R3.lt; omega
    have C4 : Cur w0 a cap zs u3 g := by rw [hu3]; exact C3.alloc _
    have G4 : w.grownBy u3 (some g) := by rw [hu3]; exact grown_trans G3 (World.grownBy_alloc _ _ _)
    have R4 : Blk u3 w.heap.size 30 #[.int .i64 0, .int .i64 0, .int .i64 0, .slice none 0 0, .slice none 0 0, .int .i64 0] := by rw [hu3]; exact R3.below (bel_alloc _ _)
    have Q4 : Blk u3 B 30 #[.int .i64 4, .int .i64 p, .int .i64 0, .slice none 0 0, .slice none 0 0, .int .i64 0] := by rw [hu3, hB]; exact Blk.new _ _ _
    clear C3 G3 R3 hu3 hB
    go_upto_region 2 with fail
    rw [← HU.out]
    simp only [← HBe.out]
    go_wp2_with fail
    refine (l1Below_any w0 a cap zs _ g _ (by decide) C4).mono ?_
    rintro e t5 ⟨x, rfl, hx, C5, gg⟩
    have G5 := grown_trans G4 gg
    have R5 := R4.grown gg (by have := HGR.out; simp; omega)
    have Q5 := Q4.grown gg (by have := HGR.out; have := HB.out; simp; omega)
    clear C4 R4 Q4 gg
    clear G4
    have k0 := Q5.cell 0 rfl
    go_upto_region 4 with fail
    have qc := Q5.cell 2 rfl
    have qf := Q5.fro 2
    have Q6 := Q5.set 2 (.int .i64 (1 + x))
    have R6 := R5.setNe (g' := B) (j := 2) (y := .int .i64 (1 + x)) (by have := HB.out; omega)
    have C6 := C5.setHi (G := B) (j := 2) (y := .int .i64 (1 + x)) (by have := HB.out; have := HGR.out; omega) (by have := HB.out; have := HGR.out; omega)
    have G6 := grown_setHi (G := B) (j := 2) (y := .int .i64 (1 + x)) G5 (by have := HB.out; omega)
    go_upto_region 19 with fail
    obtain ⟨v6, hv6⟩ : ∃ v6, v6 = t5.setCell ⟨B, 2, none⟩ (.int .i64 (1 + x)) := ⟨_, rfl⟩
    rw [← hv6] at Q6 R6 C6 G6 ⊢
    clear hv6 qc qf Q5 R5 C5 G5
    obtain ⟨q0, q1, q2, q3, q4, q5⟩ := Q6.six
    obtain ⟨y0, y1, y2, y3, y4, y5⟩ := R6.six
    have fy := R6.fro
    have OI : OwnI v6 w.heap.size (.slice none 0 0) [] := (ownI_nil _ _)
    have OB : OwnB v6 w.heap.size (.slice none 0 0) [] := (ownB_nil _ _)
    have HH : Hid (OwnI v6 w.heap.size (.slice none 0 0) [] ∧ OwnB v6 w.heap.size (.slice none 0 0) [] ∧ Cur w0 a cap zs v6 g ∧ w.grownBy v6 (some g) ∧ Blk v6 w.heap.size 30 #[.int .i64 0, .int .i64 0, .int .i64 0, .slice none 0 0, .slice none 0 0, .int .i64 0]) := ⟨OI, OB, C6, G6, R6⟩
    clear OI OB C6 G6 R6 Q6
    go_wp2
    refine bodyPost_ret (v := rq 4 (p) ((1 + x)) (0) none none 0 0 0 0) (by simp [results, Tryz.results35, go_sem, y0, y1, y2, y3, y4, y5]) rfl ?_
    obtain ⟨OI, OB, CE, GE, RE⟩ := HH.out
    have hA0 : allW ([] : List Int) = true := by decide
    have hOK : okR 4 (p) ((1 + x)) (0) [] 0 0 = true := by first | (simp [okR, okK, zrB, inB, fitB, hA0]; omega) | (have h6 := HM.out; simp [okR, okK, zrB, inB, fitB, hA0]; omega) | (have h5 := HAW.out; have h6 := HM.out; simp [okR, okK, zrB, inB, fitB, h5]; omega) | (have h5 := HAW.out; simp [okR, okK, zrB, inB, fitB, h5]; omega)
    have hgR : g ≠ w.heap.size := by have := HGR.out; omega
    have hwR : w0.heap.size ≤ w.heap.size := by have := HGR.out; omega
    exact ⟨_, _, _, _, _, _, _, _, _, _, [], [], rfl, rfl, rfl, by first | omega | (have := HM.out; omega), by first | omega | (have := HM.out; omega), hOK, row_set6 OI ⟨_, RE⟩ (by decide), row_set6 OB ⟨_, RE⟩ (by decide), (((((CE.setHi hgR hwR).setHi hgR hwR).setHi hgR hwR).setHi hgR hwR).setHi hgR hwR).setHi hgR hwR, grown_setHi (grown_setHi (grown_setHi (grown_setHi (grown_setHi (grown_setHi GE (Nat.le_refl _)) (Nat.le_refl _)) (Nat.le_refl _)) (Nat.le_refl _)) (Nat.le_refl _)) (Nat.le_refl _), ⟨by first | omega | (have := HM.out; omega), by first | omega | (have := HM.out; omega), by first | omega | (have := HM.out; omega), by first | omega | (have := HM.out; omega)⟩⟩
  · skip
    obtain ⟨u3, hu3⟩ : ∃ u3, u3 = u2.alloc (.cells #[.int .i64 5, .int .i64 p, .int .i64 0, .slice none 0 0, .slice none 0 0, .int .i64 0] 30) := ⟨_, rfl⟩
    have HU : Hid (u3 = _) := hu3
    obtain ⟨B, hB⟩ : ∃ B, B = u2.heap.size := ⟨_, rfl⟩
    have HBe : Hid (B = u2.heap.size) := hB
    have HB : Hid (w.heap.size < B) := by show w.heap.size < B; have := R3.lt; omega
    have C4 : Cur w0 a cap zs u3 g := by rw [hu3]; exact C3.alloc _
    have G4 : w.grownBy u3 (some g) := by rw [hu3]; exact grown_trans G3 (World.grownBy_alloc _ _ _)
    have R4 : Blk u3 w.heap.size 30 #[.int .i64 0, .int .i64 0, .int .i64 0, .slice none 0 0, .slice none 0 0, .int .i64 0] := by rw [hu3]; exact R3.below (bel_alloc _ _)
    have Q4 : Blk u3 B 30 #[.int .i64 5, .int .i64 p, .int .i64 0, .slice none 0 0, .slice none 0 0, .int .i64 0] := by rw [hu3, hB]; exact Blk.new _ _ _
    clear C3 G3 R3 hu3 hB
    go_upto_region 2 with fail
    rw [← HU.out]
    simp only [← HBe.out]
    go_wp2_with fail
    refine (l1Below_any w0 a cap zs _ g _ (by decide) C4).mono ?_
    rintro e t5 ⟨x, rfl, hx, C5, gg⟩
    have G5 := grown_trans G4 gg
    have R5 := R4.grown gg (by have := HGR.out; simp; omega)
    have Q5 := Q4.grown gg (by have := HGR.out; have := HB.out; simp; omega)
    clear C4 R4 Q4 gg
    clear G4
    have k0 := Q5.cell 0 rfl
    go_upto_region 6 with fail
    go_wp2_with fail
    refine (l2Bits_at w0 a cap zs _ g _ 1 rfl (by omega) C5).mono ?_
    rintro e t6 ⟨a', c', bs, rfl, hbs, oj, C6, gg⟩
    have G6 := grown_trans G5 gg
    have R6 := R5.grown gg (by have := HGR.out; simp; omega)
    have Q6 := Q5.grown gg (by have := HGR.out; have := HB.out; simp; omega)
    clear C5 R5 Q5 gg
    have J6 := OwnB.mono oj G5.size
    have HBs : Hid (_ = bs.length) := hbs
    clear oj hbs G5
    have qc := Q6.cell 4 rfl
    have qf := Q6.fro 4
    have Q7 := Q6.set 4 (.slice (some a') 1 c')
    have R7 := R6.setNe (g' := B) (j := 4) (y := .slice (some a') 1 c') (by have := HB.out; omega)
    have C7 := C6.setHi (G := B) (j := 4) (y := .slice (some a') 1 c') (by have := HB.out; have := HGR.out; omega) (by have := HB.out; have := HGR.out; omega)
    have G7 := grown_setHi (G := B) (j := 4) (y := .slice (some a') 1 c') G6 (by have := HB.out; omega)
    have J7 := row_setE (j := 4) (y := .slice (some a') 1 c') J6 ⟨_, Q6⟩ (by decide)
    go_upto_region 19 with fail
    obtain ⟨v7, hv7⟩ : ∃ v7, v7 = t6.setCell ⟨B, 4, none⟩ (.slice (some a') 1 c') := ⟨_, rfl⟩
    rw [← hv7] at Q7 R7 C7 G7 J7 ⊢
    clear hv7 qc qf Q6 R6 C6 G6 J6
    obtain ⟨q0, q1, q2, q3, q4, q5⟩ := Q7.six
    obtain ⟨y0, y1, y2, y3, y4, y5⟩ := R7.six
    have fy := R7.fro
    have OI : OwnI v7 w.heap.size (.slice none 0 0) [] := (ownI_nil _ _)
    have OB : OwnB v7 w.heap.size (.slice (some a') 1 c') bs := J7
    have HH : Hid (OwnI v7 w.heap.size (.slice none 0 0) [] ∧ OwnB v7 w.heap.size (.slice (some a') 1 c') bs ∧ Cur w0 a cap zs v7 g ∧ w.grownBy v7 (some g) ∧ Blk v7 w.heap.size 30 #[.int .i64 0, .int .i64 0, .int .i64 0, .slice none 0 0, .slice none 0 0, .int .i64 0]) := ⟨OI, OB, C7, G7, R7⟩
    clear OI OB C7 G7 R7 Q7 J7
    go_wp2
    refine bodyPost_ret (v := rq 5 (p) (0) (0) none (some a') 0 1 0 c') (by simp [results, Tryz.results35, go_sem, y0, y1, y2, y3, y4, y5]) rfl ?_
    obtain ⟨OI, OB, CE, GE, RE⟩ := HH.out
    have hA0 : allW ([] : List Int) = true := by decide
    have hOK : okR 5 (p) (0) (0) [] 0 1 = true := by first | (simp [okR, okK, zrB, inB, fitB, hA0]; omega) | (have h6 := HM.out; simp [okR, okK, zrB, inB, fitB, hA0]; omega) | (have h5 := HAW.out; have h6 := HM.out; simp [okR, okK, zrB, inB, fitB, h5]; omega) | (have h5 := HAW.out; simp [okR, okK, zrB, inB, fitB, h5]; omega)
    have hgR : g ≠ w.heap.size := by have := HGR.out; omega
    have hwR : w0.heap.size ≤ w.heap.size := by have := HGR.out; omega
    exact ⟨_, _, _, _, _, _, _, _, _, _, [], bs, rfl, rfl, HBs.out, by first | omega | (have := HM.out; omega), by first | omega | (have := HM.out; omega), hOK, row_set6 OI ⟨_, RE⟩ (by decide), row_set6 OB ⟨_, RE⟩ (by decide), (((((CE.setHi hgR hwR).setHi hgR hwR).setHi hgR hwR).setHi hgR hwR).setHi hgR hwR).setHi hgR hwR, grown_setHi (grown_setHi (grown_setHi (grown_setHi (grown_setHi (grown_setHi GE (Nat.le_refl _)) (Nat.le_refl _)) (Nat.le_refl _)) (Nat.le_refl _)) (Nat.le_refl _)) (Nat.le_refl _), ⟨by first | omega | (have := HM.out; omega), by first | omega | (have := HM.out; omega), by first | omega | (have := HM.out; omega), by first | omega | (have := HM.out; omega)⟩⟩
  · skip
    obtain ⟨u3, hu3⟩ : ∃ u3, u3 = u2.alloc (.cells #[.int .i64 6, .int .i64 p, .int .i64 0, .slice none 0 0, .slice none 0 0, .int .i64 0] 30) := ⟨_, rfl⟩
    have HU : Hid (u3 = _) := hu3
    obtain ⟨B, hB⟩ : ∃ B, B = u2.heap.size := ⟨_, rfl⟩
    have HBe : Hid (B = u2.heap.size) := hB
    have HB : Hid (w.heap.size < B) := by show w.heap.size < B; have := R3.lt; omega
    have C4 : Cur w0 a cap zs u3 g := by rw [hu3]; exact C3.alloc _
    have G4 : w.grownBy u3 (some g) := by rw [hu3]; exact grown_trans G3 (World.grownBy_alloc _ _ _)
    have R4 : Blk u3 w.heap.size 30 #[.int .i64 0, .int .i64 0, .int .i64 0, .slice none 0 0, .slice none 0 0, .int .i64 0] := by rw [hu3]; exact R3.below (bel_alloc _ _)
    have Q4 : Blk u3 B 30 #[.int .i64 6, .int .i64 p, .int .i64 0, .slice none 0 0, .slice none 0 0, .int .i64 0] := by rw [hu3, hB]; exact Blk.new _ _ _
    clear C3 G3 R3 hu3 hB
    go_upto_region 2 with fail
    rw [← HU.out]
    simp only [← HBe.out]
    go_wp2_with fail
    refine (l1Below_any w0 a cap zs _ g _ (by decide) C4).mono ?_
    rintro e t5 ⟨x, rfl, hx, C5, gg⟩
    have G5 := grown_trans G4 gg
    have R5 := R4.grown gg (by have := HGR.out; simp; omega)
    have Q5 := Q4.grown gg (by have := HGR.out; have := HB.out; simp; omega)
    clear C4 R4 Q4 gg
    clear G4
    have k0 := Q5.cell 0 rfl
    go_upto_region 8 with fail
    go_wp2_with fail
    refine (l3List_at w0 a cap zs _ g _ 1 rfl (by omega) C5).mono ?_
    rintro e t6 ⟨a', c', ws, rfl, hws, hrg, oi, C6, gg⟩
    have G6 := grown_trans G5 gg
    have R6 := R5.grown gg (by have := HGR.out; simp; omega)
    have Q6 := Q5.grown gg (by have := HGR.out; have := HB.out; simp; omega)
    clear C5 R5 Q5 gg
    have I6 := OwnI.mono oi G5.size
    have HWs : Hid (_ = ws.length) := hws
    have HAW : Hid (allW ws = true) := allW_of hrg
    clear oi hws hrg G5
    have qc := Q6.cell 3 rfl
    have qf := Q6.fro 3
    have Q7 := Q6.set 3 (.slice a' 1 c')
    have R7 := R6.setNe (g' := B) (j := 3) (y := .slice a' 1 c') (by have := HB.out; omega)
    have C7 := C6.setHi (G := B) (j := 3) (y := .slice a' 1 c') (by have := HB.out; have := HGR.out; omega) (by have := HB.out; have := HGR.out; omega)
    have G7 := grown_setHi (G := B) (j := 3) (y := .slice a' 1 c') G6 (by have := HB.out; omega)
    have I7 := row_setE (j := 3) (y := .slice a' 1 c') I6 ⟨_, Q6⟩ (by decide)
    go_upto_region 19 with fail
    obtain ⟨v7, hv7⟩ : ∃ v7, v7 = t6.setCell ⟨B, 3, none⟩ (.slice a' 1 c') := ⟨_, rfl⟩
    rw [← hv7] at Q7 R7 C7 G7 I7 ⊢
    clear hv7 qc qf Q6 R6 C6 G6 I6
    obtain ⟨q0, q1, q2, q3, q4, q5⟩ := Q7.six
    obtain ⟨y0, y1, y2, y3, y4, y5⟩ := R7.six
    have fy := R7.fro
    have OI : OwnI v7 w.heap.size (.slice a' 1 c') ws := I7
    have OB : OwnB v7 w.heap.size (.slice none 0 0) [] := (ownB_nil _ _)
    have HH : Hid (OwnI v7 w.heap.size (.slice a' 1 c') ws ∧ OwnB v7 w.heap.size (.slice none 0 0) [] ∧ Cur w0 a cap zs v7 g ∧ w.grownBy v7 (some g) ∧ Blk v7 w.heap.size 30 #[.int .i64 0, .int .i64 0, .int .i64 0, .slice none 0 0, .slice none 0 0, .int .i64 0]) := ⟨OI, OB, C7, G7, R7⟩
    clear OI OB C7 G7 R7 Q7 I7
    go_wp2
    refine bodyPost_ret (v := rq 6 (p) (0) (0) a' none 1 0 c' 0) (by simp [results, Tryz.results35, go_sem, y0, y1, y2, y3, y4, y5]) rfl ?_
    obtain ⟨OI, OB, CE, GE, RE⟩ := HH.out
    have hA0 : allW ([] : List Int) = true := by decide
    have hOK : okR 6 (p) (0) (0) ws 1 0 = true := by first | (simp [okR, okK, zrB, inB, fitB, hA0]; omega) | (have h6 := HM.out; simp [okR, okK, zrB, inB, fitB, hA0]; omega) | (have h5 := HAW.out; have h6 := HM.out; simp [okR, okK, zrB, inB, fitB, h5]; omega) | (have h5 := HAW.out; simp [okR, okK, zrB, inB, fitB, h5]; omega)
    have hgR : g ≠ w.heap.size := by have := HGR.out; omega
    have hwR : w0.heap.size ≤ w.heap.size := by have := HGR.out; omega
    exact ⟨_, _, _, _, _, _, _, _, _, _, ws, [], rfl, HWs.out, rfl, by first | omega | (have := HM.out; omega), by first | omega | (have := HM.out; omega), hOK, row_set6 OI ⟨_, RE⟩ (by decide), row_set6 OB ⟨_, RE⟩ (by decide), (((((CE.setHi hgR hwR).setHi hgR hwR).setHi hgR hwR).setHi hgR hwR).setHi hgR hwR).setHi hgR hwR, grown_setHi (grown_setHi (grown_setHi (grown_setHi (grown_setHi (grown_setHi GE (Nat.le_refl _)) (Nat.le_refl _)) (Nat.le_refl _)) (Nat.le_refl _)) (Nat.le_refl _)) (Nat.le_refl _), ⟨by first | omega | (have := HM.out; omega), by first | omega | (have := HM.out; omega), by first | omega | (have := HM.out; omega), by first | omega | (have := HM.out; omega)⟩⟩
  · skip
    obtain ⟨u3, hu3⟩ : ∃ u3, u3 = u2.alloc (.cells #[.int .i64 15, .int .i64 p, .int .i64 0, .slice none 0 0, .slice none 0 0, .int .i64 0] 30) := ⟨_, rfl⟩
    have HU : Hid (u3 = _) := hu3
    obtain ⟨B, hB⟩ : ∃ B, B = u2.heap.size := ⟨_, rfl⟩
    have HBe : Hid (B = u2.heap.size) := hB
    have HB : Hid (w.heap.size < B) := by show w.heap.size < B; have := R3.lt; omega
    have C4 : Cur w0 a cap zs u3 g := by rw [hu3]; exact C3.alloc _
    have G4 : w.grownBy u3 (some g) := by rw [hu3]; exact grown_trans G3 (World.grownBy_alloc _ _ _)
    have R4 : Blk u3 w.heap.size 30 #[.int .i64 0, .int .i64 0, .int .i64 0, .slice none 0 0, .slice none 0 0, .int .i64 0] := by rw [hu3]; exact R3.below (bel_alloc _ _)
    have Q4 : Blk u3 B 30 #[.int .i64 15, .int .i64 p, .int .i64 0, .slice none 0 0, .slice none 0 0, .int .i64 0] := by rw [hu3, hB]; exact Blk.new _ _ _
    clear C3 G3 R3 hu3 hB
    go_upto_region 2 with fail
    rw [← HU.out]
    simp only [← HBe.out]
    go_wp2_with fail
    refine (l1Below_any w0 a cap zs _ g _ (by decide) C4).mono ?_
    rintro e t5 ⟨x, rfl, hx, C5, gg⟩
    have G5 := grown_trans G4 gg
    have R5 := R4.grown gg (by have := HGR.out; simp; omega)
    have Q5 := Q4.grown gg (by have := HGR.out; have := HB.out; simp; omega)
    clear C4 R4 Q4 gg
    clear G4
    have k0 := Q5.cell 0 rfl
    go_upto_region 12 with fail
    go_wp2_with fail
    refine (l1Below_any w0 a cap zs _ g _ (by decide) C5).mono ?_
    rintro e t6 ⟨y, rfl, hy, C6, gg⟩
    have G6 := grown_trans G5 gg
    have R6 := R5.grown gg (by have := HGR.out; simp; omega)
    have Q6 := Q5.grown gg (by have := HGR.out; have := HB.out; simp; omega)
    clear C5 R5 Q5 gg
    clear G5
    obtain ⟨m, hm⟩ : ∃ m : Nat, 1 + x + y = (m : Int) := ⟨(1 + x + y).toNat, by omega⟩
    have HM : Hid (1 + x + y = (m : Int) ∧ m ≤ 100) := ⟨hm, by omega⟩
    clear hm
    go_wp2_with fail
    refine (l2Bits_at w0 a cap zs _ g _ m HM.out.1 (by have := HM.out; omega) C6).mono ?_
    rintro e t7 ⟨a', c', bs, rfl, hbs, oj, C7, gg⟩
    have G7 := grown_trans G6 gg
    have R7 := R6.grown gg (by have := HGR.out; simp; omega)
    have Q7 := Q6.grown gg (by have := HGR.out; have := HB.out; simp; omega)
    clear C6 R6 Q6 gg
    have J7 := OwnB.mono oj G6.size
    have HBs : Hid (_ = bs.length) := hbs
    clear oj hbs G6
    have qc := Q7.cell 4 rfl
    have qf := Q7.fro 4
    have Q8 := Q7.set 4 (.slice (some a') m c')
    have R8 := R7.setNe (g' := B) (j := 4) (y := .slice (some a') m c') (by have := HB.out; omega)
    have C8 := C7.setHi (G := B) (j := 4) (y := .slice (some a') m c') (by have := HB.out; have := HGR.out; omega) (by have := HB.out; have := HGR.out; omega)
    have G8 := grown_setHi (G := B) (j := 4) (y := .slice (some a') m c') G7 (by have := HB.out; omega)
    have J8 := row_setE (j := 4) (y := .slice (some a') m c') J7 ⟨_, Q7⟩ (by decide)
    go_upto_region 19 with fail
    obtain ⟨v8, hv8⟩ : ∃ v8, v8 = t7.setCell ⟨B, 4, none⟩ (.slice (some a') m c') := ⟨_, rfl⟩
    rw [← hv8] at Q8 R8 C8 G8 J8 ⊢
    clear hv8 qc qf Q7 R7 C7 G7 J7
    obtain ⟨q0, q1, q2, q3, q4, q5⟩ := Q8.six
    obtain ⟨y0, y1, y2, y3, y4, y5⟩ := R8.six
    have fy := R8.fro
    have OI : OwnI v8 w.heap.size (.slice none 0 0) [] := (ownI_nil _ _)
    have OB : OwnB v8 w.heap.size (.slice (some a') m c') bs := J8
    have HH : Hid (OwnI v8 w.heap.size (.slice none 0 0) [] ∧ OwnB v8 w.heap.size (.slice (some a') m c') bs ∧ Cur w0 a cap zs v8 g ∧ w.grownBy v8 (some g) ∧ Blk v8 w.heap.size 30 #[.int .i64 0, .int .i64 0, .int .i64 0, .slice none 0 0, .slice none 0 0, .int .i64 0]) := ⟨OI, OB, C8, G8, R8⟩
    clear OI OB C8 G8 R8 Q8 J8
    go_wp2
    refine bodyPost_ret (v := rq 15 (p) (0) (0) none (some a') 0 m 0 c') (by simp [results, Tryz.results35, go_sem, y0, y1, y2, y3, y4, y5]) rfl ?_
    obtain ⟨OI, OB, CE, GE, RE⟩ := HH.out
    have hA0 : allW ([] : List Int) = true := by decide
    have hOK : okR 15 (p) (0) (0) [] 0 m = true := by first | (simp [okR, okK, zrB, inB, fitB, hA0]; omega) | (have h6 := HM.out; simp [okR, okK, zrB, inB, fitB, hA0]; omega) | (have h5 := HAW.out; have h6 := HM.out; simp [okR, okK, zrB, inB, fitB, h5]; omega) | (have h5 := HAW.out; simp [okR, okK, zrB, inB, fitB, h5]; omega)
    have hgR : g ≠ w.heap.size := by have := HGR.out; omega
    have hwR : w0.heap.size ≤ w.heap.size := by have := HGR.out; omega
    exact ⟨_, _, _, _, _, _, _, _, _, _, [], bs, rfl, rfl, HBs.out, by first | omega | (have := HM.out; omega), by first | omega | (have := HM.out; omega), hOK, row_set6 OI ⟨_, RE⟩ (by decide), row_set6 OB ⟨_, RE⟩ (by decide), (((((CE.setHi hgR hwR).setHi hgR hwR).setHi hgR hwR).setHi hgR hwR).setHi hgR hwR).setHi hgR hwR, grown_setHi (grown_setHi (grown_setHi (grown_setHi (grown_setHi (grown_setHi GE (Nat.le_refl _)) (Nat.le_refl _)) (Nat.le_refl _)) (Nat.le_refl _)) (Nat.le_refl _)) (Nat.le_refl _), ⟨by first | omega | (have := HM.out; omega), by first | omega | (have := HM.out; omega), by first | omega | (have := HM.out; omega), by first | omega | (have := HM.out; omega)⟩⟩
  · skip
    obtain ⟨u3, hu3⟩ : ∃ u3, u3 = u2.alloc (.cells #[.int .i64 16, .int .i64 p, .int .i64 0, .slice none 0 0, .slice none 0 0, .int .i64 0] 30) := ⟨_, rfl⟩
    have HU : Hid (u3 = _) := hu3
    obtain ⟨B, hB⟩ : ∃ B, B = u2.heap.size := ⟨_, rfl⟩
    have HBe : Hid (B = u2.heap.size) := hB
    have HB : Hid (w.heap.size < B) := by show w.heap.size < B; have := R3.lt; omega
    have C4 : Cur w0 a cap zs u3 g := by rw [hu3]; exact C3.alloc _
    have G4 : w.grownBy u3 (some g) := by rw [hu3]; exact grown_trans G3 (World.grownBy_alloc _ _ _)
    have R4 : Blk u3 w.heap.size 30 #[.int .i64 0, .int .i64 0, .int .i64 0, .slice none 0 0, .slice none 0 0, .int .i64 0] := by rw [hu3]; exact R3.below (bel_alloc _ _)
    have Q4 : Blk u3 B 30 #[.int .i64 16, .int .i64 p, .int .i64 0, .slice none 0 0, .slice none 0 0, .int .i64 0] := by rw [hu3, hB]; exact Blk.new _ _ _
    clear C3 G3 R3 hu3 hB
    go_upto_region 2 with fail
    rw [← HU.out]
    simp only [← HBe.out]
    go_wp2_with fail
    refine (l1Below_any w0 a cap zs _ g _ (by decide) C4).mono ?_
    rintro e t5 ⟨x, rfl, hx, C5, gg⟩
    have G5 := grown_trans G4 gg
    have R5 := R4.grown gg (by have := HGR.out; simp; omega)
    have Q5 := Q4.grown gg (by have := HGR.out; have := HB.out; simp; omega)
    clear C4 R4 Q4 gg
    clear G4
    have k0 := Q5.cell 0 rfl
    go_upto_region 14 with fail
    obtain ⟨m, hm⟩ : ∃ m : Nat, 1 + x = (m : Int) := ⟨(1 + x).toNat, by omega⟩
    have HM : Hid (1 + x = (m : Int) ∧ m ≤ 100) := ⟨hm, by omega⟩
    clear hm
    go_wp2_with fail
    refine (l3List_at w0 a cap zs _ g _ m HM.out.1 (by have := HM.out; omega) C5).mono ?_
    rintro e t6 ⟨a', c', ws, rfl, hws, hrg, oi, C6, gg⟩
    have G6 := grown_trans G5 gg
    have R6 := R5.grown gg (by have := HGR.out; simp; omega)
    have Q6 := Q5.grown gg (by have := HGR.out; have := HB.out; simp; omega)
    clear C5 R5 Q5 gg
    have I6 := OwnI.mono oi G5.size
    have HWs : Hid (_ = ws.length) := hws
    have HAW : Hid (allW ws = true) := allW_of hrg
    clear oi hws hrg G5
    have qc := Q6.cell 3 rfl
    have qf := Q6.fro 3
    have Q7 := Q6.set 3 (.slice a' m c')
    have R7 := R6.setNe (g' := B) (j := 3) (y := .slice a' m c') (by have := HB.out; omega)
    have C7 := C6.setHi (G := B) (j := 3) (y := .slice a' m c') (by have := HB.out; have := HGR.out; omega) (by have := HB.out; have := HGR.out; omega)
    have G7 := grown_setHi (G := B) (j := 3) (y := .slice a' m c') G6 (by have := HB.out; omega)
    have I7 := row_setE (j := 3) (y := .slice a' m c') I6 ⟨_, Q6⟩ (by decide)
    go_upto_region 19 with fail
    obtain ⟨v7, hv7⟩ : ∃ v7, v7 = t6.setCell ⟨B, 3, none⟩ (.slice a' m c') := ⟨_, rfl⟩
    rw [← hv7] at Q7 R7 C7 G7 I7 ⊢
    clear hv7 qc qf Q6 R6 C6 G6 I6
    obtain ⟨q0, q1, q2, q3, q4, q5⟩ := Q7.six
    obtain ⟨y0, y1, y2, y3, y4, y5⟩ := R7.six
    have fy := R7.fro
    have OI : OwnI v7 w.heap.size (.slice a' m c') ws := I7
    have OB : OwnB v7 w.heap.size (.slice none 0 0) [] := (ownB_nil _ _)
    have HH : Hid (OwnI v7 w.heap.size (.slice a' m c') ws ∧ OwnB v7 w.heap.size (.slice none 0 0) [] ∧ Cur w0 a cap zs v7 g ∧ w.grownBy v7 (some g) ∧ Blk v7 w.heap.size 30 #[.int .i64 0, .int .i64 0, .int .i64 0, .slice none 0 0, .slice none 0 0, .int .i64 0]) := ⟨OI, OB, C7, G7, R7⟩
    clear OI OB C7 G7 R7 Q7 I7
    go_wp2
    refine bodyPost_ret (v := rq 16 (p) (0) (0) a' none m 0 c' 0) (by simp [results, Tryz.results35, go_sem, y0, y1, y2, y3, y4, y5]) rfl ?_
    obtain ⟨OI, OB, CE, GE, RE⟩ := HH.out
    have hA0 : allW ([] : List Int) = true := by decide
    have hOK : okR 16 (p) (0) (0) ws m 0 = true := by first | (simp [okR, okK, zrB, inB, fitB, hA0]; omega) | (have h6 := HM.out; simp [okR, okK, zrB, inB, fitB, hA0]; omega) | (have h5 := HAW.out; have h6 := HM.out; simp [okR, okK, zrB, inB, fitB, h5]; omega) | (have h5 := HAW.out; simp [okR, okK, zrB, inB, fitB, h5]; omega)
    have hgR : g ≠ w.heap.size := by have := HGR.out; omega
    have hwR : w0.heap.size ≤ w.heap.size := by have := HGR.out; omega
    exact ⟨_, _, _, _, _, _, _, _, _, _, ws, [], rfl, HWs.out, rfl, by first | omega | (have := HM.out; omega), by first | omega | (have := HM.out; omega), hOK, row_set6 OI ⟨_, RE⟩ (by decide), row_set6 OB ⟨_, RE⟩ (by decide), (((((CE.setHi hgR hwR).setHi hgR hwR).setHi hgR hwR).setHi hgR hwR).setHi hgR hwR).setHi hgR hwR, grown_setHi (grown_setHi (grown_setHi (grown_setHi (grown_setHi (grown_setHi GE (Nat.le_refl _)) (Nat.le_refl _)) (Nat.le_refl _)) (Nat.le_refl _)) (Nat.le_refl _)) (Nat.le_refl _), ⟨by first | omega | (have := HM.out; omega), by first | omega | (have := HM.out; omega), by first | omega | (have := HM.out; omega), by first | omega | (have := HM.out; omega)⟩⟩
  · skip
    obtain ⟨u3, hu3⟩ : ∃ u3, u3 = u2.alloc (.cells #[.int .i64 22, .int .i64 p, .int .i64 0, .slice none 0 0, .slice none 0 0, .int .i64 0] 30) := ⟨_, rfl⟩
    have HU : Hid (u3 = _) := hu3
    obtain ⟨B, hB⟩ : ∃ B, B = u2.heap.size := ⟨_, rfl⟩
    have HBe : Hid (B = u2.heap.size) := hB
    have HB : Hid (w.heap.size < B) := by show w.heap.size < B; have := R3.lt; omega
    have C4 : Cur w0 a cap zs u3 g := by rw [hu3]; exact C3.alloc _
    have G4 : w.grownBy u3 (some g) := by rw [hu3]; exact grown_trans G3 (World.grownBy_alloc _ _ _)
    have R4 : Blk u3 w.heap.size 30 #[.int .i64 0, .int .i64 0, .int .i64 0, .slice none 0 0, .slice none 0 0, .int .i64 0] := by rw [hu3]; exact R3.below (bel_alloc _ _)
    have Q4 : Blk u3 B 30 #[.int .i64 22, .int .i64 p, .int .i64 0, .slice none 0 0, .slice none 0 0, .int .i64 0] := by rw [hu3, hB]; exact Blk.new _ _ _
    clear C3 G3 R3 hu3 hB
    go_upto_region 2 with fail
    rw [← HU.out]
    simp only [← HBe.out]
    go_wp2_with fail
    refine (l1Below_any w0 a cap zs _ g _ (by decide) C4).mono ?_
    rintro e t5 ⟨x, rfl, hx, C5, gg⟩
    have G5 := grown_trans G4 gg
    have R5 := R4.grown gg (by have := HGR.out; simp; omega)
    have Q5 := Q4.grown gg (by have := HGR.out; have := HB.out; simp; omega)
    clear C4 R4 Q4 gg
    clear G4
    have k0 := Q5.cell 0 rfl
    go_upto_region 10 with fail
    go_wp2_with fail
    refine (l3List_at w0 a cap zs _ g _ 2 rfl (by omega) C5).mono ?_
    rintro e t6 ⟨a', c', ws, rfl, hws, hrg, oi, C6, gg⟩
    have G6 := grown_trans G5 gg
    have R6 := R5.grown gg (by have := HGR.out; simp; omega)
    have Q6 := Q5.grown gg (by have := HGR.out; have := HB.out; simp; omega)
    clear C5 R5 Q5 gg
    have I6 := OwnI.mono oi G5.size
    have HWs : Hid (_ = ws.length) := hws
    have HAW : Hid (allW ws = true) := allW_of hrg
    clear oi hws hrg G5
    have qc := Q6.cell 3 rfl
    have qf := Q6.fro 3
    have Q7 := Q6.set 3 (.slice a' 2 c')
    have R7 := R6.setNe (g' := B) (j := 3) (y := .slice a' 2 c') (by have := HB.out; omega)
    have C7 := C6.setHi (G := B) (j := 3) (y := .slice a' 2 c') (by have := HB.out; have := HGR.out; omega) (by have := HB.out; have := HGR.out; omega)
    have G7 := grown_setHi (G := B) (j := 3) (y := .slice a' 2 c') G6 (by have := HB.out; omega)
    have I7 := row_setE (j := 3) (y := .slice a' 2 c') I6 ⟨_, Q6⟩ (by decide)
    go_upto_region 19 with fail
    obtain ⟨v7, hv7⟩ : ∃ v7, v7 = t6.setCell ⟨B, 3, none⟩ (.slice a' 2 c') := ⟨_, rfl⟩
    rw [← hv7] at Q7 R7 C7 G7 I7 ⊢
    clear hv7 qc qf Q6 R6 C6 G6 I6
    obtain ⟨q0, q1, q2, q3, q4, q5⟩ := Q7.six
    obtain ⟨y0, y1, y2, y3, y4, y5⟩ := R7.six
    have fy := R7.fro
    have OI : OwnI v7 w.heap.size (.slice a' 2 c') ws := I7
    have OB : OwnB v7 w.heap.size (.slice none 0 0) [] := (ownB_nil _ _)
    have HH : Hid (OwnI v7 w.heap.size (.slice a' 2 c') ws ∧ OwnB v7 w.heap.size (.slice none 0 0) [] ∧ Cur w0 a cap zs v7 g ∧ w.grownBy v7 (some g) ∧ Blk v7 w.heap.size 30 #[.int .i64 0, .int .i64 0, .int .i64 0, .slice none 0 0, .slice none 0 0, .int .i64 0]) := ⟨OI, OB, C7, G7, R7⟩
    clear OI OB C7 G7 R7 Q7 I7
    go_wp2
    refine bodyPost_ret (v := rq 22 (p) (0) (0) a' none 2 0 c' 0) (by simp [results, Tryz.results35, go_sem, y0, y1, y2, y3, y4, y5]) rfl ?_
    obtain ⟨OI, OB, CE, GE, RE⟩ := HH.out
    have hA0 : allW ([] : List Int) = true := by decide
    have hOK : okR 22 (p) (0) (0) ws 2 0 = true := by first | (simp [okR, okK, zrB, inB, fitB, hA0]; omega) | (have h6 := HM.out; simp [okR, okK, zrB, inB, fitB, hA0]; omega) | (have h5 := HAW.out; have h6 := HM.out; simp [okR, okK, zrB, inB, fitB, h5]; omega) | (have h5 := HAW.out; simp [okR, okK, zrB, inB, fitB, h5]; omega)
    have hgR : g ≠ w.heap.size := by have := HGR.out; omega
    have hwR : w0.heap.size ≤ w.heap.size := by have := HGR.out; omega
    exact ⟨_, _, _, _, _, _, _, _, _, _, ws, [], rfl, HWs.out, rfl, by first | omega | (have := HM.out; omega), by first | omega | (have := HM.out; omega), hOK, row_set6 OI ⟨_, RE⟩ (by decide), row_set6 OB ⟨_, RE⟩ (by decide), (((((CE.setHi hgR hwR).setHi hgR hwR).setHi hgR hwR).setHi hgR hwR).setHi hgR hwR).setHi hgR hwR, grown_setHi (grown_setHi (grown_setHi (grown_setHi (grown_setHi (grown_setHi GE (Nat.le_refl _)) (Nat.le_refl _)) (Nat.le_refl _)) (Nat.le_refl _)) (Nat.le_refl _)) (Nat.le_refl _), ⟨by first | omega | (have := HM.out; omega), by first | omega | (have := HM.out; omega), by first | omega | (have := HM.out; omega), by first | omega | (have := HM.out; omega)⟩⟩
  · skip
    obtain ⟨u3, hu3⟩ : ∃ u3, u3 = u2.alloc (.cells #[.int .i64 23, .int .i64 p, .int .i64 0, .slice none 0 0, .slice none 0 0, .int .i64 0] 30) := ⟨_, rfl⟩
    have HU : Hid (u3 = _) := hu3
    obtain ⟨B, hB⟩ : ∃ B, B = u2.heap.size := ⟨_, rfl⟩
    have HBe : Hid (B = u2.heap.size) := hB
    have HB : Hid (w.heap.size < B) := by show w.heap.size < B; have := R3.lt; omega
    have C4 : Cur w0 a cap zs u3 g := by rw [hu3]; exact C3.alloc _
    have G4 : w.grownBy u3 (some g) := by rw [hu3]; exact grown_trans G3 (World.grownBy_alloc _ _ _)
    have R4 : Blk u3 w.heap.size 30 #[.int .i64 0, .int .i64 0, .int .i64 0, .slice none 0 0, .slice none 0 0, .int .i64 0] := by rw [hu3]; exact R3.below (bel_alloc _ _)
    have Q4 : Blk u3 B 30 #[.int .i64 23, .int .i64 p, .int .i64 0, .slice none 0 0, .slice none 0 0, .int .i64 0] := by rw [hu3, hB]; exact Blk.new _ _ _
    clear C3 G3 R3 hu3 hB
    go_upto_region 2 with fail
    rw [← HU.out]
    simp only [← HBe.out]
    go_wp2_with fail
    refine (l1Below_any w0 a cap zs _ g _ (by decide) C4).mono ?_
    rintro e t5 ⟨x, rfl, hx, C5, gg⟩
    have G5 := grown_trans G4 gg
    have R5 := R4.grown gg (by have := HGR.out; simp; omega)
    have Q5 := Q4.grown gg (by have := HGR.out; have := HB.out; simp; omega)
    clear C4 R4 Q4 gg
    clear G4
    have k0 := Q5.cell 0 rfl
    go_upto_region 16 with fail
    have qc := Q5.cell 2 rfl
    have qf := Q5.fro 2
    have Q6 := Q5.set 2 (.int .i64 (1 + x))
    have R6 := R5.setNe (g' := B) (j := 2) (y := .int .i64 (1 + x)) (by have := HB.out; omega)
    have C6 := C5.setHi (G := B) (j := 2) (y := .int .i64 (1 + x)) (by have := HB.out; have := HGR.out; omega) (by have := HB.out; have := HGR.out; omega)
    have G6 := grown_setHi (G := B) (j := 2) (y := .int .i64 (1 + x)) G5 (by have := HB.out; omega)
    go_upto_region 17 with fail
    obtain ⟨v6, hv6⟩ : ∃ v6, v6 = t5.setCell ⟨B, 2, none⟩ (.int .i64 (1 + x)) := ⟨_, rfl⟩
    rw [← hv6] at Q6 R6 C6 G6 ⊢
    clear hv6 qc qf Q5 R5 C5 G5
    go_wp2_with fail
    refine (l1Below_any w0 a cap zs _ g _ (by decide) C6).mono ?_
    rintro e t7 ⟨y, rfl, hy, C7, gg⟩
    have G7 := grown_trans G6 gg
    have R7 := R6.grown gg (by have := HGR.out; simp; omega)
    have Q7 := Q6.grown gg (by have := HGR.out; have := HB.out; simp; omega)
    clear C6 R6 Q6 gg
    clear G6
    have qc := Q7.cell 5 rfl
    have qf := Q7.fro 5
    have Q8 := Q7.set 5 (.int .i64 y)
    have R8 := R7.setNe (g' := B) (j := 5) (y := .int .i64 y) (by have := HB.out; omega)
    have C8 := C7.setHi (G := B) (j := 5) (y := .int .i64 y) (by have := HB.out; have := HGR.out; omega) (by have := HB.out; have := HGR.out; omega)
    have G8 := grown_setHi (G := B) (j := 5) (y := .int .i64 y) G7 (by have := HB.out; omega)
    go_upto_region 18 with fail
    obtain ⟨v8, hv8⟩ : ∃ v8, v8 = t7.setCell ⟨B, 5, none⟩ (.int .i64 y) := ⟨_, rfl⟩
    rw [← hv8] at Q8 R8 C8 G8 ⊢
    clear hv8 qc qf Q7 R7 C7 G7
    go_wp2_with fail
    refine (l1Below_any w0 a cap zs _ g _ (by decide) C8).mono ?_
    rintro e t9 ⟨z, rfl, hz, C9, gg⟩
    have G9 := grown_trans G8 gg
    have R9 := R8.grown gg (by have := HGR.out; simp; omega)
    have Q9 := Q8.grown gg (by have := HGR.out; have := HB.out; simp; omega)
    clear C8 R8 Q8 gg
    clear G8
    obtain ⟨m, hm⟩ : ∃ m : Nat, 1 + z = (m : Int) := ⟨(1 + z).toNat, by omega⟩
    have HM : Hid (1 + z = (m : Int) ∧ m ≤ 100) := ⟨hm, by omega⟩
    clear hm
    go_wp2_with fail
    refine (l3List_at w0 a cap zs _ g _ m HM.out.1 (by have := HM.out; omega) C9).mono ?_
    rintro e t10 ⟨a', c', ws, rfl, hws, hrg, oi, C10, gg⟩
    have G10 := grown_trans G9 gg
    have R10 := R9.grown gg (by have := HGR.out; simp; omega)
    have Q10 := Q9.grown gg (by have := HGR.out; have := HB.out; simp; omega)
    clear C9 R9 Q9 gg
    have I10 := OwnI.mono oi G9.size
    have HWs : Hid (_ = ws.length) := hws
    have HAW : Hid (allW ws = true) := allW_of hrg
    clear oi hws hrg G9
    have qc := Q10.cell 3 rfl
    have qf := Q10.fro 3
    have Q11 := Q10.set 3 (.slice a' m c')
    have R11 := R10.setNe (g' := B) (j := 3) (y := .slice a' m c') (by have := HB.out; omega)
    have C11 := C10.setHi (G := B) (j := 3) (y := .slice a' m c') (by have := HB.out; have := HGR.out; omega) (by have := HB.out; have := HGR.out; omega)
    have G11 := grown_setHi (G := B) (j := 3) (y := .slice a' m c') G10 (by have := HB.out; omega)
    have I11 := row_setE (j := 3) (y := .slice a' m c') I10 ⟨_, Q10⟩ (by decide)
    go_upto_region 19 with fail
    obtain ⟨v11, hv11⟩ : ∃ v11, v11 = t10.setCell ⟨B, 3, none⟩ (.slice a' m c') := ⟨_, rfl⟩
    rw [← hv11] at Q11 R11 C11 G11 I11 ⊢
    clear hv11 qc qf Q10 R10 C10 G10 I10
    obtain ⟨q0, q1, q2, q3, q4, q5⟩ := Q11.six
    obtain ⟨y0, y1, y2, y3, y4, y5⟩ := R11.six
    have fy := R11.fro
    have OI : OwnI v11 w.heap.size (.slice a' m c') ws := I11
    have OB : OwnB v11 w.heap.size (.slice none 0 0) [] := (ownB_nil _ _)
    have HH : Hid (OwnI v11 w.heap.size (.slice a' m c') ws ∧ OwnB v11 w.heap.size (.slice none 0 0) [] ∧ Cur w0 a cap zs v11 g ∧ w.grownBy v11 (some g) ∧ Blk v11 w.heap.size 30 #[.int .i64 0, .int .i64 0, .int .i64 0, .slice none 0 0, .slice none 0 0, .int .i64 0]) := ⟨OI, OB, C11, G11, R11⟩
    clear OI OB C11 G11 R11 Q11 I11
    go_wp2
    refine bodyPost_ret (v := rq 23 (p) ((1 + x)) (y) a' none m 0 c' 0) (by simp [results, Tryz.results35, go_sem, y0, y1, y2, y3, y4, y5]) rfl ?_
    obtain ⟨OI, OB, CE, GE, RE⟩ := HH.out
    have hA0 : allW ([] : List Int) = true := by decide
    have hOK : okR 23 (p) ((1 + x)) (y) ws m 0 = true := by first | (simp [okR, okK, zrB, inB, fitB, hA0]; omega) | (have h6 := HM.out; simp [okR, okK, zrB, inB, fitB, hA0]; omega) | (have h5 := HAW.out; have h6 := HM.out; simp [okR, okK, zrB, inB, fitB, h5]; omega) | (have h5 := HAW.out; simp [okR, okK, zrB, inB, fitB, h5]; omega)
    have hgR : g ≠ w.heap.size := by have := HGR.out; omega
    have hwR : w0.heap.size ≤ w.heap.size := by have := HGR.out; omega
    exact ⟨_, _, _, _, _, _, _, _, _, _, ws, [], rfl, HWs.out, rfl, by first | omega | (have := HM.out; omega), by first | omega | (have := HM.out; omega), hOK, row_set6 OI ⟨_, RE⟩ (by decide), row_set6 OB ⟨_, RE⟩ (by decide), (((((CE.setHi hgR hwR).setHi hgR hwR).setHi hgR hwR).setHi hgR hwR).setHi hgR hwR).setHi hgR hwR, grown_setHi (grown_setHi (grown_setHi (grown_setHi (grown_setHi (grown_setHi GE (Nat.le_refl _)) (Nat.le_refl _)) (Nat.le_refl _)) (Nat.le_refl _)) (Nat.le_refl _)) (Nat.le_refl _), ⟨by first | omega | (have := HM.out; omega), by first | omega | (have := HM.out; omega), by first | omega | (have := HM.out; omega), by first | omega | (have := HM.out; omega)⟩⟩
theorem l3DrawR_any (w0 : World) (a : Option Addr) (cap : Nat) (zs : List Int) (w : World) (g : Nat) (hC : Cur w0 a cap zs w g) :
    Calls Tryz.prog 35 #[.pointer (some ⟨g, 0, none⟩), .int .i64 0] w fun e w' => DrawnReqR w0 a cap zs w g e w' :=
  (l3DrawN_any w0 a cap zs w g hC).mono (fun e w' h => by
    obtain ⟨kd, pl, nn, wa, a1, a2, l1, l2, c1, c2, ws, bs, h1, h2, h3, h4, h5, h6, h7, h8, h9, h10, _⟩ := h
    exact ⟨kd, pl, nn, wa, a1, a2, l1, l2, c1, c2, ws, bs, h1, h2, h3, h4, h5, h6, h7, h8, h9, h10⟩)
end Go.Proofs.YtohikbpolofklaaGreatDoor
