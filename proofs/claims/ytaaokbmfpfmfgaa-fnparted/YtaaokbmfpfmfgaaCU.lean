/- Texts that the proof needs, joined. -/
import Derived.Test.YtaaokbmfpfmfgaaBys0
import Derived.Test.YtaaokbmfpfmfgaaBits
namespace Go.Proofs.Ytaaokbmfpfmfgaa
open Go.RowKit

/-- A cursor in block g over the bytes zs, which lie in the world w0. -/
structure Cur (w0 : World) (a : Option Addr) (cap : Nat) (zs : List Int) (w : World) (g : Nat) : Prop where
  lo : w0.heap.size ≤ g
  hi : g < w.heap.size
  c0 : w.cell? ⟨g, 0, none⟩ = some (.slice a zs.length cap)
  c1 : ∃ i : Nat, i ≤ zs.length ∧ w.cell? ⟨g, 1, none⟩ = some (.int .i64 i)
  c2 : ∃ h : Int, w.cell? ⟨g, 2, none⟩ = some (.int .i64 h)
  fz : ∀ o, w.frozen? ⟨g, o, none⟩ = false
  sl : Sl w0 a zs
  rg : ∀ z ∈ zs, 0 ≤ z ∧ z ≤ 255
  len : zs.length ≤ 1048576
  bel : Below w0.heap.size w0 w

theorem grown_trans {w w1 w2 : World} {g : Nat} (h1 : w.grownBy w1 (some g)) (h2 : w1.grownBy w2 (some g)) : w.grownBy w2 (some g) :=
  ⟨h2.os.trans h1.os, h2.tape.trans h1.tape, h2.output.trans h1.output, Nat.le_trans h1.size h2.size, fun k hk hne => (h2.block k (Nat.lt_of_lt_of_le hk h1.size) hne).trans (h1.block k hk hne)⟩

theorem grown_set (w : World) (g o : Nat) (v : Value) : w.grownBy (w.setCell ⟨g, o, none⟩ v) (some g) :=
  ⟨rfl, rfl, rfl, by simp [World.setCell], fun k hk hne => Below.heap_setCell _ _ _ _ (fun e => hne (by simpa using e))⟩

theorem grown_drewN (w : World) (n : Nat) (row : Option Nat) : w.grownBy (w.drewN n) row := ⟨rfl, rfl, rfl, Nat.le_refl _, fun _ _ _ => rfl⟩

section
variable {w0 w w' : World} {a : Option Addr} {cap g : Nat} {zs : List Int}

theorem Cur.drewN (h : Cur w0 a cap zs w g) (n : Nat) : Cur w0 a cap zs (w.drewN n) g :=
  ⟨h.lo, h.hi, h.c0, h.c1, h.c2, h.fz, h.sl, h.rg, h.len, bel_drewN h.bel n⟩

theorem cell_other (w : World) (g o o' : Nat) (v : Value) (h : o' ≠ o) : (w.setCell ⟨g, o, none⟩ v).cell? ⟨g, o', none⟩ = w.cell? ⟨g, o', none⟩ :=
  World.cell?_setCell_other _ _ _ _ (fun e => h (congrArg Addr.off e).symm)

theorem Cur.set2 (h : Cur w0 a cap zs w g) (x : Int) : Cur w0 a cap zs (w.setCell ⟨g, 2, none⟩ (.int .i64 x)) g := by
  obtain ⟨i, hi, c1⟩ := h.c1
  obtain ⟨y, c2⟩ := h.c2
  refine ⟨h.lo, by simpa [World.setCell] using h.hi, by rw [cell_other _ _ _ _ _ (by decide)]; exact h.c0, ⟨i, hi, by rw [cell_other _ _ _ _ _ (by decide)]; exact c1⟩, ⟨x, World.cell?_setCell_same _ _ _ c2⟩, fun o => ?_, h.sl, h.rg, h.len, h.bel.setCell h.lo _⟩
  simpa using h.fz o

theorem Cur.set1 (h : Cur w0 a cap zs w g) (i : Nat) (hi : i ≤ zs.length) : Cur w0 a cap zs (w.setCell ⟨g, 1, none⟩ (.int .i64 i)) g := by
  obtain ⟨_, _, c1⟩ := h.c1
  obtain ⟨y, c2⟩ := h.c2
  refine ⟨h.lo, by simpa [World.setCell] using h.hi, by rw [cell_other _ _ _ _ _ (by decide)]; exact h.c0, ⟨i, hi, World.cell?_setCell_same _ _ _ c1⟩, ⟨y, by rw [cell_other _ _ _ _ _ (by decide)]; exact c2⟩, fun o => ?_, h.sl, h.rg, h.len, h.bel.setCell h.lo _⟩
  simpa using h.fz o

theorem Cur.grown {w2 : World} {row : Option Nat} (h : Cur w0 a cap zs w g) (hg : w.grownBy w2 row) (hne : some g ≠ row) (hr : ∀ k, row = some k → w0.heap.size ≤ k) : Cur w0 a cap zs w2 g := by
  have e : w2.heap[g]? = w.heap[g]? := hg.block g h.hi hne
  have ec : ∀ o, w2.cell? ⟨g, o, none⟩ = w.cell? ⟨g, o, none⟩ := fun o => World.cell?_of_block (a := ⟨g, o, none⟩) e
  have ef : ∀ o, w2.frozen? ⟨g, o, none⟩ = w.frozen? ⟨g, o, none⟩ := fun o => World.frozen?_of_block (a := ⟨g, o, none⟩) e
  obtain ⟨i, hi, c1⟩ := h.c1
  obtain ⟨y, c2⟩ := h.c2
  exact ⟨h.lo, Nat.lt_of_lt_of_le h.hi hg.size, by rw [ec]; exact h.c0, ⟨i, hi, by rw [ec]; exact c1⟩, ⟨y, by rw [ec]; exact c2⟩, fun o => by rw [ef]; exact h.fz o, h.sl, h.rg, h.len, h.bel.grown hg h.bel.size hr⟩

theorem Cur.alloc (h : Cur w0 a cap zs w g) (o : Obj) : Cur w0 a cap zs (w.alloc o) g :=
  h.grown (World.grownBy_alloc w o none) (by simp) (fun k hk => by cases hk)
end

end Go.Proofs.Ytaaokbmfpfmfgaa

namespace Go.Proofs.Ytaaokbmfpfmfgaa
open Go.RowKit

/-- What drawing ends with: a number that meets P; the cursor stays one; nothing but its block has turned. -/
def Drawn (w0 : World) (a : Option Addr) (cap : Nat) (zs : List Int) (w : World) (g : Nat) (P : Int → Prop) (e : Ending) (w' : World) : Prop :=
  ∃ x : Int, e = .returned (.int .i64 x) ∧ P x ∧ Cur w0 a cap zs w' g ∧ w.grownBy w' (some g)

theorem mod_bd (n : Int) : 0 ≤ n % 256 ∧ n % 256 ≤ 255 := by omega

set_option maxHeartbeats 2000000 in
theorem l1Byte_any (w0 : World) (a : Option Addr) (cap : Nat) (zs : List Int) (w : World) (g : Nat) (hC : Cur w0 a cap zs w g) :
    Calls Try.prog 102 #[.pointer (some ⟨g, 0, none⟩)] w fun e w' => Drawn w0 a cap zs w g (fun x => 0 ≤ x ∧ x ≤ 255) e w' := by
  obtain ⟨i, hi, c1⟩ := hC.c1
  obtain ⟨h, c2⟩ := hC.c2
  have c0 := hC.c0
  have fz1 := hC.fz 1
  have fz2 := hC.fz 2
  have hlen := hC.len
  have e255 : ∀ n : Int, bits BinOp.and IntKind.i64 n 255 = n % 256 := and8
  by_cases hlt : i < zs.length
  · obtain ⟨b, off, hab, hb0, hz0⟩ := cell_at hC.sl hlt
    have hz : w.cell? ⟨b, off + i, none⟩ = some (.int .u8 (zs.getD i 0)) := by rw [hC.bel.cell (p := ⟨b, off + i, none⟩) hb0]; exact hz0
    have rg := get_range hC.rg i
    have hbg : b ≠ g := by have := hC.lo; omega
    have hz' : ∀ v, (w.setCell ⟨g, 2, none⟩ v).cell? ⟨b, off + i, none⟩ = some (.int .u8 (zs.getD i 0)) := fun v => by
      rw [World.cell?_setCell_other _ _ _ _ (fun e => hbg (congrArg Addr.block e).symm)]; exact hz
    generalize zs.getD i 0 = z at *
    rw [hab] at c0
    have HC : Hid (Cur w0 a cap zs w g) := hC
    have hi' : (i : Int) < (zs.length : Int) := by omega
    clear hC hz0 hz
    go_enter Try.func102, Try.ntmps102
    go_wp2
    go_quiet (fail)
    go_wp2
    go_quiet (fail)
    go_wp2
    go_quiet (fail)
    go_wp2
    go_ret
    exact ⟨_, rfl, mod_bd _, ((HC.out.set2 _).drewN _).set1 (i + 1) (by omega), grown_trans (grown_trans (grown_set w g 2 _) (grown_drewN _ _ _)) (grown_set _ g 1 _)⟩
  · have HC : Hid (Cur w0 a cap zs w g) := hC
    have hi' : ¬ (i : Int) < (zs.length : Int) := by omega
    clear hC
    go_enter Try.func102, Try.ntmps102
    go_wp2
    go_quiet (fail)
    go_wp2
    go_quiet (fail)
    go_wp2
    go_ret
    exact ⟨_, rfl, mod_bd _, ((HC.out.set2 _).drewN _).drewN _, grown_trans (grown_trans (grown_set w g 2 _) (grown_drewN _ _ _)) (grown_drewN _ _ _)⟩

set_option maxHeartbeats 1000000 in
theorem l1Below_any (w0 : World) (a : Option Addr) (cap : Nat) (zs : List Int) (w : World) (g : Nat) (n : Int) (hn : 1 ≤ n) (hC : Cur w0 a cap zs w g) :
    Calls Try.prog 51 #[.pointer (some ⟨g, 0, none⟩), .int .i64 n] w fun e w' => Drawn w0 a cap zs w g (fun x => 0 ≤ x ∧ x < n) e w' := by
  have h0 : ¬ n ≤ 0 := by omega
  by_cases h1 : n ≤ 256
  · go_enter Try.func51, Try.ntmps51
    go_wp2_with fail
    refine (l1Byte_any w0 a cap zs _ g hC).mono ?_
    rintro e w1 ⟨x, rfl, hx, C1, g1⟩
    go_wp2
    go_ret
    exact ⟨_, rfl, ⟨Int.emod_nonneg _ (by omega), Int.emod_lt_of_pos _ (by omega)⟩, C1, g1⟩
  · go_enter Try.func51, Try.ntmps51
    go_wp2_with fail
    refine (l1Byte_any w0 a cap zs _ g hC).mono ?_
    rintro e w1 ⟨x, rfl, hx, C1, g1⟩
    go_wp2_with fail
    refine (l1Byte_any w0 a cap zs _ g C1).mono ?_
    rintro e w2 ⟨y, rfl, hy, C2, g2⟩
    go_wp2_with fail
    refine (l1Byte_any w0 a cap zs _ g C2).mono ?_
    rintro e w3 ⟨z, rfl, hz, C3, g3⟩
    go_wp2
    go_ret
    exact ⟨_, rfl, ⟨Int.emod_nonneg _ (by omega), Int.emod_lt_of_pos _ (by omega)⟩, C3, grown_trans (grown_trans g1 g2) g3⟩

/-- The slice of ints at ad holds the numbers of l. -/
def Ints (w : World) (ad : Addr) (l : List Int) : Prop := ∃ b off, ad = ⟨b, off, none⟩ ∧ b < w.heap.size ∧ ∀ i, i < l.length → w.cell? ⟨b, off + i, none⟩ = some (.int .i64 (l.getD i 0))

theorem Ints.grown {w w' : World} {ad : Addr} {l : List Int} {row : Option Nat} (h : Ints w ad l) (hg : w.grownBy w' row) (hne : some ad.block ≠ row) : Ints w' ad l := by
  obtain ⟨b, off, rfl, hb, hc⟩ := h
  exact ⟨b, off, rfl, Nat.lt_of_lt_of_le hb hg.size, fun i hi => hg.cell (hc i hi) hne⟩

set_option maxHeartbeats 1000000 in
theorem l1Int_any (w0 : World) (a : Option Addr) (cap : Nat) (zs : List Int) (w : World) (g : Nat) (ad : Addr) (n c : Nat) (l : List Int) (hn : n = l.length) (h1 : 1 ≤ n) (h2 : n ≤ 1000) (hl : Ints w ad l) (hne : ad.block ≠ g) (hC : Cur w0 a cap zs w g) :
    Calls Try.prog 81 #[.pointer (some ⟨g, 0, none⟩), .slice (some ad) n c] w fun e w' => Drawn w0 a cap zs w g (fun x => x ∈ l) e w' := by
  subst hn
  go_enter Try.func81, Try.ntmps81
  go_wp2_with fail
  refine (l1Below_any w0 a cap zs _ g _ (by omega) hC).mono ?_
  rintro e w1 ⟨x, rfl, hx, C1, g1⟩
  obtain ⟨k, rfl⟩ := Int.eq_ofNat_of_zero_le hx.1
  obtain ⟨b, off, rfl, hb, hc⟩ := hl.grown g1 (by simpa using hne)
  have hk : k < l.length := by omega
  have hck := hc k hk
  have hm : l.getD k 0 ∈ l := by rw [List.getD_eq_getElem?_getD, List.getElem?_eq_getElem hk]; exact List.getElem_mem hk
  generalize l.getD k 0 = v at *
  clear hc hl
  go_wp2
  go_ret
  exact ⟨v, rfl, hm, C1, g1⟩

end Go.Proofs.Ytaaokbmfpfmfgaa

namespace Go.Proofs.Ytaaokbmfpfmfgaa
open Go.RowKit

theorem and30 (n : Int) : bits .and .i64 n 1073741823 = n % 1073741824 := i64_and_mask n 30 1073741823 (by decide) (by decide)

theorem cur_new {w : World} {a : Option Addr} {cap : Nat} {zs : List Int} (hs : Sl w a zs) (hr : ∀ z ∈ zs, 0 ≤ z ∧ z ≤ 255) (hl : zs.length ≤ 1048576) (h : Int) (t : TypeId) :
    Cur w a cap zs (w.alloc (.cells #[.slice a zs.length cap, .int .i64 0, .int .i64 h] t)) w.heap.size where
  lo := Nat.le_refl _
  hi := by simp
  c0 := by simp
  c1 := ⟨0, Nat.zero_le _, by simp⟩
  c2 := ⟨h, by simp⟩
  fz := fun o => by simp
  sl := hs
  rg := hr
  len := hl
  bel := (Below.refl _ _).alloc (Nat.le_refl _) _

set_option maxHeartbeats 1000000 in
theorem l1New_any (w : World) (a : Option Addr) (n cap : Nat) (zs : List Int) (hn : n = zs.length) (hs : Sl w a zs) (hr : ∀ z ∈ zs, 0 ≤ z ∧ z ≤ 255) (hl : zs.length ≤ 1048576) :
    Calls Try.prog 33 #[.slice a n cap] w fun e w' => e = .returned (.pointer (some ⟨w.heap.size, 0, none⟩)) ∧ Cur w a cap zs w' w.heap.size ∧ w.grownBy w' none := by
  subst hn
  have e30 : ∀ n : Int, bits BinOp.and IntKind.i64 n 1073741823 = n % 1073741824 := and30
  go_enter Try.func33, Try.ntmps33
  go_wp2
  go_loop [3, 4] (fun x i => ∃ (k : Nat) (h : Int), k ≤ zs.length ∧ i = .int .i64 k ∧ x = .int .i64 h ∧ 0 ≤ h ∧ h ≤ 1073741824) (fun _ i => zs.length - (intOf i).toNat)
  case atStart => exact ⟨0, _, Nat.zero_le _, rfl, rfl, by omega, by omega⟩
  case round =>
    obtain ⟨k, h, hk, rfl, rfl, h0, h1⟩ := hrel
    by_cases hlt : k < zs.length
    · by_cases h4 : k < 4000
      · obtain ⟨b, off, rfl, _, hc⟩ := cell_at hs hlt
        have rg := get_range hr k
        generalize zs.getD k 0 = z at *
        have hi' : (k : Int) < (zs.length : Int) := by omega
        have hi4 : (k : Int) < 4000 := by omega
        clear hs hr
        go_wp2
        go_round
        case rel => exact ⟨k + 1, _, by omega, by go_num, rfl, by omega, by omega⟩
        case measure => simp [intOf]; omega
      · have hi' : (k : Int) < (zs.length : Int) := by omega
        have hi4 : decide ((k : Int) < 4000) = false := by simp; omega
        have R := cur_new (cap := cap) hs hr hl h 103
        clear hs hr
        go_wp2
        go_ret
        exact ⟨rfl, R, World.grownBy_alloc _ _ _⟩
    · have hi' : decide ((k : Int) < (zs.length : Int)) = false := by simp; omega
      have R := cur_new (cap := cap) hs hr hl h 103
      clear hs hr
      go_wp2
      go_ret
      exact ⟨rfl, R, World.grownBy_alloc _ _ _⟩

end Go.Proofs.Ytaaokbmfpfmfgaa
