/- Drawing a byte, a number below another, one of a list. -/
import Derived.Test.YtgnmnbimmfknpaaCur1
namespace Go.Proofs.Ytgnmnbimmfknpaa
open Go.RowKit

/-- What drawing ends with: a number that meets P; the cursor stays one; nothing but its block has turned. -/
def Drawn (w0 : World) (a : Option Addr) (cap : Nat) (zs : List Int) (w : World) (g : Nat) (P : Int → Prop) (e : Ending) (w' : World) : Prop :=
  ∃ x : Int, e = .returned (.int .i64 x) ∧ P x ∧ Cur w0 a cap zs w' g ∧ w.grownBy w' (some g)

theorem mod_bd (n : Int) : 0 ≤ n % 256 ∧ n % 256 ≤ 255 := by omega

set_option maxHeartbeats 2000000 in
theorem l1Byte_any (w0 : World) (a : Option Addr) (cap : Nat) (zs : List Int) (w : World) (g : Nat) (hC : Cur w0 a cap zs w g) :
    Calls Try.prog 92 #[.pointer (some ⟨g, 0, none⟩)] w fun e w' => Drawn w0 a cap zs w g (fun x => 0 ≤ x ∧ x ≤ 255) e w' := by
  obtain ⟨i, hi, c1⟩ := hC.c1
  obtain ⟨h, c2⟩ := hC.c2
  have c0 := hC.c0
  have fz1 := hC.fz 1
  have fz2 := hC.fz 2
  have hlen := hC.len
  have e255 : ∀ n : Int, bits BinOp.and IntKind.i64 n 255 = n % 256 := and8
  by_cases hlt : i < zs.length
  · obtain ⟨b, off, hab, hb0, hz0⟩ := cell_at hC.sl hlt
    have hz : w.cell? ⟨b, off + i, none⟩ = some (.int .u8 (zs.getD i 0)) := by rw [hC.bel.cell (p := ⟨b, off + i, none⟩) hb0]; exact hz0
    have rg := get_range hC.rg i
    have hbg : b ≠ g := by have := hC.lo; omega
    have hz' : ∀ v, (w.setCell ⟨g, 2, none⟩ v).cell? ⟨b, off + i, none⟩ = some (.int .u8 (zs.getD i 0)) := fun v => by
      rw [World.cell?_setCell_other _ _ _ _ (fun e => hbg (congrArg Addr.block e).symm)]; exact hz
    generalize zs.getD i 0 = z at *
    rw [hab] at c0
    have HC : Hid (Cur w0 a cap zs w g) := hC
    have hi' : (i : Int) < (zs.length : Int) := by omega
    clear hC hz0 hz
    go_enter Try.func92, Try.ntmps92
    go_wp2
    go_quiet (fail)
    go_wp2
    go_quiet (fail)
    go_wp2
    go_quiet (fail)
    go_wp2
    go_ret
    exact ⟨_, rfl, mod_bd _, ((HC.out.set2 _).drewN _).set1 (i + 1) (by omega), grown_trans (grown_trans (grown_set w g 2 _) (grown_drewN _ _ _)) (grown_set _ g 1 _)⟩
  · have HC : Hid (Cur w0 a cap zs w g) := hC
    have hi' : ¬ (i : Int) < (zs.length : Int) := by omega
    clear hC
    go_enter Try.func92, Try.ntmps92
    go_wp2
    go_quiet (fail)
    go_wp2
    go_quiet (fail)
    go_wp2
    go_ret
    exact ⟨_, rfl, mod_bd _, ((HC.out.set2 _).drewN _).drewN _, grown_trans (grown_trans (grown_set w g 2 _) (grown_drewN _ _ _)) (grown_drewN _ _ _)⟩

set_option maxHeartbeats 1000000 in
theorem l1Below_any (w0 : World) (a : Option Addr) (cap : Nat) (zs : List Int) (w : World) (g : Nat) (n : Int) (hn : 1 ≤ n) (hC : Cur w0 a cap zs w g) :
    Calls Try.prog 46 #[.pointer (some ⟨g, 0, none⟩), .int .i64 n] w fun e w' => Drawn w0 a cap zs w g (fun x => 0 ≤ x ∧ x < n) e w' := by
  have h0 : ¬ n ≤ 0 := by omega
  by_cases h1 : n ≤ 256
  · go_enter Try.func46, Try.ntmps46
    go_wp2_with fail
    refine (l1Byte_any w0 a cap zs _ g hC).mono ?_
    rintro e w1 ⟨x, rfl, hx, C1, g1⟩
    go_wp2
    go_ret
    exact ⟨_, rfl, ⟨Int.emod_nonneg _ (by omega), Int.emod_lt_of_pos _ (by omega)⟩, C1, g1⟩
  · go_enter Try.func46, Try.ntmps46
    go_wp2_with fail
    refine (l1Byte_any w0 a cap zs _ g hC).mono ?_
    rintro e w1 ⟨x, rfl, hx, C1, g1⟩
    go_wp2_with fail
    refine (l1Byte_any w0 a cap zs _ g C1).mono ?_
    rintro e w2 ⟨y, rfl, hy, C2, g2⟩
    go_wp2_with fail
    refine (l1Byte_any w0 a cap zs _ g C2).mono ?_
    rintro e w3 ⟨z, rfl, hz, C3, g3⟩
    go_wp2
    go_ret
    exact ⟨_, rfl, ⟨Int.emod_nonneg _ (by omega), Int.emod_lt_of_pos _ (by omega)⟩, C3, grown_trans (grown_trans g1 g2) g3⟩

/-- The slice of ints at ad holds the numbers of l. -/
def Ints (w : World) (ad : Addr) (l : List Int) : Prop := ∃ b off, ad = ⟨b, off, none⟩ ∧ b < w.heap.size ∧ ∀ i, i < l.length → w.cell? ⟨b, off + i, none⟩ = some (.int .i64 (l.getD i 0))

theorem Ints.grown {w w' : World} {ad : Addr} {l : List Int} {row : Option Nat} (h : Ints w ad l) (hg : w.grownBy w' row) (hne : some ad.block ≠ row) : Ints w' ad l := by
  obtain ⟨b, off, rfl, hb, hc⟩ := h
  exact ⟨b, off, rfl, Nat.lt_of_lt_of_le hb hg.size, fun i hi => hg.cell (hc i hi) hne⟩

set_option maxHeartbeats 1000000 in
theorem l1Int_any (w0 : World) (a : Option Addr) (cap : Nat) (zs : List Int) (w : World) (g : Nat) (ad : Addr) (n c : Nat) (l : List Int) (hn : n = l.length) (h1 : 1 ≤ n) (h2 : n ≤ 1000) (hl : Ints w ad l) (hne : ad.block ≠ g) (hC : Cur w0 a cap zs w g) :
    Calls Try.prog 105 #[.pointer (some ⟨g, 0, none⟩), .slice (some ad) n c] w fun e w' => Drawn w0 a cap zs w g (fun x => x ∈ l) e w' := by
  subst hn
  go_enter Try.func105, Try.ntmps105
  go_wp2_with fail
  refine (l1Below_any w0 a cap zs _ g _ (by omega) hC).mono ?_
  rintro e w1 ⟨x, rfl, hx, C1, g1⟩
  obtain ⟨k, rfl⟩ := Int.eq_ofNat_of_zero_le hx.1
  obtain ⟨b, off, rfl, hb, hc⟩ := hl.grown g1 (by simpa using hne)
  have hk : k < l.length := by omega
  have hck := hc k hk
  have hm : l.getD k 0 ∈ l := by rw [List.getD_eq_getElem?_getD, List.getElem?_eq_getElem hk]; exact List.getElem_mem hk
  generalize l.getD k 0 = v at *
  clear hc hl
  go_wp2
  go_ret
  exact ⟨v, rfl, hm, C1, g1⟩

end Go.Proofs.Ytgnmnbimmfknpaa
