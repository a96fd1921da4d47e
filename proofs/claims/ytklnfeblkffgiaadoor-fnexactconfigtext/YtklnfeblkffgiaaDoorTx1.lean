/- Texts: numbers in digits, of the model. -/
import Derived.Test.YtklnfeblkffgiaaDoorTx0
import Derived.Lib.ItoaMem
import Derived.Deep.RegionWith
namespace Go.Proofs.YtklnfeblkffgiaaDoor
open Go.RowKit

set_option linter.unusedVariables false

set_option linter.unusedSimpArgs false

theorem cell_nw {u w w1 : World} {v : Value} {t : TypeId} (hu : u.heap = (w.alloc (.cells #[v] t)).heap) (b : Below u.heap.size u w1) : w1.cell? ⟨w.heap.size, 0, none⟩ = some v := by
  have hlt : w.heap.size < u.heap.size := by rw [hu]; simp
  have h1 := b.cell (p := ⟨w.heap.size, 0, none⟩) hlt
  rw [h1]
  have h2 : (w.alloc (.cells #[v] t)).cell? ⟨w.heap.size, 0, none⟩ = some v := by simp [go_sem]
  rw [← h2]
  unfold World.cell?
  rw [hu]

set_option maxRecDepth 20000 in
set_option maxHeartbeats 1000000 in
theorem l11Text_step (u : Nat) (hu : ¬ u < 10) (hb : u ≤ 1000000) (ih : ∀ w : World, Calls Tryd.prog 30 #[.int .i64 ((u / 10 : Nat) : Int)] w fun e w' => e = .returned (.string (tx (Lib.decDigits (u / 10)))) ∧ Below w.heap.size w w') (w : World) :
    Calls Tryd.prog 30 #[.int .i64 (u : Int)] w fun e w' => e = .returned (.string (tx (Lib.decDigits u))) ∧ Below w.heap.size w w' := by
  obtain ⟨q, hq⟩ : ∃ q : Nat, q = u / 10 := ⟨_, rfl⟩
  obtain ⟨r, hr⟩ : ∃ r : Nat, r = u % 10 := ⟨_, rfl⟩
  rw [← hq] at ih
  have h1 : ¬ (u : Int) < 0 := by omega
  have h2 : ¬ (u : Int) < 10 := by omega
  have hd : Int.tdiv (u : Int) 10 = (q : Int) := by rw [hq]; exact (Int.ofNat_tdiv u 10).symm ▸ rfl
  have hm : Int.tmod (u : Int) 10 = (r : Int) := by rw [hr]; exact (Int.ofNat_tmod u 10).symm ▸ rfl
  have hr9 : r < 10 := by omega
  obtain ⟨d, hd'⟩ : ∃ d : UInt8, d = UInt8.ofNat (48 + r) := ⟨_, rfl⟩
  have hw0 : IntKind.i64.wrap (q : Int) = (q : Int) := by rw [IntKind.wrap_i64]; omega
  have hw1 : IntKind.i64.wrap (48 + (r : Int)) = 48 + (r : Int) := by rw [IntKind.wrap_i64]; omega
  have hw2 : IntKind.u8.wrap (48 + (r : Int)) = 48 + (r : Int) := by rw [IntKind.wrap_u8]; omega
  have hcv : ∀ (W : World) (b : Nat), W.cell? ⟨b, 0, none⟩ = some (.int .u8 (48 + (r : Int))) → (convert 22 9 (.slice (some ⟨b, 0, none⟩) 1 1)).run Tryd.prog W = .ok (.string (tx [d])) W := by
    intro W b hc
    rw [conv_one _ _ _ (48 + (r : Int)) (by omega) hc]
    have : (48 + (r : Int)).toNat = 48 + r := by omega
    rw [this, hd']
  have hL : (Lib.decDigits q).length + [d].length ≤ 1000000000 := by have := dec_len q; simp only [List.length_cons, List.length_nil]; omega
  have hsz : ¬ (9223372036854775807 < (tx (Lib.decDigits q)).size + (tx [d]).size) := by rw [tx_size, tx_size]; omega
  have HE : Hid (Lib.decDigits u = Lib.decDigits q ++ [d]) := by show _ = _; rw [Lib.decDigits, dif_neg hu, hd', hq, hr]
  rw [HE.out, ← tx_append]
  clear hq hr hL hd'
  go_enter Tryd.func30, Tryd.ntmps30
  go_upto_region 5 with fail
  go_region_with (go_at_call 30; refine (ih _).mono ?_; rintro e w1 ⟨rfl, b1⟩; first | (have c1 : w1.cell? ⟨w.heap.size, 0, none⟩ = some (.int .u8 (48 + (r : Int))) := cell_nw (t := 5) (by rfl) b1) | skip)
  all_goals (
    go_wp2
    go_ret
    refine ⟨rfl, ?_⟩
    first
      | exact bel_next (bel_next (Below.refl _ _).drew b1) (bel_alloc _ _)
      | exact bel_next (bel_next (Below.refl _ _).drew b1) (bel_alloc _ _).drew
      | exact bel_next (bel_next (Below.refl _ _).drew b1) (bel_alloc _ _).drew.drew
      | exact bel_next (bel_alloc _ _) b1
      | exact bel_next (bel_alloc _ _).drew b1
      | exact bel_next (bel_alloc _ _).drew.drew b1
      | exact (bel_next (bel_alloc _ _).drew b1).drew
      | exact (bel_next (bel_alloc _ _).drew.drew b1).drew)

theorem l11Text_nat (u : Nat) (hb : u ≤ 1000000) (w : World) :
    Calls Tryd.prog 30 #[.int .i64 (u : Int)] w fun e w' => e = .returned (.string (tx (Lib.decDigits u))) ∧ Below w.heap.size w w' := by
  induction u using Nat.strongRecOn generalizing w with
  | _ u ih =>
    by_cases h : u < 10
    · exact l11Text_small u h w
    · exact l11Text_step u h hb (fun w' => ih (u / 10) (by omega) (by omega) w') w

theorem itoa_len (n : Int) (h : -1000000 ≤ n ∧ n ≤ 1000000) : (Lib.itoa n).length ≤ 1000002 := by
  unfold Lib.itoa
  split
  · have := dec_len n.natAbs
    simp only [List.length_cons]
    omega
  · have := dec_len n.toNat
    omega

set_option maxHeartbeats 1000000 in
theorem l11Text_any (n : Int) (hb : -1000000 ≤ n ∧ n ≤ 1000000) (w : World) :
    Calls Tryd.prog 30 #[.int .i64 n] w fun e w' => e = .returned (.string (tx (Lib.itoa n))) ∧ Below w.heap.size w w' := by
  by_cases h : n < 0
  · obtain ⟨u, hu⟩ : ∃ u : Nat, n = -(u : Int) := ⟨n.natAbs, by omega⟩
    have hwn : IntKind.i64.wrap (-n) = (u : Int) := by rw [IntKind.wrap_i64]; omega
    have hb1 : u ≤ 1000000 := by omega
    have hsz : ¬ (9223372036854775807 < (ByteArray.mk #[45]).size + (tx (Lib.decDigits u)).size) := by
      have := dec_len u
      rw [tx_size]
      show ¬ (9223372036854775807 < 1 + (Lib.decDigits u).length)
      omega
    have HE : Hid (tx (Lib.itoa n) = ByteArray.mk #[45] ++ tx (Lib.decDigits u)) := by
      show _ = _
      have e : ByteArray.mk #[45] = tx [45] := rfl
      rw [e, tx_append, hu, Lib.itoa_neg u (by omega)]
      rfl
    rw [HE.out]
    clear hu
    go_enter Tryd.func30, Tryd.ntmps30
    go_wp2_with fail
    refine (l11Text_nat u hb1 _).mono ?_
    rintro e w1 ⟨rfl, b1⟩
    go_wp2
    go_ret
    exact ⟨rfl, b1⟩
  · obtain ⟨u, hu⟩ : ∃ u : Nat, n = (u : Int) := ⟨n.toNat, by omega⟩
    subst hu
    rw [Lib.itoa_nonneg]
    exact l11Text_nat u (by omega) w

end Go.Proofs.YtklnfeblkffgiaaDoor
