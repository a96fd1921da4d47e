/- Words that are written one by one, bits in whole bytes, of the model. -/
import Derived.Test.YtmbkfoemhnhoiaaDev23
namespace Go.Proofs.Ytmbkfoemhnhoiaa
open Go.RowKit

set_option linter.unusedVariables false

set_option linter.unusedSimpArgs false

theorem wr_snoc {α : Type} (hs : List α) (k : Nat) (ws : List α) (x : α) (h : k + ws.length < hs.length) : (wr hs k ws).set (k + ws.length) x = wr hs k (ws ++ [x]) := by
  unfold wr
  have e1 : (hs.take k).length = k := by simp; omega
  rw [List.set_append_right _ _ (by omega), e1, Nat.add_sub_cancel_left, List.set_append_right _ _ (by omega), Nat.sub_self]
  have e2 : hs.drop (k + ws.length) = hs[k + ws.length] :: hs.drop (k + ws.length + 1) := List.drop_eq_getElem_cons h
  rw [e2]
  simp [Nat.add_assoc]

theorem wr_nil {α : Type} (hs : List α) (k : Nat) : wr hs k [] = hs := by simp [wr]

theorem take_snocG {α : Type} {ws : List α} {k : Nat} (h : k < ws.length) (d : α) : ws.take (k + 1) = ws.take k ++ [ws.getD k d] := by
  rw [List.take_add_one]; simp [h]

set_option maxRecDepth 20000 in
set_option maxHeartbeats 2000000 in
theorem l5Write_any (a1 a2 a3 a4 : Option Addr) (l1 l2 l3 l4 c1 c2 c3 c4 : Nat) (cs is : List Bool) (hs rs : List Int) (k : Nat) (q1 : Option Addr) (m1 k1 : Nat) (ws : List Int) (W0 w : World) (hB : Below W0.heap.size W0 w) (hD : OwnD w W0.heap.size a1 a2 a3 a4 l1 l2 l3 l4 c1 c2 c3 c4 cs is hs rs) (hn : m1 = ws.length) (hq : SlI W0 q1 ws) (hk : k + ws.length ≤ l3) (h3 : l3 ≤ 2000000) :
    Calls Try.prog 78 #[.slice a3 l3 c3, .int .i64 (k : Int), .slice q1 m1 k1] w fun e w' => e = .returned (.tuple #[]) ∧ OwnD w' W0.heap.size a1 a2 a3 a4 l1 l2 l3 l4 c1 c2 c3 c4 cs is (wr hs k ws) rs ∧ Below W0.heap.size W0 w' ∧ Chg w w' (Of4 (.slice a1 l1 c1) (.slice a2 l2 c2) (.slice a3 l3 c3) (.slice a4 l4 c4)) := by
  subst hn
  have hln := hD.sl.1.2.2.1
  go_enter Try.func78, Try.ntmps78
  go_wp2
  go_loopw [6] (fun i wr' => ∃ j : Nat, j ≤ ws.length ∧ i = .int .i64 j ∧ OwnD wr' W0.heap.size a1 a2 a3 a4 l1 l2 l3 l4 c1 c2 c3 c4 cs is (wr hs k (ws.take j)) rs ∧ Below W0.heap.size W0 wr' ∧ Chg w wr' (Of4 (.slice a1 l1 c1) (.slice a2 l2 c2) (.slice a3 l3 c3) (.slice a4 l4 c4))) (fun i _ => ws.length - (intOf i).toNat)
  case atStart => exact ⟨0, Nat.zero_le _, rfl, by rw [List.take_zero, wr_nil]; exact hD, hB, Chg.ofBelow (Below.refl _ _)⟩
  case round =>
    obtain ⟨j, hj, rfl, hD', hB', hC'⟩ := hrel
    by_cases hlt : j < ws.length
    · obtain ⟨bq, off, rfl, hbq, hcq⟩ := cell_atI (hq.below hB') hlt
      obtain ⟨b, rfl, hb, hbl, hc, hf, hset⟩ := hD'.setWord (k := k + j) (by omega)
      obtain ⟨D1, C1⟩ := hset (ws.getD j 0)
      have eL : (Ytmbkfoemhnhoiaa.wr hs k (ws.take j)).set (k + j) (ws.getD j 0) = Ytmbkfoemhnhoiaa.wr hs k (ws.take (j + 1)) := by
        have h1 : (ws.take j).length = j := by simp; omega
        rw [take_snocG hlt 0]
        have := wr_snoc hs k (ws.take j) (ws.getD j 0) (by omega)
        rw [h1] at this
        exact this
      rw [eL] at D1
      have hH : Hid (OwnD (wr.setCell ⟨b, k + j, none⟩ (.int .i64 (ws.getD j 0))) W0.heap.size a1 a2 (some ⟨b, 0, none⟩) a4 l1 l2 l3 l4 c1 c2 c3 c4 cs is (Ytmbkfoemhnhoiaa.wr hs k (ws.take (j + 1))) rs ∧ Below W0.heap.size W0 (wr.setCell ⟨b, k + j, none⟩ (.int .i64 (ws.getD j 0))) ∧ Chg w (wr.setCell ⟨b, k + j, none⟩ (.int .i64 (ws.getD j 0))) (Of4 (.slice a1 l1 c1) (.slice a2 l2 c2) (.slice (some ⟨b, 0, none⟩) l3 c3) (.slice a4 l4 c4))) := ⟨D1, bel_setG hB' hb, hC'.trans C1⟩
      generalize ws.getD j 0 = x at *
      have i0 : (j : Int) < (ws.length : Int) := by omega
      have i1 : (k : Int) + (j : Int) < (l3 : Int) := by omega
      have i2 : IntKind.i64.wrap ((k : Int) + (j : Int)) = (k : Int) + (j : Int) := by rw [IntKind.wrap_i64]; omega
      have i3 : ((k : Int) + (j : Int)).toNat = k + j := by omega
      have i4 : (0 : Int) ≤ (k : Int) + (j : Int) := by omega
      clear hq hB' hD' hC' D1 C1 hset eL hD hB
      go_wp2
      go_roundw
      case rel => exact ⟨j + 1, by omega, by go_num, hH.out.1, hH.out.2.1, hH.out.2.2⟩
      case measure => simp [intOf]; omega
    · have e : ws.take j = ws := List.take_of_length_le (by omega)
      rw [e] at hD'
      have hi' : decide ((j : Int) < (ws.length : Int)) = false := by simp; omega
      clear hq hD hB
      go_wp2
      refine bodyPost_end (v := .tuple #[]) (by simp [results, Try.results78, go_sem]) rfl ?_
      exact ⟨rfl, hD', hB', hC'⟩

end Go.Proofs.Ytmbkfoemhnhoiaa
