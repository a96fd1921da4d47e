/- Marking from any number on. -/
import Derived.Test.YtimgohnnapaafaaMarks
namespace Go.Proofs.Ytimgohnnapaafaa
open Go.RowKit

/-- The marks s, s + 1, .. as bytes. -/
def marksF (s n : Nat) : List Int := (List.range n).map (fun i : Nat => ((s : Int) + (i : Int)) % 256)

theorem marksF_length (s n : Nat) : (marksF s n).length = n := by simp [marksF]

theorem marksF_get (s n i : Nat) (h : i < n) : (marksF s n).getD i 0 = ((s : Int) + (i : Int)) % 256 := by simp [marksF, h]

/-- Behind k marks. -/
def MarkedF (s : Nat) (w wr : World) (g cap k : Nat) : Prop :=
  w.grownBy wr (some g) ∧ ∃ cur, wr.heap[g]? = some (.cells cur 5 (0, 0)) ∧ cur.size = cap ∧ ∀ i, i < k → cur[i]? = some (.int .u8 (((s : Int) + (i : Int)) % 256))

theorem markedF_step {w wr : World} {s g cap k : Nat} (h : MarkedF s w wr g cap k) (hk : k < cap) : MarkedF s w (wr.setCell ⟨g, k, none⟩ (.int .u8 (((s : Int) + (k : Int)) % 256))) g cap (k + 1) := by
  obtain ⟨hg, cur, hh, hs, hc⟩ := h
  refine ⟨⟨hg.os, hg.tape, hg.output, by simpa [World.setCell] using hg.size, fun j hj hne => ?_⟩, cur.setIfInBounds k (.int .u8 (((s : Int) + (k : Int)) % 256)), by simp [World.setCell, Array.getElem?_modify, hh], by simpa using hs, fun i hi => ?_⟩
  · rw [Below.heap_setCell _ _ _ _ (fun e => hne (by simpa using e))]; exact hg.block j hj hne
  · rw [Array.getElem?_setIfInBounds]
    by_cases e : i = k
    · subst e; rw [if_pos rfl, if_pos (by omega)]
    · rw [if_neg (fun h => e h.symm)]; exact hc i (by omega)

theorem markedF_cell {w wr : World} {s g cap k : Nat} (h : MarkedF s w wr g cap k) (hk : k < cap) : (∃ v, wr.cell? ⟨g, k, none⟩ = some v) ∧ wr.frozen? ⟨g, k, none⟩ = false := by
  obtain ⟨_, cur, hh, hs, _⟩ := h
  refine ⟨⟨cur[k]'(by omega), ?_⟩, by simp [World.frozen?, hh]⟩
  simp [World.cell?, hh, hs, hk]

theorem markedF_done {w wr : World} {s base g n cap : Nat} (h : MarkedF s w wr g cap n) (hb : base ≤ g) (hn : n ≤ cap) (hm : cap ≤ maxLen) : Own wr base (.slice (some ⟨g, 0, none⟩) n cap) (marksF s n) := by
  obtain ⟨_, cur, hh, hs, hc⟩ := h
  refine ⟨by simp, .inr ⟨g, cap, cur, by rw [marksF_length], hb, hh, by rw [marksF_length]; exact hn, hm, by simpa using hs, ?_⟩⟩
  rw [marksF_length, Nat.mul_one]
  apply List.ext_getElem?
  intro i
  by_cases hi : i < n
  · rw [List.getElem?_take, if_pos hi, Array.getElem?_toList, hc i hi]
    simp [marksF, hi]
  · rw [List.getElem?_eq_none (by simp; omega), List.getElem?_eq_none (by simp [marksF]; omega)]

set_option maxHeartbeats 1000000 in
theorem markByteS_from (a : Option Addr) (n cap base s : Nat) (zs : List Int) (w : World) (h : Own w base (.slice a n cap) zs) (hl : n ≤ 3000000) (hs' : s ≤ 9000000) :
    Calls Try.prog 22 #[.slice a n cap, .int .i64 (s : Int)] w fun e w' => e = .returned (.int .i64 ((s : Int) + (n : Int))) ∧ Own w' base (.slice a n cap) (marksF s n) ∧ w.grownBy w' (Value.slice a n cap).ownBlock := by
  by_cases h0 : n = 0
  · subst h0
    have e : zs = [] := List.eq_nil_of_length_eq_zero h.sl.1.symm
    subst e
    have h' : Own w base (.slice a 0 cap) (marksF s 0) := h
    go_enter Try.func22, Try.ntmps22
    go_wp2
    refine wp_loop_rounds 1 ?_
    rw [rounds_succ]
    go_wp2
    go_ret
    exact ⟨by simp, h', World.grownBy.refl _ _⟩
  · obtain ⟨g, cur, rfl, hb, hgl, hh, hle, hm, hs⟩ := h.cells (by omega)
    have M0 : MarkedF s w w g cap 0 := ⟨World.grownBy.refl _ _, cur, hh, hs, fun i hi => absurd hi (Nat.not_lt_zero _)⟩
    clear hh h
    go_enter Try.func22, Try.ntmps22
    go_wp2
    go_loopw [1, 5] (fun kk i wr => ∃ k : Nat, k ≤ n ∧ i = .int .i64 k ∧ kk = .int .i64 ((s : Int) + (k : Int)) ∧ MarkedF s w wr g cap k) (fun _ i _ => n - (intOf i).toNat)
    case atStart => exact ⟨0, Nat.zero_le _, rfl, by simp, M0⟩
    case round =>
      obtain ⟨k, hk, rfl, rfl, hM⟩ := hrel
      by_cases hlt : k < n
      · obtain ⟨⟨v, hc⟩, hf⟩ := markedF_cell hM (by omega)
        have hM1 := markedF_step hM (by omega)
        have hi : (k : Int) < (n : Int) := by omega
        clear hM M0
        go_wp2
        go_roundw
        case rel => exact ⟨k + 1, by omega, by go_num, by go_num, hM1⟩
        case measure => simp [intOf]; omega
      · obtain rfl : k = n := by omega
        have hD := markedF_done hM hb hle hm
        have hG : Hid (w.grownBy wr (some g)) := hM.1
        clear hM M0
        go_wp2
        go_ret
        exact ⟨rfl, hD, hG.out⟩

set_option maxHeartbeats 1000000 in
theorem heldByteS_from (a : Option Addr) (n cap s : Nat) (w : World) (hs : Sl w a (marksF s n)) (hl : n ≤ 3000000) (hs' : s ≤ 9000000) :
    Calls Try.prog 23 #[.slice a n cap, .int .i64 (s : Int)] w fun e w' => e = .returned (.int .i64 ((s : Int) + (n : Int))) ∧ w' = w := by
  have ml := marksF_length s n
  go_enter Try.func23, Try.ntmps23
  go_wp2
  go_loop [1, 5] (fun kk i => ∃ k : Nat, k ≤ n ∧ i = .int .i64 k ∧ kk = .int .i64 ((s : Int) + (k : Int))) (fun _ i => n - (intOf i).toNat)
  case atStart => exact ⟨0, Nat.zero_le _, rfl, by simp⟩
  case round =>
    obtain ⟨k, hk, rfl, rfl⟩ := hrel
    by_cases hlt : k < n
    · obtain ⟨b, off, rfl, _, hc⟩ := cell_at hs (k := k) (by omega)
      rw [marksF_get s n k hlt] at hc
      have hi : (k : Int) < (n : Int) := by omega
      clear hs ml
      go_wp2
      go_round
      case rel => exact ⟨k + 1, by omega, by go_num, by go_num⟩
      case measure => simp [intOf]; omega
    · obtain rfl : k = n := by omega
      clear hs ml
      go_wp2
      go_ret
      exact ⟨rfl, rfl⟩

end Go.Proofs.Ytimgohnnapaafaa
