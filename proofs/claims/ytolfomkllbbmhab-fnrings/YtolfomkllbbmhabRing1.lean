/- Rings: what the laws' own helpers do with one. -/
import Derived.Test.YtolfomkllbbmhabBys
import Derived.Test.YtolfomkllbbmhabMarks
import Derived.Test.YtolfomkllbbmhabBox
namespace Go.Proofs.Ytolfomkllbbmhab
open Go.RowKit

theorem keepc {w w' : World} {g : Nat} {v : Value} (hb : Below w.heap.size w w') (hc : w.cell? ⟨g, 0, none⟩ = some v) : w'.cell? ⟨g, 0, none⟩ = some v := by
  rw [hb.cell (p := ⟨g, 0, none⟩) (World.block_lt_of_cell? _ _ hc)]; exact hc

theorem keepf {w w' : World} {g : Nat} {v : Value} (hb : Below w.heap.size w w') (hc : w.cell? ⟨g, 0, none⟩ = some v) (hf : w.frozen? ⟨g, 0, none⟩ = false) : w'.frozen? ⟨g, 0, none⟩ = false := by
  rw [hb.frozen (p := ⟨g, 0, none⟩) (World.block_lt_of_cell? _ _ hc)]; exact hf

theorem bel_alloc (w : World) (o : Obj) : Below w.heap.size w (w.alloc o) := (Below.refl _ w).alloc (Nat.le_refl _) o

theorem bel_next {w0 w w' : World} (h : Below w0.heap.size w0 w) (h' : Below w.heap.size w w') : Below w0.heap.size w0 w' := h.trans (h'.mono h.size)

theorem new_cell (w : World) (v : Value) (t : TypeId) : (w.alloc (.cells #[v] t)).cell? ⟨w.heap.size, 0, none⟩ = some v := by simp [go_sem]

set_option maxHeartbeats 1000000 in
theorem implRingOk_any (a : Option Addr) (n cap : Nat) (w : World) :
    Calls Try.prog 13 #[.agg #[.slice a n cap]] w fun e w' => e = .returned (.bool (decide ((n : Int) ≤ 300))) ∧ Below w.heap.size w w' := by
  go_enter Try.func13, Try.ntmps13
  go_wp2
  go_ret
  exact ⟨rfl, (Below.refl _ _).alloc (Nat.le_refl _) _⟩

set_option maxHeartbeats 1000000 in
theorem specRingOk_any (a : Option Addr) (n cap : Nat) (w : World) :
    Calls Try.prog 12 #[.agg #[.slice a n cap]] w fun e w' => e = .returned (.bool (decide ((n : Int) ≤ 300))) ∧ Below w.heap.size w w' := by
  go_enter Try.func12, Try.ntmps12
  go_wp2
  go_ret
  exact ⟨rfl, (Below.refl _ _).alloc (Nat.le_refl _) _⟩

theorem implRingOk_yes (a : Option Addr) (n cap : Nat) (w : World) (h : n ≤ 300) :
    Calls Try.prog 13 #[.agg #[.slice a n cap]] w fun e w' => e = .returned (.bool true) ∧ Below w.heap.size w w' := by
  refine (implRingOk_any a n cap w).mono ?_
  rintro e w' ⟨rfl, b⟩
  exact ⟨by rw [decide_eq_true (by omega)], b⟩

theorem implRingOk_no (a : Option Addr) (n cap : Nat) (w : World) (h : ¬ n ≤ 300) :
    Calls Try.prog 13 #[.agg #[.slice a n cap]] w fun e w' => e = .returned (.bool false) ∧ Below w.heap.size w w' := by
  refine (implRingOk_any a n cap w).mono ?_
  rintro e w' ⟨rfl, b⟩
  exact ⟨by rw [decide_eq_false (by omega)], b⟩

theorem specRingOk_yes (a : Option Addr) (n cap : Nat) (w : World) (h : n ≤ 300) :
    Calls Try.prog 12 #[.agg #[.slice a n cap]] w fun e w' => e = .returned (.bool true) ∧ Below w.heap.size w w' := by
  refine (specRingOk_any a n cap w).mono ?_
  rintro e w' ⟨rfl, b⟩
  exact ⟨by rw [decide_eq_true (by omega)], b⟩

theorem specRingOk_no (a : Option Addr) (n cap : Nat) (w : World) (h : ¬ n ≤ 300) :
    Calls Try.prog 12 #[.agg #[.slice a n cap]] w fun e w' => e = .returned (.bool false) ∧ Below w.heap.size w w' := by
  refine (specRingOk_any a n cap w).mono ?_
  rintro e w' ⟨rfl, b⟩
  exact ⟨by rw [decide_eq_false (by omega)], b⟩

theorem grown_setc (w : World) (g o : Nat) (v : Value) : w.grownBy (w.setCell ⟨g, o, none⟩ v) (some g) :=
  ⟨rfl, rfl, rfl, by simp [World.setCell], fun k hk hne => Below.heap_setCell _ _ _ _ (fun e => hne (by simpa using e))⟩

theorem Own.setc {w : World} {base b n cap g o : Nat} {zs : List Int} {v : Value} (h : Own w base (.slice (some ⟨b, 0, none⟩) n cap) zs) (hne : b ≠ g) : Own (w.setCell ⟨g, o, none⟩ v) base (.slice (some ⟨b, 0, none⟩) n cap) zs :=
  h.kept (grown_setc w g o v) (.inr (by simp [Value.ownBlock]; exact hne))

end Go.Proofs.Ytolfomkllbbmhab
