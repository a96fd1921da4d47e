/- Marking a ring, and looking at the marks. -/
import Derived.Test.YtckmffhdngfchaaRing1
import Derived.Test.YtckmffhdngfchaaMarks2
namespace Go.Proofs.Ytckmffhdngfchaa
open Go.RowKit

theorem grown_tr {w w1 w2 : World} {row : Option Nat} (h1 : w.grownBy w1 row) (h2 : w1.grownBy w2 row) : w.grownBy w2 row :=
  ⟨h2.os.trans h1.os, h2.tape.trans h1.tape, h2.output.trans h1.output, Nat.le_trans h1.size h2.size, fun k hk hne => (h2.block k (Nat.lt_of_lt_of_le hk h1.size) hne).trans (h1.block k hk hne)⟩

set_option maxHeartbeats 1000000 in
theorem markRing_from (a : Option Addr) (n cap base s : Nat) (zs : List Int) (w : World) (h : Own w base (.slice a n cap) zs) (hl : n ≤ 3000000) (hs' : s ≤ 9000000) :
    Calls Try.prog 20 #[.agg #[.slice a n cap], .int .i64 (s : Int)] w fun e w' => e = .returned (.int .i64 ((s : Int) + (n : Int))) ∧ Own w' base (.slice a n cap) (marksF s n) ∧ w.grownBy w' (Value.slice a n cap).ownBlock := by
  have HO : Hid (Own (w.alloc (.cells #[.slice a n cap] 25)) base (.slice a n cap) zs) := h.below (bel_alloc _ _)
  have HG : Hid (w.grownBy (w.alloc (.cells #[.slice a n cap] 25)) (Value.slice a n cap).ownBlock) := World.grownBy_alloc w _ _
  clear h
  go_enter Try.func20, Try.ntmps20
  go_wp2_with fail
  refine (markByteS_from a n cap base s zs _ HO.out hl hs').mono ?_
  rintro e w1 ⟨rfl, o1, g1⟩
  have R : Hid (Own w1 base (.slice a n cap) (marksF s n) ∧ w.grownBy w1 (Value.slice a n cap).ownBlock) := ⟨o1, grown_tr HG.out g1⟩
  clear o1 g1
  go_wp2
  go_ret
  exact ⟨rfl, R.out⟩

set_option maxHeartbeats 1000000 in
theorem heldRing_from (a : Option Addr) (n cap s : Nat) (w : World) (h : Sl w a (marksF s n)) (hl : n ≤ 3000000) (hs' : s ≤ 9000000) :
    Calls Try.prog 22 #[.agg #[.slice a n cap], .int .i64 (s : Int)] w fun e w' => e = .returned (.int .i64 ((s : Int) + (n : Int))) ∧ Below w.heap.size w w' := by
  have HS : Hid (Sl (w.alloc (.cells #[.slice a n cap] 25)) a (marksF s n)) := h.below (bel_alloc _ _)
  have HB := bel_alloc w (.cells #[.slice a n cap] 25)
  have f0 : ¬ ((s : Int) + (n : Int) < 0) := by omega
  clear h
  go_enter Try.func22, Try.ntmps22
  go_wp2_with fail
  refine (heldByteS_from a n cap s _ HS.out hl hs').mono ?_
  rintro e w1 ⟨rfl, e1⟩
  subst e1
  go_wp2
  go_ret
  exact ⟨rfl, HB⟩

theorem markByteS_sv (sv : Int) (a : Option Addr) (n cap base s : Nat) (zs : List Int) (w : World) (hsv : sv = (s : Int)) (h : Own w base (.slice a n cap) zs) (hl : n ≤ 3000000) (hs' : s ≤ 9000000) :
    Calls Try.prog 21 #[.slice a n cap, .int .i64 sv] w fun e w' => e = .returned (.int .i64 (sv + (n : Int))) ∧ Own w' base (.slice a n cap) (marksF s n) ∧ w.grownBy w' (Value.slice a n cap).ownBlock := by
  subst hsv; exact markByteS_from a n cap base s zs w h hl hs'

theorem heldByteS_sv (sv : Int) (a : Option Addr) (n cap s : Nat) (w : World) (hsv : sv = (s : Int)) (h : Sl w a (marksF s n)) (hl : n ≤ 3000000) (hs' : s ≤ 9000000) :
    Calls Try.prog 24 #[.slice a n cap, .int .i64 sv] w fun e w' => e = .returned (.int .i64 (sv + (n : Int))) ∧ Below w.heap.size w w' := by
  subst hsv
  refine (heldByteS_from a n cap s w h hl hs').mono ?_
  rintro e w' ⟨rfl, rfl⟩
  exact ⟨rfl, Below.refl _ _⟩

theorem markRing_sv (sv : Int) (a : Option Addr) (n cap base s : Nat) (zs : List Int) (w : World) (hsv : sv = (s : Int)) (h : Own w base (.slice a n cap) zs) (hl : n ≤ 3000000) (hs' : s ≤ 9000000) :
    Calls Try.prog 20 #[.agg #[.slice a n cap], .int .i64 sv] w fun e w' => e = .returned (.int .i64 (sv + (n : Int))) ∧ Own w' base (.slice a n cap) (marksF s n) ∧ w.grownBy w' (Value.slice a n cap).ownBlock := by
  subst hsv; exact markRing_from a n cap base s zs w h hl hs'

theorem heldRing_sv (sv : Int) (a : Option Addr) (n cap s : Nat) (w : World) (hsv : sv = (s : Int)) (h : Sl w a (marksF s n)) (hl : n ≤ 3000000) (hs' : s ≤ 9000000) :
    Calls Try.prog 22 #[.agg #[.slice a n cap], .int .i64 sv] w fun e w' => e = .returned (.int .i64 (sv + (n : Int))) ∧ Below w.heap.size w w' := by
  subst hsv; exact heldRing_from a n cap s w h hl hs'

theorem eqByteS_ok (a a' : Option Addr) (n n' cap cap' : Nat) (zs : List Int) (w : World) (hn : n = zs.length) (hn' : n' = zs.length) (hs : Sl w a zs) (hs' : Sl w a' zs) (hl : zs.length ≤ 2000000) :
    Calls Try.prog 19 #[.slice a n cap, .slice a' n' cap'] w fun e w' => e = .returned (.bool true) ∧ Below w.heap.size w w' := by
  refine (eqByteS_true a a' n n' cap cap' zs w hn hn' hs hs' hl).mono ?_
  rintro e w' ⟨rfl, k, rfl⟩
  exact ⟨rfl, drew_refl _ _⟩

theorem toByteS_ok (a : Option Addr) (n cap : Nat) (zs : List Int) (w : World) (hn : n = zs.length) (hs : Sl w a zs) (hl : zs.length ≤ 2000000) :
    Calls Try.prog 17 #[.slice a n cap] w fun e w' => ∃ g, e = .returned (.slice (some ⟨g, 0, none⟩) n n) ∧ Own w' w.heap.size (.slice (some ⟨g, 0, none⟩) n n) zs ∧ Below w.heap.size w w' := by
  refine (toByteS_any a n cap zs w hn hs hl).mono ?_
  rintro e w' ⟨rfl, q, b⟩
  exact ⟨_, rfl, Own.ofRow q hn (Nat.le_refl _) (by unfold maxLen; omega), b⟩

end Go.Proofs.Ytckmffhdngfchaa
