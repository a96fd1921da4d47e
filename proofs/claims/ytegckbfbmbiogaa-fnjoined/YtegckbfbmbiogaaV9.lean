/- Texts that the proof needs, joined: S1 Resp1 WordAt1. -/
import Derived.Test.YtegckbfbmbiogaaV8
import Derived.Test.YtegckbfbmbiogaaV5
import Derived.Test.YtegckbfbmbiogaaV1
namespace Go.Proofs.Ytegckbfbmbiogaa
open Go.RowKit
set_option linter.unusedVariables false
set_option linter.unusedSimpArgs false
theorem first_diff {α : Type} [DecidableEq α] (d : α) : ∀ (zs ys : List α), zs.length = ys.length → zs ≠ ys → ∃ k, k < zs.length ∧ zs.getD k d ≠ ys.getD k d ∧ ∀ j, j < k → zs.getD j d = ys.getD j d
  | [], [], _, h => absurd rfl h
  | [], _ :: _, h, _ => by simp at h
  | _ :: _, [], h, _ => by simp at h
  | x :: r, y :: s, hl, hne => by
    by_cases e : x = y
    · subst e
      obtain ⟨k, h1, h2, h3⟩ := first_diff d r s (by simpa using hl) (fun h => hne (by rw [h]))
      refine ⟨k + 1, by simp; omega, by simpa using h2, fun j hj => ?_⟩
      cases j with
      | zero => simp
      | succ j => simpa using h3 j (by omega)
    · exact ⟨0, by simp, by simpa using e, fun j hj => by omega⟩
set_option maxHeartbeats 2000000 in
theorem equal_int_ne (a a' : Option Addr) (n n' cap cap' : Nat) (zs ys : List Int) (w : World) (hn : n = zs.length) (hn' : n' = zs.length) (hy : zs.length = ys.length) (hs : SlI w a zs) (hs' : SlI w a' ys) (hl : zs.length ≤ 2000000) (hne : zs ≠ ys) :
    Calls Try.prog 115 #[.slice a n cap, .slice a' n' cap'] w fun e w' => e = .returned (.bool false) ∧ Below w.heap.size w w' := by
  subst hn hn'
  obtain ⟨d, hd, hdn, hdj⟩ := first_diff 0 zs ys hy hne
  have HY : Hid (zs.length = ys.length) := hy
  have HD : Hid (∀ j, j < d → zs.getD j 0 = ys.getD j 0) := hdj
  clear hy hdj hne
  go_enter Try.func115, Try.ntmps115
  go_wp2
  go_loopw [13] (fun i wr => ∃ k : Nat, k ≤ d ∧ i = .int .i64 k ∧ ∃ n, wr = w.drewN n) (fun i _ => d - (intOf i).toNat)
  case atStart => exact ⟨0, Nat.zero_le _, rfl, 0, rfl⟩
  case round =>
    obtain ⟨k, hk, rfl, n, rfl⟩ := hrel
    have hlt : k < zs.length := by omega
    obtain ⟨b, off, rfl, _, hc⟩ := cell_atI hs hlt
    obtain ⟨b', off', rfl, _, hc'⟩ := cell_atI hs' (show k < ys.length by have := HY.out; omega)
    have hi : (k : Int) < (zs.length : Int) := by omega
    by_cases hkd : k < d
    · rw [← HD.out k hkd] at hc'
      clear hs hs'
      go_wp2
      go_quiet (fail)
      go_wp2
      go_roundw
      case rel => first | exact ⟨k + 1, by omega, by go_num, _, rfl⟩ | exact ⟨_, _, ⟨k + 1, by omega, by go_num, _, rfl⟩, rfl, rfl⟩
      case measure => simp [intOf]; omega
    · obtain rfl : k = d := by omega
      clear hs hs'
      generalize zs.getD k 0 = x at *
      generalize ys.getD k 0 = y at *
      go_wp2
      go_quiet (fail)
      go_wp2
      go_ret
      exact ⟨rfl, bel_drewN (drew_refl _ _) _⟩
set_option maxHeartbeats 2000000 in
theorem equal_bool_ne (a a' : Option Addr) (n n' cap cap' : Nat) (zs ys : List Bool) (w : World) (hn : n = zs.length) (hn' : n' = zs.length) (hy : zs.length = ys.length) (hs : SlB w a zs) (hs' : SlB w a' ys) (hl : zs.length ≤ 2000000) (hne : zs ≠ ys) :
    Calls Try.prog 114 #[.slice a n cap, .slice a' n' cap'] w fun e w' => e = .returned (.bool false) ∧ Below w.heap.size w w' := by
  subst hn hn'
  obtain ⟨d, hd, hdn, hdj⟩ := first_diff false zs ys hy hne
  have HY : Hid (zs.length = ys.length) := hy
  have HD : Hid (∀ j, j < d → zs.getD j false = ys.getD j false) := hdj
  clear hy hdj hne
  go_enter Try.func114, Try.ntmps114
  go_wp2
  go_loopw [13] (fun i wr => ∃ k : Nat, k ≤ d ∧ i = .int .i64 k ∧ ∃ n, wr = w.drewN n) (fun i _ => d - (intOf i).toNat)
  case atStart => exact ⟨0, Nat.zero_le _, rfl, 0, rfl⟩
  case round =>
    obtain ⟨k, hk, rfl, n, rfl⟩ := hrel
    have hlt : k < zs.length := by omega
    obtain ⟨b, off, rfl, _, hc⟩ := cell_atB hs hlt
    obtain ⟨b', off', rfl, _, hc'⟩ := cell_atB hs' (show k < ys.length by have := HY.out; omega)
    have hi : (k : Int) < (zs.length : Int) := by omega
    by_cases hkd : k < d
    · rw [← HD.out k hkd] at hc'
      clear hs hs'
      go_wp2
      go_quiet (fail)
      go_wp2
      go_roundw
      case rel => first | exact ⟨k + 1, by omega, by go_num, _, rfl⟩ | exact ⟨_, _, ⟨k + 1, by omega, by go_num, _, rfl⟩, rfl, rfl⟩
      case measure => simp [intOf]; omega
    · obtain rfl : k = d := by omega
      clear hs hs'
      generalize zs.getD k false = x at *
      generalize ys.getD k false = y at *
      obtain rfl : y = !x := by cases x <;> cases y <;> simp_all
      clear hdn
      cases x
      all_goals (
        go_wp2
        go_quiet (fail)
        go_wp2
        go_ret
        exact ⟨rfl, bel_drewN (drew_refl _ _) _⟩)
theorem equal_int_any (a a' : Option Addr) (n n' cap cap' : Nat) (zs ys : List Int) (w : World) (hn : n = zs.length) (hn' : n' = ys.length) (hs : SlI w a zs) (hs' : SlI w a' ys) (hl : zs.length ≤ 2000000) (hl' : ys.length ≤ 2000000) (b : Bool) (hb : decide (zs = ys) = b) :
    Calls Try.prog 115 #[.slice a n cap, .slice a' n' cap'] w fun e w' => e = .returned (.bool b) ∧ Below w.heap.size w w' := by
  subst hb
  by_cases h : zs = ys
  · subst h
    rw [decide_eq_true rfl]
    exact equal_int a a' n n' cap cap' zs w hn hn' hs hs' hl
  · rw [decide_eq_false h]
    by_cases hy : zs.length = ys.length
    · exact equal_int_ne a a' n n' cap cap' zs ys w hn (hn'.trans hy.symm) hy hs hs' hl h
    · exact equal_int_len a a' n n' cap cap' w (by omega) (by omega) (by omega)
theorem equal_bool_any (a a' : Option Addr) (n n' cap cap' : Nat) (zs ys : List Bool) (w : World) (hn : n = zs.length) (hn' : n' = ys.length) (hs : SlB w a zs) (hs' : SlB w a' ys) (hl : zs.length ≤ 2000000) (hl' : ys.length ≤ 2000000) (b : Bool) (hb : decide (zs = ys) = b) :
    Calls Try.prog 114 #[.slice a n cap, .slice a' n' cap'] w fun e w' => e = .returned (.bool b) ∧ Below w.heap.size w w' := by
  subst hb
  by_cases h : zs = ys
  · subst h
    rw [decide_eq_true rfl]
    exact equal_bool a a' n n' cap cap' zs w hn hn' hs hs' hl
  · rw [decide_eq_false h]
    by_cases hy : zs.length = ys.length
    · exact equal_bool_ne a a' n n' cap cap' zs ys w hn (hn'.trans hy.symm) hy hs hs' hl h
    · exact equal_bool_len a a' n n' cap cap' w (by omega) (by omega) (by omega)
set_option maxHeartbeats 2000000 in
theorem l4SameWords_any (a a' : Option Addr) (n n' cap cap' : Nat) (zs ys : List Int) (w : World) (hn : n = zs.length) (hn' : n' = ys.length) (hs : SlI w a zs) (hs' : SlI w a' ys) (hl : zs.length ≤ 2000000) (hl' : ys.length ≤ 2000000) (b : Bool) (hb : decide (zs = ys) = b) :
    Calls Try.prog 109 #[.slice a n cap, .slice a' n' cap'] w fun e w' => e = .returned (.bool b) ∧ Below w.heap.size w w' := by
  subst hb hn hn'
  by_cases hy : zs.length = ys.length
  · have hyi : (zs.length : Int) = (ys.length : Int) := by omega
    have HY : Hid (zs.length = ys.length) := hy
    by_cases h : zs = ys
    · subst h
      rw [decide_eq_true rfl]
      clear hy hyi
      go_enter Try.func109, Try.ntmps109
      go_wp2
      go_loopw [5] (fun i wr => ∃ k : Nat, k ≤ zs.length ∧ i = .int .i64 k ∧ ∃ n, wr = w.drewN n) (fun i _ => zs.length - (intOf i).toNat)
      case atStart => exact ⟨0, Nat.zero_le _, rfl, 0, rfl⟩
      case round =>
        obtain ⟨k, hk, rfl, n, rfl⟩ := hrel
        by_cases hlt : k < zs.length
        · obtain ⟨b, off, rfl, _, hc⟩ := cell_atI hs hlt
          obtain ⟨b', off', rfl, _, hc'⟩ := cell_atI hs' hlt
          have hi : (k : Int) < (zs.length : Int) := by omega
          clear hs hs'
          go_wp2
          go_quiet (fail)
          go_wp2
          go_roundw
          case rel => first | exact ⟨k + 1, by omega, by go_num, _, rfl⟩ | exact ⟨_, _, ⟨k + 1, by omega, by go_num, _, rfl⟩, rfl, rfl⟩
          case measure => simp [intOf]; omega
        · clear hs hs'
          go_wp2
          go_ret
          exact ⟨rfl, drew_refl _ _⟩
    · rw [decide_eq_false h]
      obtain ⟨d, hd, hdn, hdj⟩ := first_diff 0 zs ys hy h
      have HD : Hid (∀ j, j < d → zs.getD j 0 = ys.getD j 0) := hdj
      clear hdj h
      rw [← hy]
      clear hy hyi
      go_enter Try.func109, Try.ntmps109
      go_wp2
      go_loopw [5] (fun i wr => ∃ k : Nat, k ≤ d ∧ i = .int .i64 k ∧ ∃ n, wr = w.drewN n) (fun i _ => d - (intOf i).toNat)
      case atStart => exact ⟨0, Nat.zero_le _, rfl, 0, rfl⟩
      case round =>
        obtain ⟨k, hk, rfl, n, rfl⟩ := hrel
        have hlt : k < zs.length := by omega
        obtain ⟨b, off, rfl, _, hc⟩ := cell_atI hs hlt
        obtain ⟨b', off', rfl, _, hc'⟩ := cell_atI hs' (show k < ys.length by have := HY.out; omega)
        have hi : (k : Int) < (zs.length : Int) := by omega
        by_cases hkd : k < d
        · rw [← HD.out k hkd] at hc'
          clear hs hs'
          go_wp2
          go_quiet (fail)
          go_wp2
          go_roundw
          case rel => first | exact ⟨k + 1, by omega, by go_num, _, rfl⟩ | exact ⟨_, _, ⟨k + 1, by omega, by go_num, _, rfl⟩, rfl, rfl⟩
          case measure => simp [intOf]; omega
        · obtain rfl : k = d := by omega
          clear hs hs'
          generalize zs.getD k 0 = x at *
          generalize ys.getD k 0 = y at *
          go_wp2
          go_quiet (fail)
          go_wp2
          go_ret
          exact ⟨rfl, bel_drewN (drew_refl _ _) _⟩
  · rw [decide_eq_false (fun h => hy (by rw [h]))]
    have hyi : ¬ (zs.length : Int) = (ys.length : Int) := by omega
    clear hs hs' hy
    go_enter Try.func109, Try.ntmps109
    go_wp2
    go_ret
    exact ⟨rfl, Below.refl _ _⟩
def nfB (bs : List Bool) (n : Nat) : Bool := decide (∀ k, k < bs.length → n ≤ k → bs.getD k false = false)
theorem nfB_no {bs : List Bool} {n k : Nat} (h1 : n ≤ k) (h2 : k < bs.length) (h : bs.getD k false = true) : nfB bs n = false :=
  decide_eq_false (fun hh => by rw [hh k h2 h1] at h; cases h)
set_option maxHeartbeats 2000000 in
theorem indexB_any (a : Option Addr) (n cap : Nat) (zs : List Bool) (w : World) (hn : n = zs.length) (hs : SlB w a zs) (hl : zs.length ≤ 2000000) :
    Calls Try.prog 129 #[.slice a n cap, .bool true] w fun e w' => ∃ i : Int, e = .returned (.int .i64 i) ∧ decide (i ≥ 0) = !nfB zs 0 ∧ Below w.heap.size w w' := by
  subst hn
  go_enter Try.func129, Try.ntmps129
  go_wp2
  go_loopw [8] (fun i wr => ∃ k : Nat, k ≤ zs.length ∧ i = .int .i64 k ∧ (∀ j, j < k → zs.getD j false = false) ∧ wr = w) (fun i _ => zs.length - (intOf i).toNat)
  case atStart => exact ⟨0, Nat.zero_le _, rfl, fun j hj => by omega, rfl⟩
  case round =>
    obtain ⟨k, hk, rfl, hz, rfl⟩ := hrel
    have HZ : Hid (∀ j, j < k → zs.getD j false = false) := hz
    clear hz
    by_cases hlt : k < zs.length
    · obtain ⟨b, off, rfl, _, hc⟩ := cell_atB hs hlt
      have hi : (k : Int) < (zs.length : Int) := by omega
      cases hx : zs.getD k false
      · rw [hx] at hc
        have HN : Hid (∀ j, j < k + 1 → zs.getD j false = false) := by
          intro j hj
          by_cases h : j < k
          · exact HZ.out j h
          · rw [show j = k by omega]; exact hx
        clear hs hx
        go_wp2
        go_roundw
        case rel => exact ⟨k + 1, by omega, by go_num, HN.out, trivial⟩
        case measure => simp [intOf]; omega
      · rw [hx] at hc
        have HX : Hid (nfB zs 0 = false) := nfB_no (Nat.zero_le _) hlt hx
        clear hs hx
        go_wp2
        go_ret
        exact ⟨k, rfl, by rw [HX.out]; simp, Below.refl _ _⟩
    · have HX : Hid (nfB zs 0 = true) := decide_eq_true (fun j hj _ => HZ.out j (by omega))
      clear hs
      go_wp2
      go_ret
      exact ⟨-1, rfl, by rw [HX.out]; rfl, Below.refl _ _⟩
set_option maxHeartbeats 2000000 in
theorem containsB_any (a : Option Addr) (n cap : Nat) (zs : List Bool) (w : World) (hn : n = zs.length) (hs : SlB w a zs) (hl : zs.length ≤ 2000000) (b : Bool) (hb : nfB zs 0 = b) :
    Calls Try.prog 113 #[.slice a n cap, .bool true] w fun e w' => e = .returned (.bool (!b)) ∧ Below w.heap.size w w' := by
  have HS : Hid (SlB w a zs ∧ n = zs.length) := ⟨hs, hn⟩
  have HB : Hid (nfB zs 0 = b) := hb
  clear hs hn hb
  go_enter Try.func113, Try.ntmps113
  go_wp2_with fail
  refine (indexB_any a n cap zs _ HS.out.2 HS.out.1 hl).mono ?_
  rintro e w1 ⟨i, rfl, hi, b'⟩
  rw [HB.out] at hi
  have HI : Hid (decide (i ≥ 0) = !b) := hi
  clear hi
  go_wp2
  go_ret
  exact ⟨by first | (rw [← HI.out]; rfl) | exact congrArg (fun x => Ending.returned (Value.bool x)) HI.out, b'⟩
end Go.Proofs.Ytegckbfbmbiogaa
namespace Go.Proofs.Ytegckbfbmbiogaa
open Go.RowKit
set_option linter.unusedVariables false
abbrev rp (kd fl pl nn : Int) (a1 a2 : Option Addr) (l1 l2 c1 c2 : Nat) : Value := .agg #[.int .i64 kd, .int .i64 fl, .int .i64 pl, .int .i64 nn, .slice a1 l1 c1, .slice a2 l2 c2]
theorem rowp_set6 {w : World} {base size n g : Nat} {e t : TypeId} {v v0 v1 v2 v3 v4 v5 : Value} {xs : List Value} (h : w.ownsRow base e size v n xs) (hb : ExB w g t) (ht : t ≠ e) :
    ((((((w.setCell ⟨g, 0, none⟩ v0).setCell ⟨g, 1, none⟩ v1).setCell ⟨g, 2, none⟩ v2).setCell ⟨g, 3, none⟩ v3).setCell ⟨g, 4, none⟩ v4).setCell ⟨g, 5, none⟩ v5).ownsRow base e size v n xs :=
  row_setE (row_setE (row_setE (row_setE (row_setE (row_setE h hb ht) (ExB.set hb) ht) (ExB.set (ExB.set hb)) ht) (ExB.set (ExB.set (ExB.set hb))) ht) (ExB.set (ExB.set (ExB.set (ExB.set hb)))) ht) (ExB.set (ExB.set (ExB.set (ExB.set (ExB.set hb))))) ht
theorem belp_set6 {B : Nat} {W w : World} {g : Nat} {v0 v1 v2 v3 v4 v5 : Value} (hb : Below B W w) (hg : B ≤ g) :
    Below B W ((((((w.setCell ⟨g, 0, none⟩ v0).setCell ⟨g, 1, none⟩ v1).setCell ⟨g, 2, none⟩ v2).setCell ⟨g, 3, none⟩ v3).setCell ⟨g, 4, none⟩ v4).setCell ⟨g, 5, none⟩ v5) :=
  (((((hb.setCell (p := ⟨g, 0, none⟩) hg _).setCell (p := ⟨g, 1, none⟩) hg _).setCell (p := ⟨g, 2, none⟩) hg _).setCell (p := ⟨g, 3, none⟩) hg _).setCell (p := ⟨g, 4, none⟩) hg _).setCell (p := ⟨g, 5, none⟩) hg _
end Go.Proofs.Ytegckbfbmbiogaa
namespace Go.Proofs.Ytegckbfbmbiogaa
open Go.RowKit
def word2 (x y : Int) : Int := bits BinOp.or IntKind.i64 (x * 256) y
end Go.Proofs.Ytegckbfbmbiogaa
