/- Drawn ticks, and the law of ticks, walked. -/
import Derived.Test.YtghmbonbdfchgaaTicks1
namespace Go.Proofs.Ytghmbonbdfchgaa
open Go.RowKit

theorem ints_lit (w : World) (l : List Int) (t : TypeId) : Ints (w.alloc (.cells (l.map (Value.int .i64)).toArray t)) ⟨w.heap.size, 0, none⟩ l :=
  ⟨w.heap.size, 0, rfl, by simp, fun i hi => by simp [hi]⟩

def tickList (y : Int) : List Int := [0, 1, 5, 1000, 4294967295, 4294967293, 2147483648, 2147483647, -1, 4294967296, y]

theorem tickList_bd (y : Int) (h0 : 0 ≤ y) (h1 : y < 60000) : ∀ x ∈ tickList y, -1 ≤ x ∧ x ≤ 4294967296 := by
  intro x hx
  simp [tickList] at hx
  omega

set_option maxHeartbeats 1000000 in
theorem l1TickDraw_any (w0 : World) (a : Option Addr) (cap : Nat) (zs : List Int) (w : World) (g : Nat) (hC : Cur w0 a cap zs w g) :
    Calls Try.prog 21 #[.pointer (some ⟨g, 0, none⟩)] w fun e w' => Drawn w0 a cap zs w g (fun x => -1 ≤ x ∧ x ≤ 4294967296) e w' := by
  go_enter Try.func21, Try.ntmps21
  go_wp2_with fail
  refine (l1Below_any w0 a cap zs _ g _ (by decide) hC).mono ?_
  rintro e w1 ⟨y, rfl, hy, C1, g1⟩
  go_wp2_with fail
  have I := ints_lit w1 (tickList y) 3
  refine (l1Int_any w0 a cap zs _ g ⟨w1.heap.size, 0, none⟩ _ _ (tickList y) rfl (by simp [tickList]) (by simp [tickList]) I (by have := C1.hi; show w1.heap.size ≠ g; omega) (C1.alloc _)).mono ?_
  rintro e w2 ⟨x, rfl, hx, C2, g2⟩
  have hb := tickList_bd y hy.1 hy.2 x hx
  clear I
  go_wp2
  go_ret
  exact ⟨x, rfl, hb, C2, grown_trans (grown_trans g1 (World.grownBy_alloc _ _ _)) g2⟩

set_option maxHeartbeats 1000000 in
theorem drawTickOn_any (w : World) (a : Option Addr) (n cap : Nat) (zs : List Int) (hn : n = zs.length) (hs : Sl w a zs) (hr : ∀ z ∈ zs, 0 ≤ z ∧ z ≤ 255) (hl : zs.length ≤ 1048576) :
    Calls Try.prog 12 #[.slice a n cap] w fun e w' => ∃ t n : Int, e = .returned (.tuple #[.int .i64 t, .int .i64 n]) ∧ (-1 ≤ t ∧ t ≤ 4294967296) ∧ (-1 ≤ n ∧ n ≤ 4294967296) ∧ Below w.heap.size w w' := by
  subst hn
  go_enter Try.func12, Try.ntmps12
  go_wp2_with fail
  refine (l1New_any w a _ cap zs rfl hs hr hl).mono ?_
  rintro e w1 ⟨rfl, C1, _⟩
  clear hs hr
  go_wp2_with fail
  refine (l1TickDraw_any w a cap zs _ _ C1).mono ?_
  rintro e w2 ⟨t, rfl, ht, C2, _⟩
  go_wp2_with fail
  refine (l1TickDraw_any w a cap zs _ _ C2).mono ?_
  rintro e w3 ⟨n, rfl, hn, C3, _⟩
  have B := C3.bel
  clear C1 C2 C3
  go_wp2
  go_ret2
  exact ⟨t, n, rfl, ht, hn, B⟩

set_option maxHeartbeats 2000000 in
theorem ticks_law (a : Option Addr) (cap : Nat) (zs : List Int) (w : World) (hs : Sl w a zs) (hr : ∀ z ∈ zs, 0 ≤ z ∧ z ≤ 255) (hl : zs.length ≤ 1048576) :
    Calls Try.prog 4 #[.slice a zs.length cap] w fun e w' => e = .returned (.bool true) ∧ Below w.heap.size w w' := by
  have hl' : ¬ (1048576 : Int) < (zs.length : Int) := by omega
  go_enter Try.func4, Try.ntmps4
  go_wp2_with (first | (go_at_call 5; go_in) | fail)
  refine (drawTickOn_any w a _ cap zs rfl hs hr hl).mono ?_
  rintro e w1 ⟨t, n, rfl, ht, hn, B⟩
  clear hs hr
  by_cases hin : isT t ∧ isT n
  · obtain ⟨Ht, Hn⟩ := hin
    have Hx : isT ((t + n) % 4294967296) := by unfold isT; omega
    have HT : Hid (isT t) := Ht
    have HN : Hid (isT n) := Hn
    have HX : Hid (isT ((t + n) % 4294967296)) := Hx
    obtain ⟨t0, t1⟩ := Ht
    obtain ⟨n0, n1⟩ := Hn
    have m1 : Hid (((t + n) % 4294967296 - t) % 4294967296 = n) := by show ((t + n) % 4294967296 - t) % 4294967296 = n; omega
    have m2 : Hid (((t + n) % 4294967296 + (t - (t + n) % 4294967296) % 4294967296) % 4294967296 = t) := by
      show ((t + n) % 4294967296 + (t - (t + n) % 4294967296) % 4294967296) % 4294967296 = t; omega
    have HG : Hid (isT ((t - (t + n) % 4294967296) % 4294967296)) := by show isT _; unfold isT; omega
    have d0 : decide (t < 0) = false := by simp; omega
    have d1 : decide (n < 0) = false := by simp; omega
    have d2 : decide (4294967295 < t) = false := by simp; omega
    have d3 : decide (4294967295 < n) = false := by simp; omega
    clear Hx ht hn
    go_wp2_with fail
    refine (tickOn_in t n _ HT.out HN.out).mono ?_
    rintro e w2 ⟨rfl, e2⟩
    subst e2
    generalize (t + n) % 4294967296 = x at *
    go_wp2_with fail
    refine (tickGap_in t x _ HT.out HX.out).mono ?_
    rintro e w2 ⟨rfl, e2⟩
    subst e2
    rw [m1.out]
    go_wp2_with fail
    refine (tickGap_in x t _ HX.out HT.out).mono ?_
    rintro e w2 ⟨rfl, e2⟩
    subst e2
    go_wp2_with fail
    refine (tickOn_in x _ _ HX.out HG.out).mono ?_
    rintro e w2 ⟨rfl, e2⟩
    subst e2
    rw [m2.out]
    go_wp2_with fail
    refine (tickDue_in x t _ HX.out HT.out).mono ?_
    rintro e w2 ⟨rfl, e2⟩
    subst e2
    rw [m1.out]
    go_wp2_with fail
    refine (tickDue_in t t _ HT.out HT.out).mono ?_
    rintro e w2 ⟨rfl, e2⟩
    subst e2
    have z0 : decide ((t - t) % 4294967296 < 2147483648) = true := by simp
    rw [z0]
    go_wp2
    go_ret
    exact ⟨rfl, B⟩
  · have HO : Hid (¬ (isT t ∧ isT n)) := hin
    have dd : t < 0 ∨ n < 0 ∨ 4294967295 < t ∨ 4294967295 < n := by unfold isT at hin; omega
    clear hin
    go_wp2_with fail
    refine (tickOn_out t n _ HO.out).mono ?_
    rintro e w2 ⟨rfl, e2⟩
    subst e2
    by_cases d0 : t < 0
    · clear dd
      go_wp2_with fail
      refine (tickGap_out t n _ HO.out).mono ?_
      rintro e w2 ⟨rfl, e2⟩
      subst e2
      go_wp2_with fail
      refine (tickDue_out t n _ HO.out).mono ?_
      rintro e w2 ⟨rfl, e2⟩
      subst e2
      go_wp2
      go_ret
      exact ⟨rfl, B⟩
    · have d0' : decide (t < 0) = false := by simp; omega
      by_cases d1 : n < 0
      · clear dd
        go_wp2_with fail
        refine (tickGap_out t n _ HO.out).mono ?_
        rintro e w2 ⟨rfl, e2⟩
        subst e2
        go_wp2_with fail
        refine (tickDue_out t n _ HO.out).mono ?_
        rintro e w2 ⟨rfl, e2⟩
        subst e2
        go_wp2
        go_ret
        exact ⟨rfl, B⟩
      · have d1' : decide (n < 0) = false := by simp; omega
        by_cases d2 : 4294967295 < t
        · clear dd
          go_wp2_with fail
          refine (tickGap_out t n _ HO.out).mono ?_
          rintro e w2 ⟨rfl, e2⟩
          subst e2
          go_wp2_with fail
          refine (tickDue_out t n _ HO.out).mono ?_
          rintro e w2 ⟨rfl, e2⟩
          subst e2
          go_wp2
          go_ret
          exact ⟨rfl, B⟩
        · have d2' : decide (4294967295 < t) = false := by simp; omega
          have d3 : 4294967295 < n := by omega
          clear dd
          go_wp2_with fail
          refine (tickGap_out t n _ HO.out).mono ?_
          rintro e w2 ⟨rfl, e2⟩
          subst e2
          go_wp2_with fail
          refine (tickDue_out t n _ HO.out).mono ?_
          rintro e w2 ⟨rfl, e2⟩
          subst e2
          go_wp2
          go_ret
          exact ⟨rfl, B⟩
end Go.Proofs.Ytghmbonbdfchgaa
