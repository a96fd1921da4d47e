/- Rings: what the laws' own helpers do with one. -/
import Derived.Test.YtckmffhdngfchaaBys
import Derived.Test.YtckmffhdngfchaaMarks
import Derived.Test.YtckmffhdngfchaaBox
namespace Go.Proofs.Ytckmffhdngfchaa
open Go.RowKit

theorem keepc {w w' : World} {g : Nat} {v : Value} (hb : Below w.heap.size w w') (hc : w.cell? ⟨g, 0, none⟩ = some v) : w'.cell? ⟨g, 0, none⟩ = some v := by
  rw [hb.cell (p := ⟨g, 0, none⟩) (World.block_lt_of_cell? _ _ hc)]; exact hc

theorem keepf {w w' : World} {g : Nat} {v : Value} (hb : Below w.heap.size w w') (hc : w.cell? ⟨g, 0, none⟩ = some v) (hf : w.frozen? ⟨g, 0, none⟩ = false) : w'.frozen? ⟨g, 0, none⟩ = false := by
  rw [hb.frozen (p := ⟨g, 0, none⟩) (World.block_lt_of_cell? _ _ hc)]; exact hf

theorem bel_alloc (w : World) (o : Obj) : Below w.heap.size w (w.alloc o) := (Below.refl _ w).alloc (Nat.le_refl _) o

theorem bel_next {w0 w w' : World} (h : Below w0.heap.size w0 w) (h' : Below w.heap.size w w') : Below w0.heap.size w0 w' := h.trans (h'.mono h.size)

theorem new_cell (w : World) (v : Value) (t : TypeId) : (w.alloc (.cells #[v] t)).cell? ⟨w.heap.size, 0, none⟩ = some v := by simp [go_sem]

set_option maxHeartbeats 1000000 in
theorem implRingOk_any (a : Option Addr) (n cap : Nat) (w : World) :
    Calls Try.prog 10 #[.agg #[.slice a n cap]] w fun e w' => e = .returned (.bool (decide ((n : Int) ≤ 300))) ∧ Below w.heap.size w w' := by
  go_enter Try.func10, Try.ntmps10
  go_wp2
  go_ret
  exact ⟨rfl, (Below.refl _ _).alloc (Nat.le_refl _) _⟩

set_option maxHeartbeats 1000000 in
theorem specRingOk_any (a : Option Addr) (n cap : Nat) (w : World) :
    Calls Try.prog 9 #[.agg #[.slice a n cap]] w fun e w' => e = .returned (.bool (decide ((n : Int) ≤ 300))) ∧ Below w.heap.size w w' := by
  go_enter Try.func9, Try.ntmps9
  go_wp2
  go_ret
  exact ⟨rfl, (Below.refl _ _).alloc (Nat.le_refl _) _⟩

theorem implRingOk_yes (a : Option Addr) (n cap : Nat) (w : World) (h : n ≤ 300) :
    Calls Try.prog 10 #[.agg #[.slice a n cap]] w fun e w' => e = .returned (.bool true) ∧ Below w.heap.size w w' := by
  refine (implRingOk_any a n cap w).mono ?_
  rintro e w' ⟨rfl, b⟩
  exact ⟨by rw [decide_eq_true (by omega)], b⟩

theorem implRingOk_no (a : Option Addr) (n cap : Nat) (w : World) (h : ¬ n ≤ 300) :
    Calls Try.prog 10 #[.agg #[.slice a n cap]] w fun e w' => e = .returned (.bool false) ∧ Below w.heap.size w w' := by
  refine (implRingOk_any a n cap w).mono ?_
  rintro e w' ⟨rfl, b⟩
  exact ⟨by rw [decide_eq_false (by omega)], b⟩

theorem specRingOk_yes (a : Option Addr) (n cap : Nat) (w : World) (h : n ≤ 300) :
    Calls Try.prog 9 #[.agg #[.slice a n cap]] w fun e w' => e = .returned (.bool true) ∧ Below w.heap.size w w' := by
  refine (specRingOk_any a n cap w).mono ?_
  rintro e w' ⟨rfl, b⟩
  exact ⟨by rw [decide_eq_true (by omega)], b⟩

theorem specRingOk_no (a : Option Addr) (n cap : Nat) (w : World) (h : ¬ n ≤ 300) :
    Calls Try.prog 9 #[.agg #[.slice a n cap]] w fun e w' => e = .returned (.bool false) ∧ Below w.heap.size w w' := by
  refine (specRingOk_any a n cap w).mono ?_
  rintro e w' ⟨rfl, b⟩
  exact ⟨by rw [decide_eq_false (by omega)], b⟩

set_option maxHeartbeats 1000000 in
theorem szRing_fits (a : Option Addr) (n cap : Nat) (w : World) (h : n ≤ 1048576) :
    Calls Try.prog 14 #[.agg #[.slice a n cap], .int .i64 1048576] w fun e w' => e = .returned (.int .i64 (1048576 - (n : Int))) ∧ Below w.heap.size w w' := by
  have h' : ¬ (1048576 - (n : Int) < 0) := by omega
  go_enter Try.func14, Try.ntmps14
  go_wp2_with (go_at_call 29; go_in)
  go_ret
  exact ⟨rfl, (Below.refl _ _).alloc (Nat.le_refl _) _⟩

set_option maxHeartbeats 1000000 in
theorem szRing_big (a : Option Addr) (n cap : Nat) (w : World) (hm : n ≤ maxLen) (h : ¬ n ≤ 1048576) :
    Calls Try.prog 14 #[.agg #[.slice a n cap], .int .i64 1048576] w fun e w' => e = .returned (.int .i64 (-1)) ∧ Below w.heap.size w w' := by
  unfold maxLen at hm
  have h' : (1048576 - (n : Int) < 0) := by omega
  go_enter Try.func14, Try.ntmps14
  go_wp2_with (go_at_call 29; go_in)
  go_ret
  exact ⟨rfl, (Below.refl _ _).alloc (Nat.le_refl _) _⟩

theorem grown_setc (w : World) (g o : Nat) (v : Value) : w.grownBy (w.setCell ⟨g, o, none⟩ v) (some g) :=
  ⟨rfl, rfl, rfl, by simp [World.setCell], fun k hk hne => Below.heap_setCell _ _ _ _ (fun e => hne (by simpa using e))⟩

theorem Own.setc {w : World} {base b n cap g o : Nat} {zs : List Int} {v : Value} (h : Own w base (.slice (some ⟨b, 0, none⟩) n cap) zs) (hne : b ≠ g) : Own (w.setCell ⟨g, o, none⟩ v) base (.slice (some ⟨b, 0, none⟩) n cap) zs :=
  h.kept (grown_setc w g o v) (.inr (by simp [Value.ownBlock]; exact hne))

set_option maxHeartbeats 1000000 in
theorem toRing_any (a : Option Addr) (n cap : Nat) (zs : List Int) (w : World) (hn : n = zs.length) (hs : Sl w a zs) (hl : zs.length ≤ 2000000) :
    Calls Try.prog 16 #[.agg #[.slice a n cap]] w fun e w' => ∃ g, e = .returned (.agg #[.slice (some ⟨g, 0, none⟩) n n]) ∧ Own w' w.heap.size (.slice (some ⟨g, 0, none⟩) n n) zs ∧ Below w.heap.size w w' := by
  have hm : n ≤ maxLen := by unfold maxLen; omega
  have HN : Hid (n = zs.length) := hn
  clear hn
  have B0 : Below w.heap.size w (((w.alloc (.cells #[.slice a n cap] 35)).alloc (.cells #[.slice none 0 0] 25)).alloc (.cells #[.slice none 0 0] 25)) := (((Below.refl _ w).alloc (Nat.le_refl _) _).alloc (by simp) _).alloc (by simp; omega) _
  have Hs : Hid (Sl _ a zs) := hs.below B0
  clear hs
  go_enter Try.func16, Try.ntmps16
  go_wp2_with fail
  refine (toByteS_any a n cap zs _ HN.out Hs.out hl).mono ?_
  rintro e w1 ⟨rfl, q1, b1⟩
  have s1 : w.heap.size + 1 < (((w.alloc (.cells #[.slice a n cap] 35)).alloc (.cells #[.slice none 0 0] 25)).alloc (.cells #[.slice none 0 0] 25)).heap.size := by simp
  have s2 : w.heap.size + 1 + 1 < (((w.alloc (.cells #[.slice a n cap] 35)).alloc (.cells #[.slice none 0 0] 25)).alloc (.cells #[.slice none 0 0] 25)).heap.size := by simp
  have c1 : w1.cell? ⟨w.heap.size + 1, 0, none⟩ = some (.slice none 0 0) := by rw [b1.cell (p := ⟨w.heap.size + 1, 0, none⟩) s1]; simp [go_sem]
  have c2 : w1.cell? ⟨w.heap.size + 1 + 1, 0, none⟩ = some (.slice none 0 0) := by rw [b1.cell (p := ⟨w.heap.size + 1 + 1, 0, none⟩) s2]; simp [go_sem]
  have f1 : w1.frozen? ⟨w.heap.size + 1, 0, none⟩ = false := by rw [b1.frozen (p := ⟨w.heap.size + 1, 0, none⟩) s1]; simp [go_sem]
  have f2 : w1.frozen? ⟨w.heap.size + 1 + 1, 0, none⟩ = false := by rw [b1.frozen (p := ⟨w.heap.size + 1 + 1, 0, none⟩) s2]; simp [go_sem]
  clear s1 s2
  have O1 : Own w1 w.heap.size (.slice (some ⟨w.heap.size + 1 + 1 + 1, 0, none⟩) n n) zs := Own.ofRow (by simpa using q1) HN.out (by omega) hm
  have B1 : Below w.heap.size w w1 := B0.trans (b1.mono (by simp; omega))
  have HO : Hid (Own w1 w.heap.size (.slice (some ⟨w.heap.size + 1 + 1 + 1, 0, none⟩) n n) zs ∧ Below w.heap.size w w1) := ⟨O1, B1⟩
  clear b1 q1 O1 B0 B1
  go_wp2
  refine bodyPost_ret (v := .agg #[.slice (some ⟨w.heap.size + 1 + 1 + 1, 0, none⟩) n n]) (by simp [results, Try.results16, go_sem, c1]) rfl ⟨_, rfl, ?_, ?_⟩
  · exact (HO.out.1.setc (by omega)).setc (by omega)
  · exact (HO.out.2.setCell (by show w.heap.size ≤ w.heap.size + 1 + 1; omega) _).setCell (by show w.heap.size ≤ w.heap.size + 1; omega) _

set_option maxHeartbeats 1000000 in
theorem eqRing_true (a a' : Option Addr) (n n' cap cap' : Nat) (zs : List Int) (w : World) (hn : n = zs.length) (hn' : n' = zs.length) (hs : Sl w a zs) (hs' : Sl w a' zs) (hl : zs.length ≤ 2000000) :
    Calls Try.prog 18 #[.agg #[.slice a n cap], .agg #[.slice a' n' cap']] w fun e w' => e = .returned (.bool true) ∧ Below w.heap.size w w' := by
  have B0 : Below w.heap.size w ((w.alloc (.cells #[.slice a n cap] 25)).alloc (.cells #[.slice a' n' cap'] 25)) := ((Below.refl _ w).alloc (Nat.le_refl _) _).alloc (by simp) _
  have H1 : Hid (Sl _ a zs) := hs.below B0
  have H2 : Hid (Sl _ a' zs) := hs'.below B0
  have HB : Hid (Below _ _ _) := B0
  have HN : Hid (n = zs.length ∧ n' = zs.length) := ⟨hn, hn'⟩
  clear hs hs' B0 hn hn'
  go_enter Try.func18, Try.ntmps18
  go_wp2_with fail
  refine (eqByteS_true _ _ _ _ _ _ zs _ HN.out.1 HN.out.2 H1.out H2.out hl).mono ?_
  rintro e w1 ⟨rfl, k, rfl⟩
  go_wp2
  go_ret
  exact ⟨rfl, bel_drewN HB.out k⟩

end Go.Proofs.Ytckmffhdngfchaa
