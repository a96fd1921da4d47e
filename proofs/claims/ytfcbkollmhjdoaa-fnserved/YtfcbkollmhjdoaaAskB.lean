/- Draws of questions: once, bits, words. -/
import Derived.Test.YtfcbkollmhjdoaaCur3
import Derived.Test.YtfcbkollmhjdoaaDev15
import Derived.Test.YtfcbkollmhjdoaaG1
import Derived.Test.YtfcbkollmhjdoaaUnp2
namespace Go.Proofs.Ytfcbkollmhjdoaa
open Go.RowKit

set_option linter.unusedVariables false

set_option linter.unusedSimpArgs false

set_option maxHeartbeats 1000000 in
theorem l1Once_any (w0 : World) (a : Option Addr) (cap : Nat) (zs : List Int) (w : World) (g : Nat) (n : Int) (hn : 1 ≤ n) (hC : Cur w0 a cap zs w g) :
    Calls Try.prog 65 #[.pointer (some ⟨g, 0, none⟩), .int .i64 n] w fun e w' => ∃ t : Bool, e = .returned (.bool t) ∧ Cur w0 a cap zs w' g ∧ w.grownBy w' (some g) := by
  go_enter Try.func65, Try.ntmps65
  go_wp2_with fail
  refine (l1Below_any w0 a cap zs _ g n hn hC).mono ?_
  rintro e w1 ⟨x, rfl, _, C1, g1⟩
  have R : Hid (Cur w0 a cap zs w1 g ∧ w.grownBy w1 (some g)) := ⟨C1, g1⟩
  clear hC C1 g1
  go_wp2
  go_ret
  exact ⟨_, rfl, R.out⟩

/-- What drawing bits ends with. -/
def DrawnBits (w0 : World) (a : Option Addr) (cap : Nat) (zs : List Int) (w : World) (g n : Nat) (e : Ending) (w' : World) : Prop :=
  ∃ (ad : Addr) (c : Nat) (bs : List Bool), e = .returned (.slice (some ad) n c) ∧ n = bs.length ∧ OwnB w' w.heap.size (.slice (some ad) n c) bs ∧ Cur w0 a cap zs w' g ∧ w.grownBy w' (some g)

theorem ownB_some {w : World} {base : Nat} {v : Value} {bs : List Bool} (h : OwnB w base v bs) (h0 : 0 < bs.length) : ∃ ad c, v = .slice (some ad) bs.length c := by
  obtain ⟨_, h2⟩ := h
  rcases h2 with ⟨h2, h3⟩ | ⟨g, cap', cur, hv, _⟩
  · omega
  · exact ⟨_, _, hv⟩

theorem bits_step {w0 w wr w1 w2 : World} {a : Option Addr} {cap g : Nat} {zs : List Int} {bs : List Bool} {v v' : Value} {o1 : Obj} {x : Bool} (hg : g < w.heap.size) (gr : w.grownBy wr (some g)) (ho : OwnB wr w.heap.size v bs) (C1 : Cur w0 a cap zs w1 g) (g1 : wr.grownBy w1 (some g))
    (h2 : w2.ownsRow w.heap.size 4 1 v' (bs.length + 1) (bs.map Value.bool ++ [Value.bool x])) (g2 : (w1.alloc o1).grownBy w2 v.ownBlock) (hlo : w0.heap.size ≤ g) :
    OwnB w2 w.heap.size v' (bs ++ [x]) ∧ Cur w0 a cap zs w2 g ∧ w.grownBy w2 (some g) := by
  have hv : ∀ k, v.ownBlock = some k → w.heap.size ≤ k := fun k hk => (World.ownsRow.lt ho k hk).1
  refine ⟨by simpa [OwnB] using h2, (C1.alloc o1).grown g2 (fun e => by have := hv g e.symm; omega) (fun k hk => by have := hv k hk; omega), ?_⟩
  have gg := grown_trans gr g1
  refine ⟨g2.os.trans gg.os, g2.tape.trans gg.tape, g2.output.trans gg.output, ?_, fun k hk hne => ?_⟩
  · have h := g2.size
    have h' := gg.size
    simp at h
    omega
  · rw [g2.block k (by have := gg.size; simp; omega) (fun e => by have := hv k e.symm; omega)]
    rw [Below.heap_alloc w1 o1 k (by have := gg.size; omega)]
    exact gg.block k hk hne

set_option maxHeartbeats 2000000 in
theorem l2Bits_any (w0 : World) (a : Option Addr) (cap : Nat) (zs : List Int) (w : World) (g : Nat) (n : Nat) (hn : n ≤ 1000000) (hC : Cur w0 a cap zs w g) :
    Calls Try.prog 89 #[.pointer (some ⟨g, 0, none⟩), .int .i64 n] w fun e w' => DrawnBits w0 a cap zs w g n e w' := by
  obtain ⟨i0, hi, hz0, hz1, hz2⟩ := info_parts Try.info4
  have hml : n + 2 ≤ maxLen := by unfold maxLen; omega
  have o0 := World.ownsRow_lit (base := w.heap.size) (e := 4) (size := 1) w #[] 0 (Nat.le_refl _) (by omega) rfl
  have hg := hC.hi
  have hlo := hC.lo
  have C0 := hC.alloc (.cells #[] 4)
  have G0 : w.grownBy (w.alloc (.cells #[] 4)) (some g) := World.grownBy_alloc _ _ _
  clear hC
  go_enter Try.func89, Try.ntmps89
  go_wp2
  go_loopw [5, 6] (fun v i wr => ∃ (k : Nat) (ad : Addr) (c : Nat) (bs : List Bool), k ≤ n ∧ i = .int .i64 k ∧ v = .slice (some ad) k c ∧ bs.length = k ∧ OwnB wr w.heap.size v bs ∧ Cur w0 a cap zs wr g ∧ w.grownBy wr (some g)) (fun _ i _ => n - (intOf i).toNat)
  case atStart => exact ⟨0, _, _, [], Nat.zero_le _, rfl, rfl, rfl, o0, C0, G0⟩
  case round =>
    obtain ⟨k, ad, c, bs, hk, rfl, rfl, hb, ho, C, G⟩ := hrel
    by_cases hlt : k < n
    · have hi' : (k : Int) < (n : Int) := by omega
      have HB : Hid (bs.length = k) := hb
      clear o0 C0 G0 hb
      go_wp2_with fail
      refine (l1Once_any w0 a cap zs _ g _ (by decide) C).mono ?_
      rintro e w1 ⟨x, rfl, C1, g1⟩
      have ho1 : w1.ownsRow w.heap.size 4 1 (.slice (some ad) k c) bs.length (bs.map Value.bool) := ho.kept g1 (.inr (fun e => by have := (World.ownsRow.lt ho g e).1; omega))
      have hm1 : bs.length + 1 ≤ maxLen := by rw [HB.out]; omega
      have hm2 : (bs.length + 1) * 1 ≤ 140737488355328 := by rw [HB.out]; omega
      have hsz : w.heap.size ≤ w1.heap.size := Nat.le_trans G.size g1.size
      go_wp2_with (at_builtin; refine wpList_append_own _ rfl (.tmp 13) (.tmp 16) 25 rfl w.heap.size 4 i0 (.bool false) 1 1 Try.underlying25 hi hz0 hz1 hz2 rfl (by decide) (.slice (some ad) k c) bs.length (bs.map Value.bool) rfl (ho1.alloc _) ⟨w1.heap.size, 0, none⟩ 1 1 [.bool x] rfl (by simp) one_cellB (one_oneB _) hm1 hm2 (by simp; omega) ?_; intro v' w2 o2 g2 _; have R := bits_step hg G ho C1 g1 o2 g2 hlo; clear ho ho1 o2 g2)
      obtain ⟨R1, R2, R3⟩ := R
      obtain ⟨ad', c', hv⟩ := ownB_some R1 (by simp)
      have hv' : Hid (v' = .slice (some ad') (k + 1) c') := by
        show v' = _
        rw [hv, List.length_append, HB.out]; rfl
      clear hv
      go_roundw
      case rel => exact ⟨k + 1, ad', c', bs ++ [x], by omega, by go_num, hv'.out, by rw [List.length_append, HB.out]; rfl, R1, R2, R3⟩
      case measure => simp [intOf]; omega
    · obtain rfl : k = n := by omega
      clear o0 C0 G0
      go_wp2
      go_ret
      exact ⟨ad, c, bs, rfl, hb.symm, ho, C, G⟩

theorem ints_lit (w : World) (l : List Int) (t : TypeId) : Ints (w.alloc (.cells (l.map (Value.int .i64)).toArray t)) ⟨w.heap.size, 0, none⟩ l :=
  ⟨w.heap.size, 0, rfl, by simp, fun i hi => by simp [hi]⟩

/-- What drawing words ends with. -/
def DrawnInts (w0 : World) (a : Option Addr) (cap : Nat) (zs : List Int) (w : World) (g n : Nat) (e : Ending) (w' : World) : Prop :=
  ∃ (ad : Option Addr) (c : Nat) (ws : List Int), e = .returned (.slice ad n c) ∧ n = ws.length ∧ OwnI w' w.heap.size (.slice ad n c) ws ∧ Cur w0 a cap zs w' g ∧ w.grownBy w' (some g)

theorem ints_step {w0 w wr w1 w2 : World} {a : Option Addr} {cap g : Nat} {zs : List Int} {ws : List Int} {v v' : Value} {o1 : Obj} {x : Int} (hg : g < w.heap.size) (gr : w.grownBy wr (some g)) (ho : OwnI wr w.heap.size v ws) (C1 : Cur w0 a cap zs w1 g) (g1 : wr.grownBy w1 (some g))
    (h2 : OwnI w2 w.heap.size v' (ws ++ [x])) (g2 : (w1.alloc o1).grownBy w2 v.ownBlock) (hlo : w0.heap.size ≤ g) :
    OwnI w2 w.heap.size v' (ws ++ [x]) ∧ Cur w0 a cap zs w2 g ∧ w.grownBy w2 (some g) := by
  have hv : ∀ k, v.ownBlock = some k → w.heap.size ≤ k := fun k hk => (World.ownsRow.lt ho k hk).1
  refine ⟨h2, (C1.alloc o1).grown g2 (fun e => by have := hv g e.symm; omega) (fun k hk => by have := hv k hk; omega), ?_⟩
  have gg := grown_trans gr g1
  refine ⟨g2.os.trans gg.os, g2.tape.trans gg.tape, g2.output.trans gg.output, ?_, fun k hk hne => ?_⟩
  · have h := g2.size
    have h' := gg.size
    simp at h
    omega
  · rw [g2.block k (by have := gg.size; simp; omega) (fun e => by have := hv k e.symm; omega)]
    rw [Below.heap_alloc w1 o1 k (by have := gg.size; omega)]
    exact gg.block k hk hne

set_option maxHeartbeats 4000000 in
theorem l3List_any (w0 : World) (a : Option Addr) (cap : Nat) (zs : List Int) (w : World) (g : Nat) (n : Nat) (hn : n ≤ 1000) (hC : Cur w0 a cap zs w g) :
    Calls Try.prog 90 #[.pointer (some ⟨g, 0, none⟩), .int .i64 n] w fun e w' => DrawnInts w0 a cap zs w g n e w' := by
  have o0 : OwnI (w.alloc (.cells #[] 3)) w.heap.size (.slice (some ⟨w.heap.size, 0, none⟩) 0 0) [] := ⟨rfl, .inr ⟨w.heap.size, 0, #[], rfl, Nat.le_refl _, Blk.new w #[] 3, by simp, by simp, rfl, rfl⟩⟩
  have hg := hC.hi
  have hlo := hC.lo
  have C0 := hC.alloc (.cells #[] 3)
  have G0 : w.grownBy (w.alloc (.cells #[] 3)) (some g) := World.grownBy_alloc _ _ _
  clear hC
  go_enter Try.func90, Try.ntmps90
  go_wp2
  go_loopw [5, 6] (fun v i wr => ∃ (k : Nat) (ad : Option Addr) (c : Nat) (ws : List Int), k ≤ n ∧ i = .int .i64 k ∧ v = .slice ad k c ∧ ws.length = k ∧ OwnI wr w.heap.size v ws ∧ Cur w0 a cap zs wr g ∧ w.grownBy wr (some g)) (fun _ i _ => n - (intOf i).toNat)
  case atStart => exact ⟨0, _, _, [], Nat.zero_le _, rfl, rfl, rfl, o0, C0, G0⟩
  case round =>
    obtain ⟨k, ad, c, ws, hk, rfl, rfl, hb, ho, C, G⟩ := hrel
    by_cases hlt : k < n
    · have hi' : (k : Int) < (n : Int) := by omega
      have HB : Hid (ws.length = k) := hb
      clear o0 C0 G0 hb
      go_wp2_with fail
      refine (l1Below_any w0 a cap zs _ g _ (by decide) C).mono ?_
      rintro e w1 ⟨x, rfl, _, C1, g1⟩
      have I1 := ints_lit w1 [0, 1, 65535, 256, x] 3
      have C1' := C1.alloc (.cells ([0, 1, 65535, 256, x].map (Value.int .i64)).toArray 3)
      have g1' : wr.grownBy (w1.alloc (.cells ([0, 1, 65535, 256, x].map (Value.int .i64)).toArray 3)) (some g) := grown_trans g1 (World.grownBy_alloc _ _ _)
      have hneg : w1.heap.size ≠ g := by have := C1.hi; omega
      clear C1 g1
      go_wp2_with fail
      refine (l1Int_any w0 a cap zs _ g ⟨w1.heap.size, 0, none⟩ 5 5 [0, 1, 65535, 256, x] rfl (by omega) (by omega) I1 hneg C1').mono ?_
      rintro e w2 ⟨y, rfl, _, C2, g2⟩
      have gg := grown_trans g1' g2
      have ho1 : OwnI w2 w.heap.size (.slice ad k c) ws := ho.kept gg (.inr (fun e => by have := (World.ownsRow.lt ho g e).1; omega))
      have HLn : Hid (ws.length + 1 ≤ 4000000) := by show ws.length + 1 ≤ 4000000; rw [HB.out]; omega
      have hsz : w.heap.size ≤ w2.heap.size := Nat.le_trans G.size gg.size
      clear I1 C1' g1' g2
      go_wp2_with (at_builtin; refine wpList_appI rfl (.tmp 13) (.tmp 19) rfl w.heap.size (.slice ad k c) ws rfl (ho1.below (bel_alloc _ _)) ⟨w2.heap.size, 0, none⟩ 1 1 [y] rfl rfl (lit_slI1' _ _ rfl) HLn.out (by simp; omega) ?_; intro v' w3 o3 g3)
      obtain ⟨R1, R2, R3⟩ := ints_step hg G ho C2 gg o3 g3 hlo
      obtain ⟨ad', c', n', hv, hn'⟩ := ownI_shape R1
      have en : n' = k + 1 := by rw [hn', List.length_append, HB.out]; rfl
      subst en
      subst hv
      clear o3 g3 ho1 ho C2 gg
      go_roundw
      case rel => exact ⟨k + 1, ad', c', ws ++ [y], by omega, by go_num, rfl, by rw [List.length_append, HB.out]; rfl, R1, R2, R3⟩
      case measure => simp [intOf]; omega
    · obtain rfl : k = n := by omega
      clear o0 C0 G0
      go_wp2
      go_ret
      exact ⟨ad, c, ws, rfl, hb.symm, ho, C, G⟩

end Go.Proofs.Ytfcbkollmhjdoaa
