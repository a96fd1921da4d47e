/- Texts that the proof needs, joined: AskB AskN AskO. -/
import Derived.Test.YtfdddkjonjpgpaaY10
import Derived.Test.YtfdddkjonjpgpaaY6
import Derived.Deep.Upon
import Derived.Lib.AppendZeros
namespace Go.Proofs.Ytfdddkjonjpgpaa
open Go.RowKit
set_option linter.unusedVariables false
set_option linter.unusedSimpArgs false
set_option maxHeartbeats 1000000 in
theorem l1Once_any (w0 : World) (a : Option Addr) (cap : Nat) (zs : List Int) (w : World) (g : Nat) (n : Int) (hn : 1 ≤ n) (hC : Cur w0 a cap zs w g) :
    Calls Try.prog 56 #[.pointer (some ⟨g, 0, none⟩), .int .i64 n] w fun e w' => ∃ t : Bool, e = .returned (.bool t) ∧ Cur w0 a cap zs w' g ∧ w.grownBy w' (some g) := by
  go_enter Try.func56, Try.ntmps56
  go_wp2_with fail
  refine (l1Below_any w0 a cap zs _ g n hn hC).mono ?_
  rintro e w1 ⟨x, rfl, _, C1, g1⟩
  have R : Hid (Cur w0 a cap zs w1 g ∧ w.grownBy w1 (some g)) := ⟨C1, g1⟩
  clear hC C1 g1
  go_wp2
  go_ret
  exact ⟨_, rfl, R.out⟩
def DrawnBits (w0 : World) (a : Option Addr) (cap : Nat) (zs : List Int) (w : World) (g n : Nat) (e : Ending) (w' : World) : Prop :=
  ∃ (ad : Addr) (c : Nat) (bs : List Bool), e = .returned (.slice (some ad) n c) ∧ n = bs.length ∧ OwnB w' w.heap.size (.slice (some ad) n c) bs ∧ Cur w0 a cap zs w' g ∧ w.grownBy w' (some g)
theorem ownB_some {w : World} {base : Nat} {v : Value} {bs : List Bool} (h : OwnB w base v bs) (h0 : 0 < bs.length) : ∃ ad c, v = .slice (some ad) bs.length c := by
  obtain ⟨_, h2⟩ := h
  rcases h2 with ⟨h2, h3⟩ | ⟨g, cap', cur, hv, _⟩
  · omega
  · exact ⟨_, _, hv⟩
theorem bits_step {w0 w wr w1 w2 : World} {a : Option Addr} {cap g : Nat} {zs : List Int} {bs : List Bool} {v v' : Value} {o1 : Obj} {x : Bool} (hg : g < w.heap.size) (gr : w.grownBy wr (some g)) (ho : OwnB wr w.heap.size v bs) (C1 : Cur w0 a cap zs w1 g) (g1 : wr.grownBy w1 (some g))
    (h2 : w2.ownsRow w.heap.size 4 1 v' (bs.length + 1) (bs.map Value.bool ++ [Value.bool x])) (g2 : (w1.alloc o1).grownBy w2 v.ownBlock) (hlo : w0.heap.size ≤ g) :
    OwnB w2 w.heap.size v' (bs ++ [x]) ∧ Cur w0 a cap zs w2 g ∧ w.grownBy w2 (some g) := by
  have hv : ∀ k, v.ownBlock = some k → w.heap.size ≤ k := fun k hk => (World.ownsRow.lt ho k hk).1
  refine ⟨by simpa [OwnB] using h2, (C1.alloc o1).grown g2 (fun e => by have := hv g e.symm; omega) (fun k hk => by have := hv k hk; omega), ?_⟩
  have gg := grown_trans gr g1
  refine ⟨g2.os.trans gg.os, g2.tape.trans gg.tape, g2.output.trans gg.output, ?_, fun k hk hne => ?_⟩
  · have h := g2.size
    have h' := gg.size
    simp at h
    omega
  · rw [g2.block k (by have := gg.size; simp; omega) (fun e => by have := hv k e.symm; omega)]
    rw [Below.heap_alloc w1 o1 k (by have := gg.size; omega)]
    exact gg.block k hk hne
set_option maxHeartbeats 2000000 in
theorem l2Bits_any (w0 : World) (a : Option Addr) (cap : Nat) (zs : List Int) (w : World) (g : Nat) (n : Nat) (hn : n ≤ 1000000) (hC : Cur w0 a cap zs w g) :
    Calls Try.prog 58 #[.pointer (some ⟨g, 0, none⟩), .int .i64 n] w fun e w' => DrawnBits w0 a cap zs w g n e w' := by
  obtain ⟨i0, hi, hz0, hz1, hz2⟩ := info_parts Try.info4
  have hml : n + 2 ≤ maxLen := by unfold maxLen; omega
  have o0 := World.ownsRow_lit (base := w.heap.size) (e := 4) (size := 1) w #[] 0 (Nat.le_refl _) (by omega) rfl
  have hg := hC.hi
  have hlo := hC.lo
  have C0 := hC.alloc (.cells #[] 4)
  have G0 : w.grownBy (w.alloc (.cells #[] 4)) (some g) := World.grownBy_alloc _ _ _
  clear hC
  go_enter Try.func58, Try.ntmps58
  go_wp2
  go_loopw [5, 6] (fun v i wr => ∃ (k : Nat) (ad : Addr) (c : Nat) (bs : List Bool), k ≤ n ∧ i = .int .i64 k ∧ v = .slice (some ad) k c ∧ bs.length = k ∧ OwnB wr w.heap.size v bs ∧ Cur w0 a cap zs wr g ∧ w.grownBy wr (some g)) (fun _ i _ => n - (intOf i).toNat)
  case atStart => exact ⟨0, _, _, [], Nat.zero_le _, rfl, rfl, rfl, o0, C0, G0⟩
  case round =>
    obtain ⟨k, ad, c, bs, hk, rfl, rfl, hb, ho, C, G⟩ := hrel
    by_cases hlt : k < n
    · have hi' : (k : Int) < (n : Int) := by omega
      have HB : Hid (bs.length = k) := hb
      clear o0 C0 G0 hb
      go_wp2_with fail
      refine (l1Once_any w0 a cap zs _ g _ (by decide) C).mono ?_
      rintro e w1 ⟨x, rfl, C1, g1⟩
      have ho1 : w1.ownsRow w.heap.size 4 1 (.slice (some ad) k c) bs.length (bs.map Value.bool) := ho.kept g1 (.inr (fun e => by have := (World.ownsRow.lt ho g e).1; omega))
      have hm1 : bs.length + 1 ≤ maxLen := by rw [HB.out]; omega
      have hm2 : (bs.length + 1) * 1 ≤ 140737488355328 := by rw [HB.out]; omega
      have hsz : w.heap.size ≤ w1.heap.size := Nat.le_trans G.size g1.size
      go_wp2_with (at_builtin; refine wpList_append_own _ rfl (.tmp 13) (.tmp 16) 24 rfl w.heap.size 4 i0 (.bool false) 1 1 Try.underlying24 hi hz0 hz1 hz2 rfl (by decide) (.slice (some ad) k c) bs.length (bs.map Value.bool) rfl (ho1.alloc _) ⟨w1.heap.size, 0, none⟩ 1 1 [.bool x] rfl (by simp) one_cellB (one_oneB _) hm1 hm2 (by simp; omega) ?_; intro v' w2 o2 g2 _; have R := bits_step hg G ho C1 g1 o2 g2 hlo; clear ho ho1 o2 g2)
      obtain ⟨R1, R2, R3⟩ := R
      obtain ⟨ad', c', hv⟩ := ownB_some R1 (by simp)
      have hv' : Hid (v' = .slice (some ad') (k + 1) c') := by
        show v' = _
        rw [hv, List.length_append, HB.out]; rfl
      clear hv
      go_roundw
      case rel => exact ⟨k + 1, ad', c', bs ++ [x], by omega, by go_num, hv'.out, by rw [List.length_append, HB.out]; rfl, R1, R2, R3⟩
      case measure => simp [intOf]; omega
    · obtain rfl : k = n := by omega
      clear o0 C0 G0
      go_wp2
      go_ret
      exact ⟨ad, c, bs, rfl, hb.symm, ho, C, G⟩
theorem ints_lit (w : World) (l : List Int) (t : TypeId) : Ints (w.alloc (.cells (l.map (Value.int .i64)).toArray t)) ⟨w.heap.size, 0, none⟩ l :=
  ⟨w.heap.size, 0, rfl, by simp, fun i hi => by simp [hi]⟩
def DrawnInts (w0 : World) (a : Option Addr) (cap : Nat) (zs : List Int) (w : World) (g n : Nat) (e : Ending) (w' : World) : Prop :=
  ∃ (ad : Option Addr) (c : Nat) (ws : List Int), e = .returned (.slice ad n c) ∧ n = ws.length ∧ OwnI w' w.heap.size (.slice ad n c) ws ∧ Cur w0 a cap zs w' g ∧ w.grownBy w' (some g)
theorem ints_step {w0 w wr w1 w2 : World} {a : Option Addr} {cap g : Nat} {zs : List Int} {ws : List Int} {v v' : Value} {o1 : Obj} {x : Int} (hg : g < w.heap.size) (gr : w.grownBy wr (some g)) (ho : OwnI wr w.heap.size v ws) (C1 : Cur w0 a cap zs w1 g) (g1 : wr.grownBy w1 (some g))
    (h2 : OwnI w2 w.heap.size v' (ws ++ [x])) (g2 : (w1.alloc o1).grownBy w2 v.ownBlock) (hlo : w0.heap.size ≤ g) :
    OwnI w2 w.heap.size v' (ws ++ [x]) ∧ Cur w0 a cap zs w2 g ∧ w.grownBy w2 (some g) := by
  have hv : ∀ k, v.ownBlock = some k → w.heap.size ≤ k := fun k hk => (World.ownsRow.lt ho k hk).1
  refine ⟨h2, (C1.alloc o1).grown g2 (fun e => by have := hv g e.symm; omega) (fun k hk => by have := hv k hk; omega), ?_⟩
  have gg := grown_trans gr g1
  refine ⟨g2.os.trans gg.os, g2.tape.trans gg.tape, g2.output.trans gg.output, ?_, fun k hk hne => ?_⟩
  · have h := g2.size
    have h' := gg.size
    simp at h
    omega
  · rw [g2.block k (by have := gg.size; simp; omega) (fun e => by have := hv k e.symm; omega)]
    rw [Below.heap_alloc w1 o1 k (by have := gg.size; omega)]
    exact gg.block k hk hne
set_option maxHeartbeats 4000000 in
theorem l3List_any (w0 : World) (a : Option Addr) (cap : Nat) (zs : List Int) (w : World) (g : Nat) (n : Nat) (hn : n ≤ 1000) (hC : Cur w0 a cap zs w g) :
    Calls Try.prog 59 #[.pointer (some ⟨g, 0, none⟩), .int .i64 n] w fun e w' => DrawnInts w0 a cap zs w g n e w' := by
  have o0 : OwnI (w.alloc (.cells #[] 3)) w.heap.size (.slice (some ⟨w.heap.size, 0, none⟩) 0 0) [] := ⟨rfl, .inr ⟨w.heap.size, 0, #[], rfl, Nat.le_refl _, Blk.new w #[] 3, by simp, by simp, rfl, rfl⟩⟩
  have hg := hC.hi
  have hlo := hC.lo
  have C0 := hC.alloc (.cells #[] 3)
  have G0 : w.grownBy (w.alloc (.cells #[] 3)) (some g) := World.grownBy_alloc _ _ _
  clear hC
  go_enter Try.func59, Try.ntmps59
  go_wp2
  go_loopw [5, 6] (fun v i wr => ∃ (k : Nat) (ad : Option Addr) (c : Nat) (ws : List Int), k ≤ n ∧ i = .int .i64 k ∧ v = .slice ad k c ∧ ws.length = k ∧ OwnI wr w.heap.size v ws ∧ Cur w0 a cap zs wr g ∧ w.grownBy wr (some g)) (fun _ i _ => n - (intOf i).toNat)
  case atStart => exact ⟨0, _, _, [], Nat.zero_le _, rfl, rfl, rfl, o0, C0, G0⟩
  case round =>
    obtain ⟨k, ad, c, ws, hk, rfl, rfl, hb, ho, C, G⟩ := hrel
    by_cases hlt : k < n
    · have hi' : (k : Int) < (n : Int) := by omega
      have HB : Hid (ws.length = k) := hb
      clear o0 C0 G0 hb
      go_wp2_with fail
      refine (l1Below_any w0 a cap zs _ g _ (by decide) C).mono ?_
      rintro e w1 ⟨x, rfl, _, C1, g1⟩
      have I1 := ints_lit w1 [0, 1, 65535, 256, x] 3
      have C1' := C1.alloc (.cells ([0, 1, 65535, 256, x].map (Value.int .i64)).toArray 3)
      have g1' : wr.grownBy (w1.alloc (.cells ([0, 1, 65535, 256, x].map (Value.int .i64)).toArray 3)) (some g) := grown_trans g1 (World.grownBy_alloc _ _ _)
      have hneg : w1.heap.size ≠ g := by have := C1.hi; omega
      clear C1 g1
      go_wp2_with fail
      refine (l1Int_any w0 a cap zs _ g ⟨w1.heap.size, 0, none⟩ 5 5 [0, 1, 65535, 256, x] rfl (by omega) (by omega) I1 hneg C1').mono ?_
      rintro e w2 ⟨y, rfl, _, C2, g2⟩
      have gg := grown_trans g1' g2
      have ho1 : OwnI w2 w.heap.size (.slice ad k c) ws := ho.kept gg (.inr (fun e => by have := (World.ownsRow.lt ho g e).1; omega))
      have HLn : Hid (ws.length + 1 ≤ 4000000) := by show ws.length + 1 ≤ 4000000; rw [HB.out]; omega
      have hsz : w.heap.size ≤ w2.heap.size := Nat.le_trans G.size gg.size
      clear I1 C1' g1' g2
      go_wp2_with (at_builtin; refine wpList_appI rfl (.tmp 13) (.tmp 19) rfl w.heap.size (.slice ad k c) ws rfl (ho1.below (bel_alloc _ _)) ⟨w2.heap.size, 0, none⟩ 1 1 [y] rfl rfl (lit_slI1' _ _ rfl) HLn.out (by simp; omega) ?_; intro v' w3 o3 g3)
      obtain ⟨R1, R2, R3⟩ := ints_step hg G ho C2 gg o3 g3 hlo
      obtain ⟨ad', c', n', hv, hn'⟩ := ownI_shape R1
      have en : n' = k + 1 := by rw [hn', List.length_append, HB.out]; rfl
      subst en
      subst hv
      clear o3 g3 ho1 ho C2 gg
      go_roundw
      case rel => exact ⟨k + 1, ad', c', ws ++ [y], by omega, by go_num, rfl, by rw [List.length_append, HB.out]; rfl, R1, R2, R3⟩
      case measure => simp [intOf]; omega
    · obtain rfl : k = n := by omega
      clear o0 C0 G0
      go_wp2
      go_ret
      exact ⟨ad, c, ws, rfl, hb.symm, ho, C, G⟩
end Go.Proofs.Ytfdddkjonjpgpaa
namespace Go.Proofs.Ytfdddkjonjpgpaa
open Go.RowKit
set_option linter.unusedVariables false
set_option linter.unusedSimpArgs false
theorem grown_setHi {w u : World} {g G j : Nat} {y : Value} (h : w.grownBy u (some g)) (hG : w.heap.size ≤ G) : w.grownBy (u.setCell ⟨G, j, none⟩ y) (some g) :=
  ⟨h.os, h.tape, h.output, by simpa [World.setCell] using h.size, fun k hk hne => (Below.heap_setCell _ _ _ _ (by show k ≠ G; omega)).trans (h.block k hk hne)⟩
theorem row_ne_g {u : World} {B size n g : Nat} {e : TypeId} {v : Value} {xs : List Value} (h : u.ownsRow B e size v n xs) (hg : g < B) : v.ownBlock = none ∨ v.ownBlock ≠ some g :=
  .inr (fun e => by have := (World.ownsRow.lt h g e).1; omega)
theorem Cur.setHi {w0 u : World} {a : Option Addr} {cap g G j : Nat} {zs : List Int} {y : Value} (h : Cur w0 a cap zs u g) (hne : g ≠ G) (hlo : w0.heap.size ≤ G) : Cur w0 a cap zs (u.setCell ⟨G, j, none⟩ y) g :=
  h.grown (grown_setj u G j y) (by simpa using hne) (fun k hk => by simp at hk; omega)
theorem l3List_at (w0 : World) (a : Option Addr) (cap : Nat) (zs : List Int) (w : World) (g : Nat) (x : Int) (n : Nat) (hx : x = (n : Int)) (hn : n ≤ 1000) (hC : Cur w0 a cap zs w g) :
    Calls Try.prog 59 #[.pointer (some ⟨g, 0, none⟩), .int .i64 x] w fun e w' => DrawnInts w0 a cap zs w g n e w' := by
  subst hx
  exact l3List_any w0 a cap zs w g n hn hC
theorem l2Bits_at (w0 : World) (a : Option Addr) (cap : Nat) (zs : List Int) (w : World) (g : Nat) (x : Int) (n : Nat) (hx : x = (n : Int)) (hn : n ≤ 1000) (hC : Cur w0 a cap zs w g) :
    Calls Try.prog 58 #[.pointer (some ⟨g, 0, none⟩), .int .i64 x] w fun e w' => DrawnBits w0 a cap zs w g n e w' := by
  subst hx
  exact l2Bits_any w0 a cap zs w g n (by omega) hC
def DrawnReq (w0 : World) (a : Option Addr) (cap : Nat) (zs : List Int) (w : World) (g : Nat) (e : Ending) (w' : World) : Prop :=
  ∃ (kd pl nn wa : Int) (a1 a2 : Option Addr) (l1 l2 c1 c2 : Nat) (ws : List Int) (bs : List Bool), e = .returned (rq kd pl nn wa a1 a2 l1 l2 c1 c2) ∧ l1 = ws.length ∧ l2 = bs.length ∧ l1 ≤ 200 ∧ l2 ≤ 2000 ∧ OwnI w' w.heap.size (.slice a1 l1 c1) ws ∧ OwnB w' w.heap.size (.slice a2 l2 c2) bs ∧ Cur w0 a cap zs w' g ∧ w.grownBy w' (some g)
set_option maxRecDepth 20000 in
set_option maxHeartbeats 16000000 in
theorem l3Draw_any (w0 : World) (a : Option Addr) (cap : Nat) (zs : List Int) (w : World) (g : Nat) (nr : Int) (hnr : 0 ≤ nr ∧ nr ≤ 100) (hC : Cur w0 a cap zs w g) :
    Calls Try.prog 29 #[.pointer (some ⟨g, 0, none⟩), .int .i64 nr] w fun e w' => DrawnReq w0 a cap zs w g e w' := by
  obtain ⟨W0, hW0⟩ : ∃ W0, W0 = w.alloc (.cells #[.int .i64 0, .int .i64 0, .int .i64 0, .slice none 0 0, .slice none 0 0, .int .i64 0] 57) := ⟨_, rfl⟩
  have HW : Hid (W0 = _) := hW0
  have hg := hC.hi
  have hlo := hC.lo
  have C0 : Cur w0 a cap zs W0 g := by rw [hW0]; exact hC.alloc _
  have G0 : w.grownBy W0 (some g) := by rw [hW0]; exact World.grownBy_alloc _ _ _
  have R0 : Blk W0 w.heap.size 57 #[.int .i64 0, .int .i64 0, .int .i64 0, .slice none 0 0, .slice none 0 0, .int .i64 0] := by rw [hW0]; exact Blk.new _ _ _
  have I1 := ints_lit W0 [1, 2, 3, 4, 5, 6, 15, 16, 22, 23, 3, 16] 3
  have C1 := C0.alloc (.cells ([1, 2, 3, 4, 5, 6, 15, 16, 22, 23, 3, 16].map (Value.int .i64)).toArray 3)
  have G1 : w.grownBy (W0.alloc (.cells ([1, 2, 3, 4, 5, 6, 15, 16, 22, 23, 3, 16].map (Value.int .i64)).toArray 3)) (some g) := grown_trans G0 (World.grownBy_alloc _ _ _)
  have R1 := R0.below (bel_alloc W0 (.cells ([1, 2, 3, 4, 5, 6, 15, 16, 22, 23, 3, 16].map (Value.int .i64)).toArray 3))
  have hne1 : W0.heap.size ≠ g := by have := C0.hi; omega
  have HGR : Hid (g < w.heap.size ∧ w0.heap.size ≤ g) := ⟨hg, hlo⟩
  clear hC hW0 C0 G0 R0 hlo
  go_enter Try.func29, Try.ntmps29
  go_upto_region 1 with fail
  rw [← HW.out]
  go_wp2_with fail
  refine (l1Int_any w0 a cap zs _ g ⟨W0.heap.size, 0, none⟩ 12 12 [1, 2, 3, 4, 5, 6, 15, 16, 22, 23, 3, 16] rfl (by omega) (by omega) I1 hne1 C1).mono ?_
  rintro e u1 ⟨kd, rfl, hkd, C2, g2⟩
  have G2 := grown_trans G1 g2
  have R2 := R1.grown g2 (by simp; omega)
  have hk : kd = 1 ∨ kd = 2 ∨ kd = 3 ∨ kd = 4 ∨ kd = 5 ∨ kd = 6 ∨ kd = 15 ∨ kd = 16 ∨ kd = 22 ∨ kd = 23 := by simp at hkd; omega
  clear I1 C1 G1 R1 g2 hne1 hkd
  go_wp2_with fail
  refine (l1Below_any w0 a cap zs _ g _ (by decide) C2).mono ?_
  rintro e u2 ⟨p, rfl, hp, C3, g3⟩
  have G3 := grown_trans G2 g3
  have R3 := R2.grown g3 (by simp; omega)
  clear C2 G2 R2 g3
  obtain rfl | rfl | rfl | rfl | rfl | rfl | rfl | rfl | rfl | rfl := hk
  · skip
    obtain ⟨u3, hu3⟩ : ∃ u3, u3 = u2.alloc (.cells #[.int .i64 1, .int .i64 (nr + p), .int .i64 0, .slice none 0 0, .slice none 0 0, .int .i64 0] 57) := ⟨_, rfl⟩
    have HU : Hid (u3 = _) := hu3
    obtain ⟨B, hB⟩ : ∃ B, B = u2.heap.size := ⟨_, rfl⟩
    have HBe : Hid (B = u2.heap.size) := hB
    have HB : Hid (w.heap.size < B) := by show w.heap.size < B; have := R3.lt; omega
    have C4 : Cur w0 a cap zs u3 g := by rw [hu3]; exact C3.alloc _
    have G4 : w.grownBy u3 (some g) := by rw [hu3]; exact grown_trans G3 (World.grownBy_alloc _ _ _)
    have R4 : Blk u3 w.heap.size 57 #[.int .i64 0, .int .i64 0, .int .i64 0, .slice none 0 0, .slice none 0 0, .int .i64 0] := by rw [hu3]; exact R3.below (bel_alloc _ _)
    have Q4 : Blk u3 B 57 #[.int .i64 1, .int .i64 (nr + p), .int .i64 0, .slice none 0 0, .slice none 0 0, .int .i64 0] := by rw [hu3, hB]; exact Blk.new _ _ _
    clear C3 G3 R3 hu3 hB
    go_upto_region 2 with fail
    rw [← HU.out]
    simp only [← HBe.out]
    go_wp2_with fail
    refine (l1Below_any w0 a cap zs _ g _ (by decide) C4).mono ?_
    rintro e t5 ⟨x, rfl, hx, C5, gg⟩
    have G5 := grown_trans G4 gg
    have R5 := R4.grown gg (by have := HGR.out; simp; omega)
    have Q5 := Q4.grown gg (by have := HGR.out; have := HB.out; simp; omega)
    clear C4 R4 Q4 gg
    clear G4
    have k0 := Q5.cell 0 rfl
    go_upto_region 4 with fail
    have qc := Q5.cell 2 rfl
    have qf := Q5.fro 2
    have Q6 := Q5.set 2 (.int .i64 (1 + x))
    have R6 := R5.setNe (g' := B) (j := 2) (y := .int .i64 (1 + x)) (by have := HB.out; omega)
    have C6 := C5.setHi (G := B) (j := 2) (y := .int .i64 (1 + x)) (by have := HB.out; have := HGR.out; omega) (by have := HB.out; have := HGR.out; omega)
    have G6 := grown_setHi (G := B) (j := 2) (y := .int .i64 (1 + x)) G5 (by have := HB.out; omega)
    go_upto_region 19 with fail
    obtain ⟨v6, hv6⟩ : ∃ v6, v6 = t5.setCell ⟨B, 2, none⟩ (.int .i64 (1 + x)) := ⟨_, rfl⟩
    rw [← hv6] at Q6 R6 C6 G6 ⊢
    clear hv6 qc qf Q5 R5 C5 G5
    obtain ⟨q0, q1, q2, q3, q4, q5⟩ := Q6.six
    obtain ⟨y0, y1, y2, y3, y4, y5⟩ := R6.six
    have fy := R6.fro
    have OI : OwnI v6 w.heap.size (.slice none 0 0) [] := (ownI_nil _ _)
    have OB : OwnB v6 w.heap.size (.slice none 0 0) [] := (ownB_nil _ _)
    have HH : Hid (OwnI v6 w.heap.size (.slice none 0 0) [] ∧ OwnB v6 w.heap.size (.slice none 0 0) [] ∧ Cur w0 a cap zs v6 g ∧ w.grownBy v6 (some g) ∧ Blk v6 w.heap.size 57 #[.int .i64 0, .int .i64 0, .int .i64 0, .slice none 0 0, .slice none 0 0, .int .i64 0]) := ⟨OI, OB, C6, G6, R6⟩
    clear OI OB C6 G6 R6 Q6
    go_wp2
    refine bodyPost_ret (v := rq 1 (nr + p) ((1 + x)) (0) none none 0 0 0 0) (by simp [results, Try.results29, go_sem, y0, y1, y2, y3, y4, y5]) rfl ?_
    obtain ⟨OI, OB, CE, GE, RE⟩ := HH.out
    have hgR : g ≠ w.heap.size := by have := HGR.out; omega
    have hwR : w0.heap.size ≤ w.heap.size := by have := HGR.out; omega
    exact ⟨_, _, _, _, _, _, _, _, _, _, [], [], rfl, rfl, rfl, by first | omega | (have := HM.out; omega), by first | omega | (have := HM.out; omega), rowp_set6 OI ⟨_, RE⟩ (by decide), rowp_set6 OB ⟨_, RE⟩ (by decide), (((((CE.setHi hgR hwR).setHi hgR hwR).setHi hgR hwR).setHi hgR hwR).setHi hgR hwR).setHi hgR hwR, grown_setHi (grown_setHi (grown_setHi (grown_setHi (grown_setHi (grown_setHi GE (Nat.le_refl _)) (Nat.le_refl _)) (Nat.le_refl _)) (Nat.le_refl _)) (Nat.le_refl _)) (Nat.le_refl _)⟩
  · skip
    obtain ⟨u3, hu3⟩ : ∃ u3, u3 = u2.alloc (.cells #[.int .i64 2, .int .i64 (nr + p), .int .i64 0, .slice none 0 0, .slice none 0 0, .int .i64 0] 57) := ⟨_, rfl⟩
    have HU : Hid (u3 = _) := hu3
    obtain ⟨B, hB⟩ : ∃ B, B = u2.heap.size := ⟨_, rfl⟩
    have HBe : Hid (B = u2.heap.size) := hB
    have HB : Hid (w.heap.size < B) := by show w.heap.size < B; have := R3.lt; omega
    have C4 : Cur w0 a cap zs u3 g := by rw [hu3]; exact C3.alloc _
    have G4 : w.grownBy u3 (some g) := by rw [hu3]; exact grown_trans G3 (World.grownBy_alloc _ _ _)
    have R4 : Blk u3 w.heap.size 57 #[.int .i64 0, .int .i64 0, .int .i64 0, .slice none 0 0, .slice none 0 0, .int .i64 0] := by rw [hu3]; exact R3.below (bel_alloc _ _)
    have Q4 : Blk u3 B 57 #[.int .i64 2, .int .i64 (nr + p), .int .i64 0, .slice none 0 0, .slice none 0 0, .int .i64 0] := by rw [hu3, hB]; exact Blk.new _ _ _
    clear C3 G3 R3 hu3 hB
    go_upto_region 2 with fail
    rw [← HU.out]
    simp only [← HBe.out]
    go_wp2_with fail
    refine (l1Below_any w0 a cap zs _ g _ (by decide) C4).mono ?_
    rintro e t5 ⟨x, rfl, hx, C5, gg⟩
    have G5 := grown_trans G4 gg
    have R5 := R4.grown gg (by have := HGR.out; simp; omega)
    have Q5 := Q4.grown gg (by have := HGR.out; have := HB.out; simp; omega)
    clear C4 R4 Q4 gg
    clear G4
    have k0 := Q5.cell 0 rfl
    go_upto_region 4 with fail
    have qc := Q5.cell 2 rfl
    have qf := Q5.fro 2
    have Q6 := Q5.set 2 (.int .i64 (1 + x))
    have R6 := R5.setNe (g' := B) (j := 2) (y := .int .i64 (1 + x)) (by have := HB.out; omega)
    have C6 := C5.setHi (G := B) (j := 2) (y := .int .i64 (1 + x)) (by have := HB.out; have := HGR.out; omega) (by have := HB.out; have := HGR.out; omega)
    have G6 := grown_setHi (G := B) (j := 2) (y := .int .i64 (1 + x)) G5 (by have := HB.out; omega)
    go_upto_region 19 with fail
    obtain ⟨v6, hv6⟩ : ∃ v6, v6 = t5.setCell ⟨B, 2, none⟩ (.int .i64 (1 + x)) := ⟨_, rfl⟩
    rw [← hv6] at Q6 R6 C6 G6 ⊢
    clear hv6 qc qf Q5 R5 C5 G5
    obtain ⟨q0, q1, q2, q3, q4, q5⟩ := Q6.six
    obtain ⟨y0, y1, y2, y3, y4, y5⟩ := R6.six
    have fy := R6.fro
    have OI : OwnI v6 w.heap.size (.slice none 0 0) [] := (ownI_nil _ _)
    have OB : OwnB v6 w.heap.size (.slice none 0 0) [] := (ownB_nil _ _)
    have HH : Hid (OwnI v6 w.heap.size (.slice none 0 0) [] ∧ OwnB v6 w.heap.size (.slice none 0 0) [] ∧ Cur w0 a cap zs v6 g ∧ w.grownBy v6 (some g) ∧ Blk v6 w.heap.size 57 #[.int .i64 0, .int .i64 0, .int .i64 0, .slice none 0 0, .slice none 0 0, .int .i64 0]) := ⟨OI, OB, C6, G6, R6⟩
    clear OI OB C6 G6 R6 Q6
    go_wp2
    refine bodyPost_ret (v := rq 2 (nr + p) ((1 + x)) (0) none none 0 0 0 0) (by simp [results, Try.results29, go_sem, y0, y1, y2, y3, y4, y5]) rfl ?_
    obtain ⟨OI, OB, CE, GE, RE⟩ := HH.out
    have hgR : g ≠ w.heap.size := by have := HGR.out; omega
    have hwR : w0.heap.size ≤ w.heap.size := by have := HGR.out; omega
    exact ⟨_, _, _, _, _, _, _, _, _, _, [], [], rfl, rfl, rfl, by first | omega | (have := HM.out; omega), by first | omega | (have := HM.out; omega), rowp_set6 OI ⟨_, RE⟩ (by decide), rowp_set6 OB ⟨_, RE⟩ (by decide), (((((CE.setHi hgR hwR).setHi hgR hwR).setHi hgR hwR).setHi hgR hwR).setHi hgR hwR).setHi hgR hwR, grown_setHi (grown_setHi (grown_setHi (grown_setHi (grown_setHi (grown_setHi GE (Nat.le_refl _)) (Nat.le_refl _)) (Nat.le_refl _)) (Nat.le_refl _)) (Nat.le_refl _)) (Nat.le_refl _)⟩
  · skip
    obtain ⟨u3, hu3⟩ : ∃ u3, u3 = u2.alloc (.cells #[.int .i64 3, .int .i64 (nr + p), .int .i64 0, .slice none 0 0, .slice none 0 0, .int .i64 0] 57) := ⟨_, rfl⟩
    have HU : Hid (u3 = _) := hu3
    obtain ⟨B, hB⟩ : ∃ B, B = u2.heap.size := ⟨_, rfl⟩
    have HBe : Hid (B = u2.heap.size) := hB
    have HB : Hid (w.heap.size < B) := by show w.heap.size < B; have := R3.lt; omega
    have C4 : Cur w0 a cap zs u3 g := by rw [hu3]; exact C3.alloc _
    have G4 : w.grownBy u3 (some g) := by rw [hu3]; exact grown_trans G3 (World.grownBy_alloc _ _ _)
    have R4 : Blk u3 w.heap.size 57 #[.int .i64 0, .int .i64 0, .int .i64 0, .slice none 0 0, .slice none 0 0, .int .i64 0] := by rw [hu3]; exact R3.below (bel_alloc _ _)
    have Q4 : Blk u3 B 57 #[.int .i64 3, .int .i64 (nr + p), .int .i64 0, .slice none 0 0, .slice none 0 0, .int .i64 0] := by rw [hu3, hB]; exact Blk.new _ _ _
    clear C3 G3 R3 hu3 hB
    go_upto_region 2 with fail
    rw [← HU.out]
    simp only [← HBe.out]
    go_wp2_with fail
    refine (l1Below_any w0 a cap zs _ g _ (by decide) C4).mono ?_
    rintro e t5 ⟨x, rfl, hx, C5, gg⟩
    have G5 := grown_trans G4 gg
    have R5 := R4.grown gg (by have := HGR.out; simp; omega)
    have Q5 := Q4.grown gg (by have := HGR.out; have := HB.out; simp; omega)
    clear C4 R4 Q4 gg
    clear G4
    have k0 := Q5.cell 0 rfl
    go_upto_region 4 with fail
    have qc := Q5.cell 2 rfl
    have qf := Q5.fro 2
    have Q6 := Q5.set 2 (.int .i64 (1 + x))
    have R6 := R5.setNe (g' := B) (j := 2) (y := .int .i64 (1 + x)) (by have := HB.out; omega)
    have C6 := C5.setHi (G := B) (j := 2) (y := .int .i64 (1 + x)) (by have := HB.out; have := HGR.out; omega) (by have := HB.out; have := HGR.out; omega)
    have G6 := grown_setHi (G := B) (j := 2) (y := .int .i64 (1 + x)) G5 (by have := HB.out; omega)
    go_upto_region 19 with fail
    obtain ⟨v6, hv6⟩ : ∃ v6, v6 = t5.setCell ⟨B, 2, none⟩ (.int .i64 (1 + x)) := ⟨_, rfl⟩
    rw [← hv6] at Q6 R6 C6 G6 ⊢
    clear hv6 qc qf Q5 R5 C5 G5
    obtain ⟨q0, q1, q2, q3, q4, q5⟩ := Q6.six
    obtain ⟨y0, y1, y2, y3, y4, y5⟩ := R6.six
    have fy := R6.fro
    have OI : OwnI v6 w.heap.size (.slice none 0 0) [] := (ownI_nil _ _)
    have OB : OwnB v6 w.heap.size (.slice none 0 0) [] := (ownB_nil _ _)
    have HH : Hid (OwnI v6 w.heap.size (.slice none 0 0) [] ∧ OwnB v6 w.heap.size (.slice none 0 0) [] ∧ Cur w0 a cap zs v6 g ∧ w.grownBy v6 (some g) ∧ Blk v6 w.heap.size 57 #[.int .i64 0, .int .i64 0, .int .i64 0, .slice none 0 0, .slice none 0 0, .int .i64 0]) := ⟨OI, OB, C6, G6, R6⟩
    clear OI OB C6 G6 R6 Q6
    go_wp2
    refine bodyPost_ret (v := rq 3 (nr + p) ((1 + x)) (0) none none 0 0 0 0) (by simp [results, Try.results29, go_sem, y0, y1, y2, y3, y4, y5]) rfl ?_
    obtain ⟨OI, OB, CE, GE, RE⟩ := HH.out
    have hgR : g ≠ w.heap.size := by have := HGR.out; omega
    have hwR : w0.heap.size ≤ w.heap.size := by have := HGR.out; omega
    exact ⟨_, _, _, _, _, _, _, _, _, _, [], [], rfl, rfl, rfl, by first | omega | (have := HM.out; omega), by first | omega | (have := HM.out; omega), rowp_set6 OI ⟨_, RE⟩ (by decide), rowp_set6 OB ⟨_, RE⟩ (by decide), (((((CE.setHi hgR hwR).setHi hgR hwR).setHi hgR hwR).setHi hgR hwR).setHi hgR hwR).setHi hgR hwR, grown_setHi (grown_setHi (grown_setHi (grown_setHi (grown_setHi (grown_setHi GE (Nat.le_refl _)) (Nat.le_refl _)) (Nat.le_refl _)) (Nat.le_refl _)) (Nat.le_refl _)) (Nat.le_refl _)⟩
  · skip
    obtain ⟨u3, hu3⟩ : ∃ u3, u3 = u2.alloc (.cells #[.int .i64 4, .int .i64 (nr + p), .int .i64 0, .slice none 0 0, .slice none 0 0, .int .i64 0] 57) := ⟨_, rfl⟩
    have HU : Hid (u3 = _) := hu3
    obtain ⟨B, hB⟩ : ∃ B, B = u2.heap.size := ⟨_, rfl⟩
    have HBe : Hid (B = u2.heap.size) := hB
    have HB : Hid (w.heap.size < B) := by show w.heap.size < B; have := R3.lt; omega
    have C4 : Cur w0 a cap zs u3 g := by rw [hu3]; exact C3.alloc _
    have G4 : w.grownBy u3 (some g) := by rw [hu3]; exact grown_trans G3 (World.grownBy_alloc _ _ _)
    have R4 : Blk u3 w.heap.size 57 #[.int .i64 0, .int .i64 0, .int .i64 0, .slice none 0 0, .slice none 0 0, .int .i64 0] := by rw [hu3]; exact R3.below (bel_alloc _ _)
    have Q4 : Blk u3 B 57 #[.int .i64 4, .int .i64 (nr + p), .int .i64 0, .slice none 0 0, .slice none 0 0, .int .i64 0] := by rw [hu3, hB]; exact Blk.new _ _ _
    clear C3 G3 R3 hu3 hB
    go_upto_region 2 with fail
    rw [← HU.out]
    simp only [← HBe.out]
    go_wp2_with fail
    refine (l1Below_any w0 a cap zs _ g _ (by decide) C4).mono ?_
    rintro e t5 ⟨x, rfl, hx, C5, gg⟩
    have G5 := grown_trans G4 gg
    have R5 := R4.grown gg (by have := HGR.out; simp; omega)
    have Q5 := Q4.grown gg (by have := HGR.out; have := HB.out; simp; omega)
    clear C4 R4 Q4 gg
    clear G4
    have k0 := Q5.cell 0 rfl
    go_upto_region 4 with fail
    have qc := Q5.cell 2 rfl
    have qf := Q5.fro 2
    have Q6 := Q5.set 2 (.int .i64 (1 + x))
    have R6 := R5.setNe (g' := B) (j := 2) (y := .int .i64 (1 + x)) (by have := HB.out; omega)
    have C6 := C5.setHi (G := B) (j := 2) (y := .int .i64 (1 + x)) (by have := HB.out; have := HGR.out; omega) (by have := HB.out; have := HGR.out; omega)
    have G6 := grown_setHi (G := B) (j := 2) (y := .int .i64 (1 + x)) G5 (by have := HB.out; omega)
    go_upto_region 19 with fail
    obtain ⟨v6, hv6⟩ : ∃ v6, v6 = t5.setCell ⟨B, 2, none⟩ (.int .i64 (1 + x)) := ⟨_, rfl⟩
    rw [← hv6] at Q6 R6 C6 G6 ⊢
    clear hv6 qc qf Q5 R5 C5 G5
    obtain ⟨q0, q1, q2, q3, q4, q5⟩ := Q6.six
    obtain ⟨y0, y1, y2, y3, y4, y5⟩ := R6.six
    have fy := R6.fro
    have OI : OwnI v6 w.heap.size (.slice none 0 0) [] := (ownI_nil _ _)
    have OB : OwnB v6 w.heap.size (.slice none 0 0) [] := (ownB_nil _ _)
    have HH : Hid (OwnI v6 w.heap.size (.slice none 0 0) [] ∧ OwnB v6 w.heap.size (.slice none 0 0) [] ∧ Cur w0 a cap zs v6 g ∧ w.grownBy v6 (some g) ∧ Blk v6 w.heap.size 57 #[.int .i64 0, .int .i64 0, .int .i64 0, .slice none 0 0, .slice none 0 0, .int .i64 0]) := ⟨OI, OB, C6, G6, R6⟩
    clear OI OB C6 G6 R6 Q6
    go_wp2
    refine bodyPost_ret (v := rq 4 (nr + p) ((1 + x)) (0) none none 0 0 0 0) (by simp [results, Try.results29, go_sem, y0, y1, y2, y3, y4, y5]) rfl ?_
    obtain ⟨OI, OB, CE, GE, RE⟩ := HH.out
    have hgR : g ≠ w.heap.size := by have := HGR.out; omega
    have hwR : w0.heap.size ≤ w.heap.size := by have := HGR.out; omega
    exact ⟨_, _, _, _, _, _, _, _, _, _, [], [], rfl, rfl, rfl, by first | omega | (have := HM.out; omega), by first | omega | (have := HM.out; omega), rowp_set6 OI ⟨_, RE⟩ (by decide), rowp_set6 OB ⟨_, RE⟩ (by decide), (((((CE.setHi hgR hwR).setHi hgR hwR).setHi hgR hwR).setHi hgR hwR).setHi hgR hwR).setHi hgR hwR, grown_setHi (grown_setHi (grown_setHi (grown_setHi (grown_setHi (grown_setHi GE (Nat.le_refl _)) (Nat.le_refl _)) (Nat.le_refl _)) (Nat.le_refl _)) (Nat.le_refl _)) (Nat.le_refl _)⟩
  · skip
    obtain ⟨u3, hu3⟩ : ∃ u3, u3 = u2.alloc (.cells #[.int .i64 5, .int .i64 (nr + p), .int .i64 0, .slice none 0 0, .slice none 0 0, .int .i64 0] 57) := ⟨_, rfl⟩
    have HU : Hid (u3 = _) := hu3
    obtain ⟨B, hB⟩ : ∃ B, B = u2.heap.size := ⟨_, rfl⟩
    have HBe : Hid (B = u2.heap.size) := hB
    have HB : Hid (w.heap.size < B) := by show w.heap.size < B; have := R3.lt; omega
    have C4 : Cur w0 a cap zs u3 g := by rw [hu3]; exact C3.alloc _
    have G4 : w.grownBy u3 (some g) := by rw [hu3]; exact grown_trans G3 (World.grownBy_alloc _ _ _)
    have R4 : Blk u3 w.heap.size 57 #[.int .i64 0, .int .i64 0, .int .i64 0, .slice none 0 0, .slice none 0 0, .int .i64 0] := by rw [hu3]; exact R3.below (bel_alloc _ _)
    have Q4 : Blk u3 B 57 #[.int .i64 5, .int .i64 (nr + p), .int .i64 0, .slice none 0 0, .slice none 0 0, .int .i64 0] := by rw [hu3, hB]; exact Blk.new _ _ _
    clear C3 G3 R3 hu3 hB
    go_upto_region 2 with fail
    rw [← HU.out]
    simp only [← HBe.out]
    go_wp2_with fail
    refine (l1Below_any w0 a cap zs _ g _ (by decide) C4).mono ?_
    rintro e t5 ⟨x, rfl, hx, C5, gg⟩
    have G5 := grown_trans G4 gg
    have R5 := R4.grown gg (by have := HGR.out; simp; omega)
    have Q5 := Q4.grown gg (by have := HGR.out; have := HB.out; simp; omega)
    clear C4 R4 Q4 gg
    clear G4
    have k0 := Q5.cell 0 rfl
    go_upto_region 6 with fail
    go_wp2_with fail
    refine (l2Bits_at w0 a cap zs _ g _ 1 rfl (by omega) C5).mono ?_
    rintro e t6 ⟨a', c', bs, rfl, hbs, oj, C6, gg⟩
    have G6 := grown_trans G5 gg
    have R6 := R5.grown gg (by have := HGR.out; simp; omega)
    have Q6 := Q5.grown gg (by have := HGR.out; have := HB.out; simp; omega)
    clear C5 R5 Q5 gg
    have J6 := OwnB.mono oj G5.size
    have HBs : Hid (_ = bs.length) := hbs
    clear oj hbs G5
    have qc := Q6.cell 4 rfl
    have qf := Q6.fro 4
    have Q7 := Q6.set 4 (.slice (some a') 1 c')
    have R7 := R6.setNe (g' := B) (j := 4) (y := .slice (some a') 1 c') (by have := HB.out; omega)
    have C7 := C6.setHi (G := B) (j := 4) (y := .slice (some a') 1 c') (by have := HB.out; have := HGR.out; omega) (by have := HB.out; have := HGR.out; omega)
    have G7 := grown_setHi (G := B) (j := 4) (y := .slice (some a') 1 c') G6 (by have := HB.out; omega)
    have J7 := row_setE (j := 4) (y := .slice (some a') 1 c') J6 ⟨_, Q6⟩ (by decide)
    go_upto_region 19 with fail
    obtain ⟨v7, hv7⟩ : ∃ v7, v7 = t6.setCell ⟨B, 4, none⟩ (.slice (some a') 1 c') := ⟨_, rfl⟩
    rw [← hv7] at Q7 R7 C7 G7 J7 ⊢
    clear hv7 qc qf Q6 R6 C6 G6 J6
    obtain ⟨q0, q1, q2, q3, q4, q5⟩ := Q7.six
    obtain ⟨y0, y1, y2, y3, y4, y5⟩ := R7.six
    have fy := R7.fro
    have OI : OwnI v7 w.heap.size (.slice none 0 0) [] := (ownI_nil _ _)
    have OB : OwnB v7 w.heap.size (.slice (some a') 1 c') bs := J7
    have HH : Hid (OwnI v7 w.heap.size (.slice none 0 0) [] ∧ OwnB v7 w.heap.size (.slice (some a') 1 c') bs ∧ Cur w0 a cap zs v7 g ∧ w.grownBy v7 (some g) ∧ Blk v7 w.heap.size 57 #[.int .i64 0, .int .i64 0, .int .i64 0, .slice none 0 0, .slice none 0 0, .int .i64 0]) := ⟨OI, OB, C7, G7, R7⟩
    clear OI OB C7 G7 R7 Q7 J7
    go_wp2
    refine bodyPost_ret (v := rq 5 (nr + p) (0) (0) none (some a') 0 1 0 c') (by simp [results, Try.results29, go_sem, y0, y1, y2, y3, y4, y5]) rfl ?_
    obtain ⟨OI, OB, CE, GE, RE⟩ := HH.out
    have hgR : g ≠ w.heap.size := by have := HGR.out; omega
    have hwR : w0.heap.size ≤ w.heap.size := by have := HGR.out; omega
    exact ⟨_, _, _, _, _, _, _, _, _, _, [], bs, rfl, rfl, HBs.out, by first | omega | (have := HM.out; omega), by first | omega | (have := HM.out; omega), rowp_set6 OI ⟨_, RE⟩ (by decide), rowp_set6 OB ⟨_, RE⟩ (by decide), (((((CE.setHi hgR hwR).setHi hgR hwR).setHi hgR hwR).setHi hgR hwR).setHi hgR hwR).setHi hgR hwR, grown_setHi (grown_setHi (grown_setHi (grown_setHi (grown_setHi (grown_setHi GE (Nat.le_refl _)) (Nat.le_refl _)) (Nat.le_refl _)) (Nat.le_refl _)) (Nat.le_refl _)) (Nat.le_refl _)⟩
  · skip
    obtain ⟨u3, hu3⟩ : ∃ u3, u3 = u2.alloc (.cells #[.int .i64 6, .int .i64 (nr + p), .int .i64 0, .slice none 0 0, .slice none 0 0, .int .i64 0] 57) := ⟨_, rfl⟩
    have HU : Hid (u3 = _) := hu3
    obtain ⟨B, hB⟩ : ∃ B, B = u2.heap.size := ⟨_, rfl⟩
    have HBe : Hid (B = u2.heap.size) := hB
    have HB : Hid (w.heap.size < B) := by show w.heap.size < B; have := R3.lt; omega
    have C4 : Cur w0 a cap zs u3 g := by rw [hu3]; exact C3.alloc _
    have G4 : w.grownBy u3 (some g) := by rw [hu3]; exact grown_trans G3 (World.grownBy_alloc _ _ _)
    have R4 : Blk u3 w.heap.size 57 #[.int .i64 0, .int .i64 0, .int .i64 0, .slice none 0 0, .slice none 0 0, .int .i64 0] := by rw [hu3]; exact R3.below (bel_alloc _ _)
    have Q4 : Blk u3 B 57 #[.int .i64 6, .int .i64 (nr + p), .int .i64 0, .slice none 0 0, .slice none 0 0, .int .i64 0] := by rw [hu3, hB]; exact Blk.new _ _ _
    clear C3 G3 R3 hu3 hB
    go_upto_region 2 with fail
    rw [← HU.out]
    simp only [← HBe.out]
    go_wp2_with fail
    refine (l1Below_any w0 a cap zs _ g _ (by decide) C4).mono ?_
    rintro e t5 ⟨x, rfl, hx, C5, gg⟩
    have G5 := grown_trans G4 gg
    have R5 := R4.grown gg (by have := HGR.out; simp; omega)
    have Q5 := Q4.grown gg (by have := HGR.out; have := HB.out; simp; omega)
    clear C4 R4 Q4 gg
    clear G4
    have k0 := Q5.cell 0 rfl
    go_upto_region 8 with fail
    go_wp2_with fail
    refine (l3List_at w0 a cap zs _ g _ 1 rfl (by omega) C5).mono ?_
    rintro e t6 ⟨a', c', ws, rfl, hws, oi, C6, gg⟩
    have G6 := grown_trans G5 gg
    have R6 := R5.grown gg (by have := HGR.out; simp; omega)
    have Q6 := Q5.grown gg (by have := HGR.out; have := HB.out; simp; omega)
    clear C5 R5 Q5 gg
    have I6 := OwnI.mono oi G5.size
    have HWs : Hid (_ = ws.length) := hws
    clear oi hws G5
    have qc := Q6.cell 3 rfl
    have qf := Q6.fro 3
    have Q7 := Q6.set 3 (.slice a' 1 c')
    have R7 := R6.setNe (g' := B) (j := 3) (y := .slice a' 1 c') (by have := HB.out; omega)
    have C7 := C6.setHi (G := B) (j := 3) (y := .slice a' 1 c') (by have := HB.out; have := HGR.out; omega) (by have := HB.out; have := HGR.out; omega)
    have G7 := grown_setHi (G := B) (j := 3) (y := .slice a' 1 c') G6 (by have := HB.out; omega)
    have I7 := row_setE (j := 3) (y := .slice a' 1 c') I6 ⟨_, Q6⟩ (by decide)
    go_upto_region 19 with fail
    obtain ⟨v7, hv7⟩ : ∃ v7, v7 = t6.setCell ⟨B, 3, none⟩ (.slice a' 1 c') := ⟨_, rfl⟩
    rw [← hv7] at Q7 R7 C7 G7 I7 ⊢
    clear hv7 qc qf Q6 R6 C6 G6 I6
    obtain ⟨q0, q1, q2, q3, q4, q5⟩ := Q7.six
    obtain ⟨y0, y1, y2, y3, y4, y5⟩ := R7.six
    have fy := R7.fro
    have OI : OwnI v7 w.heap.size (.slice a' 1 c') ws := I7
    have OB : OwnB v7 w.heap.size (.slice none 0 0) [] := (ownB_nil _ _)
    have HH : Hid (OwnI v7 w.heap.size (.slice a' 1 c') ws ∧ OwnB v7 w.heap.size (.slice none 0 0) [] ∧ Cur w0 a cap zs v7 g ∧ w.grownBy v7 (some g) ∧ Blk v7 w.heap.size 57 #[.int .i64 0, .int .i64 0, .int .i64 0, .slice none 0 0, .slice none 0 0, .int .i64 0]) := ⟨OI, OB, C7, G7, R7⟩
    clear OI OB C7 G7 R7 Q7 I7
    go_wp2
    refine bodyPost_ret (v := rq 6 (nr + p) (0) (0) a' none 1 0 c' 0) (by simp [results, Try.results29, go_sem, y0, y1, y2, y3, y4, y5]) rfl ?_
    obtain ⟨OI, OB, CE, GE, RE⟩ := HH.out
    have hgR : g ≠ w.heap.size := by have := HGR.out; omega
    have hwR : w0.heap.size ≤ w.heap.size := by have := HGR.out; omega
    exact ⟨_, _, _, _, _, _, _, _, _, _, ws, [], rfl, HWs.out, rfl, by first | omega | (have := HM.out; omega), by first | omega | (have := HM.out; omega), rowp_set6 OI ⟨_, RE⟩ (by decide), rowp_set6 OB ⟨_, RE⟩ (by decide), (((((CE.setHi hgR hwR).setHi hgR hwR).setHi hgR hwR).setHi hgR hwR).setHi hgR hwR).setHi hgR hwR, grown_setHi (grown_setHi (grown_setHi (grown_setHi (grown_setHi (grown_setHi GE (Nat.le_refl _)) (Nat.le_refl _)) (Nat.le_refl _)) (Nat.le_refl _)) (Nat.le_refl _)) (Nat.le_refl _)⟩
  · skip
    obtain ⟨u3, hu3⟩ : ∃ u3, u3 = u2.alloc (.cells #[.int .i64 15, .int .i64 (nr + p), .int .i64 0, .slice none 0 0, .slice none 0 0, .int .i64 0] 57) := ⟨_, rfl⟩
    have HU : Hid (u3 = _) := hu3
    obtain ⟨B, hB⟩ : ∃ B, B = u2.heap.size := ⟨_, rfl⟩
    have HBe : Hid (B = u2.heap.size) := hB
    have HB : Hid (w.heap.size < B) := by show w.heap.size < B; have := R3.lt; omega
    have C4 : Cur w0 a cap zs u3 g := by rw [hu3]; exact C3.alloc _
    have G4 : w.grownBy u3 (some g) := by rw [hu3]; exact grown_trans G3 (World.grownBy_alloc _ _ _)
    have R4 : Blk u3 w.heap.size 57 #[.int .i64 0, .int .i64 0, .int .i64 0, .slice none 0 0, .slice none 0 0, .int .i64 0] := by rw [hu3]; exact R3.below (bel_alloc _ _)
    have Q4 : Blk u3 B 57 #[.int .i64 15, .int .i64 (nr + p), .int .i64 0, .slice none 0 0, .slice none 0 0, .int .i64 0] := by rw [hu3, hB]; exact Blk.new _ _ _
    clear C3 G3 R3 hu3 hB
    go_upto_region 2 with fail
    rw [← HU.out]
    simp only [← HBe.out]
    go_wp2_with fail
    refine (l1Below_any w0 a cap zs _ g _ (by decide) C4).mono ?_
    rintro e t5 ⟨x, rfl, hx, C5, gg⟩
    have G5 := grown_trans G4 gg
    have R5 := R4.grown gg (by have := HGR.out; simp; omega)
    have Q5 := Q4.grown gg (by have := HGR.out; have := HB.out; simp; omega)
    clear C4 R4 Q4 gg
    clear G4
    have k0 := Q5.cell 0 rfl
    go_upto_region 12 with fail
    go_wp2_with fail
    refine (l1Below_any w0 a cap zs _ g _ (by decide) C5).mono ?_
    rintro e t6 ⟨y, rfl, hy, C6, gg⟩
    have G6 := grown_trans G5 gg
    have R6 := R5.grown gg (by have := HGR.out; simp; omega)
    have Q6 := Q5.grown gg (by have := HGR.out; have := HB.out; simp; omega)
    clear C5 R5 Q5 gg
    clear G5
    obtain ⟨m, hm⟩ : ∃ m : Nat, 1 + x + y = (m : Int) := ⟨(1 + x + y).toNat, by omega⟩
    have HM : Hid (1 + x + y = (m : Int) ∧ m ≤ 100) := ⟨hm, by omega⟩
    clear hm
    go_wp2_with fail
    refine (l2Bits_at w0 a cap zs _ g _ m HM.out.1 (by have := HM.out; omega) C6).mono ?_
    rintro e t7 ⟨a', c', bs, rfl, hbs, oj, C7, gg⟩
    have G7 := grown_trans G6 gg
    have R7 := R6.grown gg (by have := HGR.out; simp; omega)
    have Q7 := Q6.grown gg (by have := HGR.out; have := HB.out; simp; omega)
    clear C6 R6 Q6 gg
    have J7 := OwnB.mono oj G6.size
    have HBs : Hid (_ = bs.length) := hbs
    clear oj hbs G6
    have qc := Q7.cell 4 rfl
    have qf := Q7.fro 4
    have Q8 := Q7.set 4 (.slice (some a') m c')
    have R8 := R7.setNe (g' := B) (j := 4) (y := .slice (some a') m c') (by have := HB.out; omega)
    have C8 := C7.setHi (G := B) (j := 4) (y := .slice (some a') m c') (by have := HB.out; have := HGR.out; omega) (by have := HB.out; have := HGR.out; omega)
    have G8 := grown_setHi (G := B) (j := 4) (y := .slice (some a') m c') G7 (by have := HB.out; omega)
    have J8 := row_setE (j := 4) (y := .slice (some a') m c') J7 ⟨_, Q7⟩ (by decide)
    go_upto_region 19 with fail
    obtain ⟨v8, hv8⟩ : ∃ v8, v8 = t7.setCell ⟨B, 4, none⟩ (.slice (some a') m c') := ⟨_, rfl⟩
    rw [← hv8] at Q8 R8 C8 G8 J8 ⊢
    clear hv8 qc qf Q7 R7 C7 G7 J7
    obtain ⟨q0, q1, q2, q3, q4, q5⟩ := Q8.six
    obtain ⟨y0, y1, y2, y3, y4, y5⟩ := R8.six
    have fy := R8.fro
    have OI : OwnI v8 w.heap.size (.slice none 0 0) [] := (ownI_nil _ _)
    have OB : OwnB v8 w.heap.size (.slice (some a') m c') bs := J8
    have HH : Hid (OwnI v8 w.heap.size (.slice none 0 0) [] ∧ OwnB v8 w.heap.size (.slice (some a') m c') bs ∧ Cur w0 a cap zs v8 g ∧ w.grownBy v8 (some g) ∧ Blk v8 w.heap.size 57 #[.int .i64 0, .int .i64 0, .int .i64 0, .slice none 0 0, .slice none 0 0, .int .i64 0]) := ⟨OI, OB, C8, G8, R8⟩
    clear OI OB C8 G8 R8 Q8 J8
    go_wp2
    refine bodyPost_ret (v := rq 15 (nr + p) (0) (0) none (some a') 0 m 0 c') (by simp [results, Try.results29, go_sem, y0, y1, y2, y3, y4, y5]) rfl ?_
    obtain ⟨OI, OB, CE, GE, RE⟩ := HH.out
    have hgR : g ≠ w.heap.size := by have := HGR.out; omega
    have hwR : w0.heap.size ≤ w.heap.size := by have := HGR.out; omega
    exact ⟨_, _, _, _, _, _, _, _, _, _, [], bs, rfl, rfl, HBs.out, by first | omega | (have := HM.out; omega), by first | omega | (have := HM.out; omega), rowp_set6 OI ⟨_, RE⟩ (by decide), rowp_set6 OB ⟨_, RE⟩ (by decide), (((((CE.setHi hgR hwR).setHi hgR hwR).setHi hgR hwR).setHi hgR hwR).setHi hgR hwR).setHi hgR hwR, grown_setHi (grown_setHi (grown_setHi (grown_setHi (grown_setHi (grown_setHi GE (Nat.le_refl _)) (Nat.le_refl _)) (Nat.le_refl _)) (Nat.le_refl _)) (Nat.le_refl _)) (Nat.le_refl _)⟩
  · skip
    obtain ⟨u3, hu3⟩ : ∃ u3, u3 = u2.alloc (.cells #[.int .i64 16, .int .i64 (nr + p), .int .i64 0, .slice none 0 0, .slice none 0 0, .int .i64 0] 57) := ⟨_, rfl⟩
    have HU : Hid (u3 = _) := hu3
    obtain ⟨B, hB⟩ : ∃ B, B = u2.heap.size := ⟨_, rfl⟩
    have HBe : Hid (B = u2.heap.size) := hB
    have HB : Hid (w.heap.size < B) := by show w.heap.size < B; have := R3.lt; omega
    have C4 : Cur w0 a cap zs u3 g := by rw [hu3]; exact C3.alloc _
    have G4 : w.grownBy u3 (some g) := by rw [hu3]; exact grown_trans G3 (World.grownBy_alloc _ _ _)
    have R4 : Blk u3 w.heap.size 57 #[.int .i64 0, .int .i64 0, .int .i64 0, .slice none 0 0, .slice none 0 0, .int .i64 0] := by rw [hu3]; exact R3.below (bel_alloc _ _)
    have Q4 : Blk u3 B 57 #[.int .i64 16, .int .i64 (nr + p), .int .i64 0, .slice none 0 0, .slice none 0 0, .int .i64 0] := by rw [hu3, hB]; exact Blk.new _ _ _
    clear C3 G3 R3 hu3 hB
    go_upto_region 2 with fail
    rw [← HU.out]
    simp only [← HBe.out]
    go_wp2_with fail
    refine (l1Below_any w0 a cap zs _ g _ (by decide) C4).mono ?_
    rintro e t5 ⟨x, rfl, hx, C5, gg⟩
    have G5 := grown_trans G4 gg
    have R5 := R4.grown gg (by have := HGR.out; simp; omega)
    have Q5 := Q4.grown gg (by have := HGR.out; have := HB.out; simp; omega)
    clear C4 R4 Q4 gg
    clear G4
    have k0 := Q5.cell 0 rfl
    go_upto_region 14 with fail
    obtain ⟨m, hm⟩ : ∃ m : Nat, 1 + x = (m : Int) := ⟨(1 + x).toNat, by omega⟩
    have HM : Hid (1 + x = (m : Int) ∧ m ≤ 100) := ⟨hm, by omega⟩
    clear hm
    go_wp2_with fail
    refine (l3List_at w0 a cap zs _ g _ m HM.out.1 (by have := HM.out; omega) C5).mono ?_
    rintro e t6 ⟨a', c', ws, rfl, hws, oi, C6, gg⟩
    have G6 := grown_trans G5 gg
    have R6 := R5.grown gg (by have := HGR.out; simp; omega)
    have Q6 := Q5.grown gg (by have := HGR.out; have := HB.out; simp; omega)
    clear C5 R5 Q5 gg
    have I6 := OwnI.mono oi G5.size
    have HWs : Hid (_ = ws.length) := hws
    clear oi hws G5
    have qc := Q6.cell 3 rfl
    have qf := Q6.fro 3
    have Q7 := Q6.set 3 (.slice a' m c')
    have R7 := R6.setNe (g' := B) (j := 3) (y := .slice a' m c') (by have := HB.out; omega)
    have C7 := C6.setHi (G := B) (j := 3) (y := .slice a' m c') (by have := HB.out; have := HGR.out; omega) (by have := HB.out; have := HGR.out; omega)
    have G7 := grown_setHi (G := B) (j := 3) (y := .slice a' m c') G6 (by have := HB.out; omega)
    have I7 := row_setE (j := 3) (y := .slice a' m c') I6 ⟨_, Q6⟩ (by decide)
    go_upto_region 19 with fail
    obtain ⟨v7, hv7⟩ : ∃ v7, v7 = t6.setCell ⟨B, 3, none⟩ (.slice a' m c') := ⟨_, rfl⟩
    rw [← hv7] at Q7 R7 C7 G7 I7 ⊢
    clear hv7 qc qf Q6 R6 C6 G6 I6
    obtain ⟨q0, q1, q2, q3, q4, q5⟩ := Q7.six
    obtain ⟨y0, y1, y2, y3, y4, y5⟩ := R7.six
    have fy := R7.fro
    have OI : OwnI v7 w.heap.size (.slice a' m c') ws := I7
    have OB : OwnB v7 w.heap.size (.slice none 0 0) [] := (ownB_nil _ _)
    have HH : Hid (OwnI v7 w.heap.size (.slice a' m c') ws ∧ OwnB v7 w.heap.size (.slice none 0 0) [] ∧ Cur w0 a cap zs v7 g ∧ w.grownBy v7 (some g) ∧ Blk v7 w.heap.size 57 #[.int .i64 0, .int .i64 0, .int .i64 0, .slice none 0 0, .slice none 0 0, .int .i64 0]) := ⟨OI, OB, C7, G7, R7⟩
    clear OI OB C7 G7 R7 Q7 I7
    go_wp2
    refine bodyPost_ret (v := rq 16 (nr + p) (0) (0) a' none m 0 c' 0) (by simp [results, Try.results29, go_sem, y0, y1, y2, y3, y4, y5]) rfl ?_
    obtain ⟨OI, OB, CE, GE, RE⟩ := HH.out
    have hgR : g ≠ w.heap.size := by have := HGR.out; omega
    have hwR : w0.heap.size ≤ w.heap.size := by have := HGR.out; omega
    exact ⟨_, _, _, _, _, _, _, _, _, _, ws, [], rfl, HWs.out, rfl, by first | omega | (have := HM.out; omega), by first | omega | (have := HM.out; omega), rowp_set6 OI ⟨_, RE⟩ (by decide), rowp_set6 OB ⟨_, RE⟩ (by decide), (((((CE.setHi hgR hwR).setHi hgR hwR).setHi hgR hwR).setHi hgR hwR).setHi hgR hwR).setHi hgR hwR, grown_setHi (grown_setHi (grown_setHi (grown_setHi (grown_setHi (grown_setHi GE (Nat.le_refl _)) (Nat.le_refl _)) (Nat.le_refl _)) (Nat.le_refl _)) (Nat.le_refl _)) (Nat.le_refl _)⟩
  · skip
    obtain ⟨u3, hu3⟩ : ∃ u3, u3 = u2.alloc (.cells #[.int .i64 22, .int .i64 (nr + p), .int .i64 0, .slice none 0 0, .slice none 0 0, .int .i64 0] 57) := ⟨_, rfl⟩
    have HU : Hid (u3 = _) := hu3
    obtain ⟨B, hB⟩ : ∃ B, B = u2.heap.size := ⟨_, rfl⟩
    have HBe : Hid (B = u2.heap.size) := hB
    have HB : Hid (w.heap.size < B) := by show w.heap.size < B; have := R3.lt; omega
    have C4 : Cur w0 a cap zs u3 g := by rw [hu3]; exact C3.alloc _
    have G4 : w.grownBy u3 (some g) := by rw [hu3]; exact grown_trans G3 (World.grownBy_alloc _ _ _)
    have R4 : Blk u3 w.heap.size 57 #[.int .i64 0, .int .i64 0, .int .i64 0, .slice none 0 0, .slice none 0 0, .int .i64 0] := by rw [hu3]; exact R3.below (bel_alloc _ _)
    have Q4 : Blk u3 B 57 #[.int .i64 22, .int .i64 (nr + p), .int .i64 0, .slice none 0 0, .slice none 0 0, .int .i64 0] := by rw [hu3, hB]; exact Blk.new _ _ _
    clear C3 G3 R3 hu3 hB
    go_upto_region 2 with fail
    rw [← HU.out]
    simp only [← HBe.out]
    go_wp2_with fail
    refine (l1Below_any w0 a cap zs _ g _ (by decide) C4).mono ?_
    rintro e t5 ⟨x, rfl, hx, C5, gg⟩
    have G5 := grown_trans G4 gg
    have R5 := R4.grown gg (by have := HGR.out; simp; omega)
    have Q5 := Q4.grown gg (by have := HGR.out; have := HB.out; simp; omega)
    clear C4 R4 Q4 gg
    clear G4
    have k0 := Q5.cell 0 rfl
    go_upto_region 10 with fail
    go_wp2_with fail
    refine (l3List_at w0 a cap zs _ g _ 2 rfl (by omega) C5).mono ?_
    rintro e t6 ⟨a', c', ws, rfl, hws, oi, C6, gg⟩
    have G6 := grown_trans G5 gg
    have R6 := R5.grown gg (by have := HGR.out; simp; omega)
    have Q6 := Q5.grown gg (by have := HGR.out; have := HB.out; simp; omega)
    clear C5 R5 Q5 gg
    have I6 := OwnI.mono oi G5.size
    have HWs : Hid (_ = ws.length) := hws
    clear oi hws G5
    have qc := Q6.cell 3 rfl
    have qf := Q6.fro 3
    have Q7 := Q6.set 3 (.slice a' 2 c')
    have R7 := R6.setNe (g' := B) (j := 3) (y := .slice a' 2 c') (by have := HB.out; omega)
    have C7 := C6.setHi (G := B) (j := 3) (y := .slice a' 2 c') (by have := HB.out; have := HGR.out; omega) (by have := HB.out; have := HGR.out; omega)
    have G7 := grown_setHi (G := B) (j := 3) (y := .slice a' 2 c') G6 (by have := HB.out; omega)
    have I7 := row_setE (j := 3) (y := .slice a' 2 c') I6 ⟨_, Q6⟩ (by decide)
    go_upto_region 19 with fail
    obtain ⟨v7, hv7⟩ : ∃ v7, v7 = t6.setCell ⟨B, 3, none⟩ (.slice a' 2 c') := ⟨_, rfl⟩
    rw [← hv7] at Q7 R7 C7 G7 I7 ⊢
    clear hv7 qc qf Q6 R6 C6 G6 I6
    obtain ⟨q0, q1, q2, q3, q4, q5⟩ := Q7.six
    obtain ⟨y0, y1, y2, y3, y4, y5⟩ := R7.six
    have fy := R7.fro
    have OI : OwnI v7 w.heap.size (.slice a' 2 c') ws := I7
    have OB : OwnB v7 w.heap.size (.slice none 0 0) [] := (ownB_nil _ _)
    have HH : Hid (OwnI v7 w.heap.size (.slice a' 2 c') ws ∧ OwnB v7 w.heap.size (.slice none 0 0) [] ∧ Cur w0 a cap zs v7 g ∧ w.grownBy v7 (some g) ∧ Blk v7 w.heap.size 57 #[.int .i64 0, .int .i64 0, .int .i64 0, .slice none 0 0, .slice none 0 0, .int .i64 0]) := ⟨OI, OB, C7, G7, R7⟩
    clear OI OB C7 G7 R7 Q7 I7
    go_wp2
    refine bodyPost_ret (v := rq 22 (nr + p) (0) (0) a' none 2 0 c' 0) (by simp [results, Try.results29, go_sem, y0, y1, y2, y3, y4, y5]) rfl ?_
    obtain ⟨OI, OB, CE, GE, RE⟩ := HH.out
    have hgR : g ≠ w.heap.size := by have := HGR.out; omega
    have hwR : w0.heap.size ≤ w.heap.size := by have := HGR.out; omega
    exact ⟨_, _, _, _, _, _, _, _, _, _, ws, [], rfl, HWs.out, rfl, by first | omega | (have := HM.out; omega), by first | omega | (have := HM.out; omega), rowp_set6 OI ⟨_, RE⟩ (by decide), rowp_set6 OB ⟨_, RE⟩ (by decide), (((((CE.setHi hgR hwR).setHi hgR hwR).setHi hgR hwR).setHi hgR hwR).setHi hgR hwR).setHi hgR hwR, grown_setHi (grown_setHi (grown_setHi (grown_setHi (grown_setHi (grown_setHi GE (Nat.le_refl _)) (Nat.le_refl _)) (Nat.le_refl _)) (Nat.le_refl _)) (Nat.le_refl _)) (Nat.le_refl _)⟩
  · skip
    obtain ⟨u3, hu3⟩ : ∃ u3, u3 = u2.alloc (.cells #[.int .i64 23, .int .i64 (nr + p), .int .i64 0, .slice none 0 0, .slice none 0 0, .int .i64 0] 57) := ⟨_, rfl⟩
    have HU : Hid (u3 = _) := hu3
    obtain ⟨B, hB⟩ : ∃ B, B = u2.heap.size := ⟨_, rfl⟩
    have HBe : Hid (B = u2.heap.size) := hB
    have HB : Hid (w.heap.size < B) := by show w.heap.size < B; have := R3.lt; omega
    have C4 : Cur w0 a cap zs u3 g := by rw [hu3]; exact C3.alloc _
    have G4 : w.grownBy u3 (some g) := by rw [hu3]; exact grown_trans G3 (World.grownBy_alloc _ _ _)
    have R4 : Blk u3 w.heap.size 57 #[.int .i64 0, .int .i64 0, .int .i64 0, .slice none 0 0, .slice none 0 0, .int .i64 0] := by rw [hu3]; exact R3.below (bel_alloc _ _)
    have Q4 : Blk u3 B 57 #[.int .i64 23, .int .i64 (nr + p), .int .i64 0, .slice none 0 0, .slice none 0 0, .int .i64 0] := by rw [hu3, hB]; exact Blk.new _ _ _
    clear C3 G3 R3 hu3 hB
    go_upto_region 2 with fail
    rw [← HU.out]
    simp only [← HBe.out]
    go_wp2_with fail
    refine (l1Below_any w0 a cap zs _ g _ (by decide) C4).mono ?_
    rintro e t5 ⟨x, rfl, hx, C5, gg⟩
    have G5 := grown_trans G4 gg
    have R5 := R4.grown gg (by have := HGR.out; simp; omega)
    have Q5 := Q4.grown gg (by have := HGR.out; have := HB.out; simp; omega)
    clear C4 R4 Q4 gg
    clear G4
    have k0 := Q5.cell 0 rfl
    go_upto_region 16 with fail
    have qc := Q5.cell 2 rfl
    have qf := Q5.fro 2
    have Q6 := Q5.set 2 (.int .i64 (1 + x))
    have R6 := R5.setNe (g' := B) (j := 2) (y := .int .i64 (1 + x)) (by have := HB.out; omega)
    have C6 := C5.setHi (G := B) (j := 2) (y := .int .i64 (1 + x)) (by have := HB.out; have := HGR.out; omega) (by have := HB.out; have := HGR.out; omega)
    have G6 := grown_setHi (G := B) (j := 2) (y := .int .i64 (1 + x)) G5 (by have := HB.out; omega)
    go_upto_region 17 with fail
    obtain ⟨v6, hv6⟩ : ∃ v6, v6 = t5.setCell ⟨B, 2, none⟩ (.int .i64 (1 + x)) := ⟨_, rfl⟩
    rw [← hv6] at Q6 R6 C6 G6 ⊢
    clear hv6 qc qf Q5 R5 C5 G5
    go_wp2_with fail
    refine (l1Below_any w0 a cap zs _ g _ (by decide) C6).mono ?_
    rintro e t7 ⟨y, rfl, hy, C7, gg⟩
    have G7 := grown_trans G6 gg
    have R7 := R6.grown gg (by have := HGR.out; simp; omega)
    have Q7 := Q6.grown gg (by have := HGR.out; have := HB.out; simp; omega)
    clear C6 R6 Q6 gg
    clear G6
    have qc := Q7.cell 5 rfl
    have qf := Q7.fro 5
    have Q8 := Q7.set 5 (.int .i64 (nr + y))
    have R8 := R7.setNe (g' := B) (j := 5) (y := .int .i64 (nr + y)) (by have := HB.out; omega)
    have C8 := C7.setHi (G := B) (j := 5) (y := .int .i64 (nr + y)) (by have := HB.out; have := HGR.out; omega) (by have := HB.out; have := HGR.out; omega)
    have G8 := grown_setHi (G := B) (j := 5) (y := .int .i64 (nr + y)) G7 (by have := HB.out; omega)
    go_upto_region 18 with fail
    obtain ⟨v8, hv8⟩ : ∃ v8, v8 = t7.setCell ⟨B, 5, none⟩ (.int .i64 (nr + y)) := ⟨_, rfl⟩
    rw [← hv8] at Q8 R8 C8 G8 ⊢
    clear hv8 qc qf Q7 R7 C7 G7
    go_wp2_with fail
    refine (l1Below_any w0 a cap zs _ g _ (by decide) C8).mono ?_
    rintro e t9 ⟨z, rfl, hz, C9, gg⟩
    have G9 := grown_trans G8 gg
    have R9 := R8.grown gg (by have := HGR.out; simp; omega)
    have Q9 := Q8.grown gg (by have := HGR.out; have := HB.out; simp; omega)
    clear C8 R8 Q8 gg
    clear G8
    obtain ⟨m, hm⟩ : ∃ m : Nat, 1 + z = (m : Int) := ⟨(1 + z).toNat, by omega⟩
    have HM : Hid (1 + z = (m : Int) ∧ m ≤ 100) := ⟨hm, by omega⟩
    clear hm
    go_wp2_with fail
    refine (l3List_at w0 a cap zs _ g _ m HM.out.1 (by have := HM.out; omega) C9).mono ?_
    rintro e t10 ⟨a', c', ws, rfl, hws, oi, C10, gg⟩
    have G10 := grown_trans G9 gg
    have R10 := R9.grown gg (by have := HGR.out; simp; omega)
    have Q10 := Q9.grown gg (by have := HGR.out; have := HB.out; simp; omega)
    clear C9 R9 Q9 gg
    have I10 := OwnI.mono oi G9.size
    have HWs : Hid (_ = ws.length) := hws
    clear oi hws G9
    have qc := Q10.cell 3 rfl
    have qf := Q10.fro 3
    have Q11 := Q10.set 3 (.slice a' m c')
    have R11 := R10.setNe (g' := B) (j := 3) (y := .slice a' m c') (by have := HB.out; omega)
    have C11 := C10.setHi (G := B) (j := 3) (y := .slice a' m c') (by have := HB.out; have := HGR.out; omega) (by have := HB.out; have := HGR.out; omega)
    have G11 := grown_setHi (G := B) (j := 3) (y := .slice a' m c') G10 (by have := HB.out; omega)
    have I11 := row_setE (j := 3) (y := .slice a' m c') I10 ⟨_, Q10⟩ (by decide)
    go_upto_region 19 with fail
    obtain ⟨v11, hv11⟩ : ∃ v11, v11 = t10.setCell ⟨B, 3, none⟩ (.slice a' m c') := ⟨_, rfl⟩
    rw [← hv11] at Q11 R11 C11 G11 I11 ⊢
    clear hv11 qc qf Q10 R10 C10 G10 I10
    obtain ⟨q0, q1, q2, q3, q4, q5⟩ := Q11.six
    obtain ⟨y0, y1, y2, y3, y4, y5⟩ := R11.six
    have fy := R11.fro
    have OI : OwnI v11 w.heap.size (.slice a' m c') ws := I11
    have OB : OwnB v11 w.heap.size (.slice none 0 0) [] := (ownB_nil _ _)
    have HH : Hid (OwnI v11 w.heap.size (.slice a' m c') ws ∧ OwnB v11 w.heap.size (.slice none 0 0) [] ∧ Cur w0 a cap zs v11 g ∧ w.grownBy v11 (some g) ∧ Blk v11 w.heap.size 57 #[.int .i64 0, .int .i64 0, .int .i64 0, .slice none 0 0, .slice none 0 0, .int .i64 0]) := ⟨OI, OB, C11, G11, R11⟩
    clear OI OB C11 G11 R11 Q11 I11
    go_wp2
    refine bodyPost_ret (v := rq 23 (nr + p) ((1 + x)) (nr + y) a' none m 0 c' 0) (by simp [results, Try.results29, go_sem, y0, y1, y2, y3, y4, y5]) rfl ?_
    obtain ⟨OI, OB, CE, GE, RE⟩ := HH.out
    have hgR : g ≠ w.heap.size := by have := HGR.out; omega
    have hwR : w0.heap.size ≤ w.heap.size := by have := HGR.out; omega
    exact ⟨_, _, _, _, _, _, _, _, _, _, ws, [], rfl, HWs.out, rfl, by first | omega | (have := HM.out; omega), by first | omega | (have := HM.out; omega), rowp_set6 OI ⟨_, RE⟩ (by decide), rowp_set6 OB ⟨_, RE⟩ (by decide), (((((CE.setHi hgR hwR).setHi hgR hwR).setHi hgR hwR).setHi hgR hwR).setHi hgR hwR).setHi hgR hwR, grown_setHi (grown_setHi (grown_setHi (grown_setHi (grown_setHi (grown_setHi GE (Nat.le_refl _)) (Nat.le_refl _)) (Nat.le_refl _)) (Nat.le_refl _)) (Nat.le_refl _)) (Nat.le_refl _)⟩
end Go.Proofs.Ytfdddkjonjpgpaa
namespace Go.Proofs.Ytfdddkjonjpgpaa
open Go.RowKit
set_option linter.unusedVariables false
set_option linter.unusedSimpArgs false
def ReqAt (w0 : World) (a : Option Addr) (cap : Nat) (zs : List Int) (base m1 m2 : Nat) (w : World) (g : Nat) (e : Ending) (w' : World) : Prop :=
  ∃ (kd pl nn wa : Int) (a1 a2 : Option Addr) (l1 l2 c1 c2 : Nat) (ws : List Int) (bs : List Bool), e = .returned (rq kd pl nn wa a1 a2 l1 l2 c1 c2) ∧ l1 = ws.length ∧ l2 = bs.length ∧ l1 ≤ m1 ∧ l2 ≤ m2 ∧ OwnI w' base (.slice a1 l1 c1) ws ∧ OwnB w' base (.slice a2 l2 c2) bs ∧ Cur w0 a cap zs w' g ∧ w.grownBy w' (some g)
end Go.Proofs.Ytfdddkjonjpgpaa
