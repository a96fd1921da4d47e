/- Texts that the proof needs, joined. -/
import Derived.Test.YtcnbbknmofonkaaPack1
import Derived.Test.YtcnbbknmofonkaaMarks2
import Derived.Test.YtcnbbknmofonkaaSteps
import Derived.Test.YtcnbbknmofonkaaCur3
import Derived.Test.YtcnbbknmofonkaaDev15
import Derived.Test.YtcnbbknmofonkaaG1
import Derived.Deep.Upon
import Derived.Lib.AppendZeros
import Derived.Test.YtcnbbknmofonkaaQ2
import Derived.Test.YtcnbbknmofonkaaResp1
import Derived.Deep.DeepCutAuto
import Derived.Deep.RegionWith
namespace Go.Proofs.Ytcnbbknmofonkaa
open Go.RowKit

/-- Bit k of the bytes. -/
def ub (zs : List Int) (k : Nat) : Bool := zs.getD (k / 8) 0 / ((2 ^ (k % 8) : Nat) : Int) % 2 == 1

theorem and_one : ∀ y : Nat, y < 256 → bits .and .u8 (y : Int) 1 = (y : Int) % 2 := by decide +kernel

theorem pow_cast (k : Nat) : (2 : Int) ^ (k % 8) = ((2 ^ (k % 8) : Nat) : Int) := by simp

theorem ub_eq {zs : List Int} (hr : ∀ z ∈ zs, 0 ≤ z ∧ z ≤ 255) (k : Nat) : (bits BinOp.and IntKind.u8 (zs.getD (k / 8) 0 / 2 ^ (k % 8)) 1 == 1) = ub zs k := by
  have rg := get_range hr (k / 8)
  unfold ub
  rw [pow_cast]
  generalize zs.getD (k / 8) 0 = z at *
  obtain ⟨y, rfl⟩ := Int.eq_ofNat_of_zero_le rg.1
  have e : ((y : Int) / ((2 ^ (k % 8) : Nat) : Int)) = ((y / 2 ^ (k % 8) : Nat) : Int) := by simp
  have hle : y / 2 ^ (k % 8) < 256 := Nat.lt_of_le_of_lt (Nat.div_le_self _ _) (by omega)
  rw [e, and_one _ hle]

def ubs (zs : List Int) (x : Nat) : List Bool := (List.range x).map (ub zs)

theorem ubs_length (zs : List Int) (x : Nat) : (ubs zs x).length = x := by simp [ubs]

theorem ubs_succ (zs : List Int) (x : Nat) : ubs zs (x + 1) = ubs zs x ++ [ub zs x] := by simp [ubs, List.range_succ]

def okU (zs : List Int) (x : Int) : Bool := decide (0 ≤ x ∧ (zs.length : Int) = (x + 7) / 8 ∧ ∀ j, j < 8 * zs.length → x ≤ (j : Int) → ub zs j = false)

def outU (zs : List Int) (x : Int) : List Bool := if okU zs x = true then ubs zs x.toNat else []

/-- What UnpackBits ends with. -/
def UnEnds (zs : List Int) (x : Int) (w : World) (e : Ending) (w' : World) : Prop :=
  ∃ a c, e = .returned (.tuple #[.slice a (outU zs x).length c, .bool (okU zs x)]) ∧ OwnB w' w.heap.size (.slice a (outU zs x).length c) (outU zs x) ∧ Below w.heap.size w w'

theorem okU_no {zs : List Int} {x : Int} (h : ¬ (0 ≤ x ∧ (zs.length : Int) = (x + 7) / 8)) : okU zs x = false ∧ outU zs x = [] := by
  have e : okU zs x = false := by unfold okU; exact decide_eq_false (fun hh => h ⟨hh.1, hh.2.1⟩)
  exact ⟨e, by unfold outU; rw [if_neg (by simp [e])]⟩

theorem okU_bad {zs : List Int} {x : Int} (j : Nat) (h : j < 8 * zs.length) (hx : x ≤ (j : Int)) (hb : ub zs j = true) : okU zs x = false ∧ outU zs x = [] := by
  have e : okU zs x = false := by unfold okU; exact decide_eq_false (fun hh => by have := hh.2.2 j h hx; rw [hb] at this; cases this)
  exact ⟨e, by unfold outU; rw [if_neg (by simp [e])]⟩

theorem okU_yes {zs : List Int} {x : Nat} (h : (zs.length : Int) = ((x : Int) + 7) / 8) (hg : ∀ j, j < 8 * zs.length → x ≤ j → ub zs j = false) : okU zs (x : Int) = true ∧ outU zs (x : Int) = ubs zs x := by
  have e : okU zs (x : Int) = true := by unfold okU; exact decide_eq_true ⟨by omega, h, fun j h1 h2 => hg j h1 (by omega)⟩
  exact ⟨e, by unfold outU; rw [if_pos e]; simp⟩

theorem unEnds_no {zs : List Int} {x : Int} {w w' : World} {a : Option Addr} {c : Nat} (h : okU zs x = false ∧ outU zs x = []) (ho : OwnB w' w.heap.size (.slice a 0 c) []) (hb : Below w.heap.size w w') :
    UnEnds zs x w (.returned (.tuple #[.slice a 0 c, .bool false])) w' := by
  unfold UnEnds
  rw [h.1, h.2]
  exact ⟨a, c, rfl, ho, hb⟩

theorem OwnB.shape {w : World} {base : Nat} {v : Value} {zs : List Bool} (h : OwnB w base v zs) : ∃ a cap, v = .slice a zs.length cap := by
  obtain ⟨_, h2⟩ := h
  rcases h2 with ⟨h2, h3⟩ | ⟨g, cap', cur, hv, _⟩
  · exact ⟨none, 0, by rw [h3]; exact h2⟩
  · exact ⟨_, _, hv⟩

theorem unEnds_yes {zs : List Int} {x : Nat} {w w' : World} {v : Value} (h : okU zs (x : Int) = true ∧ outU zs (x : Int) = ubs zs x) (ho : OwnB w' w.heap.size v (ubs zs x)) (hb : Below w.heap.size w w') :
    UnEnds zs (x : Int) w (.returned (.tuple #[v, .bool true])) w' := by
  unfold UnEnds
  rw [h.1, h.2]
  obtain ⟨a, cap, rfl⟩ := ho.shape
  exact ⟨a, cap, rfl, ho, hb⟩

theorem ownB_empty {w wr : World} (hb : Below w.heap.size w wr) : OwnB (wr.alloc (.cells #[] 4)) w.heap.size (.slice (some ⟨wr.heap.size, 0, none⟩) 0 0) [] ∧ Below w.heap.size w (wr.alloc (.cells #[] 4)) :=
  ⟨World.ownsRow_lit (base := w.heap.size) (e := 4) (size := 1) wr #[] 0 hb.size (by unfold maxLen; omega) rfl, hb.alloc hb.size _⟩


theorem one_cellB {w1 : World} {x : Bool} : ∀ j u, ([Value.bool x])[j]? = some u → (w1.alloc (.cells #[.bool x] 4)).cell? ((⟨w1.heap.size, 0, none⟩ : Addr).add j) = some u := by
  intro j u hu
  match j, hu with
  | 0, hu => simp at hu; subst hu; simp [Addr.add]
  | k + 1, hu => simp at hu

theorem one_oneB (x : Bool) : ∀ u ∈ [Value.bool x], u.oneCell' = true := by
  intro u hu; simp at hu; subst hu; rfl

theorem one_stepB {W wr w1 : World} {o1 : Obj} {v v' : Value} {hs hs' : List Bool} {x y : Bool} (e : hs' = hs ++ [y]) (exy : x = y) (ho : OwnB wr W.heap.size v hs) (hb : Below W.heap.size W wr)
    (h1 : w1.ownsRow W.heap.size 4 1 v' (hs.length + 1) (hs.map Value.bool ++ [Value.bool x])) (g1 : (wr.alloc o1).grownBy w1 v.ownBlock) : OwnB w1 W.heap.size v' hs' ∧ Below W.heap.size W w1 := by
  subst exy
  rw [e]
  refine ⟨by simpa [OwnB] using h1, ?_⟩
  exact (hb.alloc hb.size o1).grown g1 (by have := hb.size; simp; omega) (fun k hk => (World.ownsRow.lt ho k hk).1)

end Go.Proofs.Ytcnbbknmofonkaa

namespace Go.Proofs.Ytcnbbknmofonkaa
open Go.RowKit

theorem top_bit : ∀ s : Nat, s < 8 → ∀ z : Nat, z < 256 → z / 2 ^ s ≠ 0 → ∃ r, r < 8 ∧ s ≤ r ∧ z / 2 ^ r % 2 = 1 := by decide +kernel

theorem left_bad {zs : List Int} (hr : ∀ z ∈ zs, 0 ≤ z ∧ z ≤ 255) {x : Nat} (hn : (zs.length : Int) = ((x : Int) + 7) / 8) (h8 : x % 8 ≠ 0) (hz : zs.getD (x / 8) 0 / ((2 ^ (x % 8) : Nat) : Int) ≠ 0) :
    okU zs (x : Int) = false ∧ outU zs (x : Int) = [] := by
  have rg := get_range hr (x / 8)
  obtain ⟨y, hy⟩ := Int.eq_ofNat_of_zero_le rg.1
  have e : ((y : Int) / ((2 ^ (x % 8) : Nat) : Int)) = ((y / 2 ^ (x % 8) : Nat) : Int) := by simp
  rw [hy, e] at hz
  obtain ⟨r, h1, h2, h3⟩ := top_bit (x % 8) (Nat.mod_lt _ (by decide)) y (by omega) (by omega)
  have ej1 : (8 * (x / 8) + r) / 8 = x / 8 := by omega
  have ej2 : (8 * (x / 8) + r) % 8 = r := by omega
  refine okU_bad (8 * (x / 8) + r) (by omega) (by omega) ?_
  unfold ub
  rw [ej1, ej2, hy]
  have e2 : ((y : Int) / ((2 ^ r : Nat) : Int)) = ((y / 2 ^ r : Nat) : Int) := by simp
  rw [e2]
  have e3 : ((y / 2 ^ r : Nat) : Int) % 2 = 1 := by omega
  rw [e3]; rfl

theorem left_good {zs : List Int} (hr : ∀ z ∈ zs, 0 ≤ z ∧ z ≤ 255) {x : Nat} (hn : (zs.length : Int) = ((x : Int) + 7) / 8) (h : x % 8 = 0 ∨ zs.getD (x / 8) 0 / ((2 ^ (x % 8) : Nat) : Int) = 0) :
    okU zs (x : Int) = true ∧ outU zs (x : Int) = ubs zs x := by
  refine okU_yes hn (fun j hj hx => ?_)
  by_cases h8 : x % 8 = 0
  · omega
  · have hz := h.resolve_left h8
    have rg := get_range hr (x / 8)
    obtain ⟨y, hy⟩ := Int.eq_ofNat_of_zero_le rg.1
    have e : ((y : Int) / ((2 ^ (x % 8) : Nat) : Int)) = ((y / 2 ^ (x % 8) : Nat) : Int) := by simp
    rw [hy, e] at hz
    have hp : 0 < 2 ^ (x % 8) := Nat.two_pow_pos _
    have hlt : y < 2 ^ (x % 8) := by
      have hz' : y / 2 ^ (x % 8) = 0 := by omega
      rcases (Nat.div_eq_zero_iff).1 hz' with h0 | h0
      · omega
      · exact h0
    have ej : j / 8 = x / 8 := by omega
    have hle : 2 ^ (x % 8) ≤ 2 ^ (j % 8) := Nat.pow_le_pow_right (by decide) (by omega)
    unfold ub
    rw [ej, hy]
    have e2 : ((y : Int) / ((2 ^ (j % 8) : Nat) : Int)) = ((y / 2 ^ (j % 8) : Nat) : Int) := by simp
    rw [e2, Nat.div_eq_of_lt (by omega)]; rfl

end Go.Proofs.Ytcnbbknmofonkaa

namespace Go.Proofs.Ytcnbbknmofonkaa
open Go.RowKit

set_option linter.unusedVariables false

set_option linter.unusedSimpArgs false

set_option maxHeartbeats 1000000 in
theorem l1Once_any (w0 : World) (a : Option Addr) (cap : Nat) (zs : List Int) (w : World) (g : Nat) (n : Int) (hn : 1 ≤ n) (hC : Cur w0 a cap zs w g) :
    Calls Try.prog 88 #[.pointer (some ⟨g, 0, none⟩), .int .i64 n] w fun e w' => ∃ t : Bool, e = .returned (.bool t) ∧ Cur w0 a cap zs w' g ∧ w.grownBy w' (some g) := by
  go_enter Try.func88, Try.ntmps88
  go_wp2_with fail
  refine (l1Below_any w0 a cap zs _ g n hn hC).mono ?_
  rintro e w1 ⟨x, rfl, _, C1, g1⟩
  have R : Hid (Cur w0 a cap zs w1 g ∧ w.grownBy w1 (some g)) := ⟨C1, g1⟩
  clear hC C1 g1
  go_wp2
  go_ret
  exact ⟨_, rfl, R.out⟩

/-- What drawing bits ends with. -/
def DrawnBits (w0 : World) (a : Option Addr) (cap : Nat) (zs : List Int) (w : World) (g n : Nat) (e : Ending) (w' : World) : Prop :=
  ∃ (ad : Addr) (c : Nat) (bs : List Bool), e = .returned (.slice (some ad) n c) ∧ n = bs.length ∧ OwnB w' w.heap.size (.slice (some ad) n c) bs ∧ Cur w0 a cap zs w' g ∧ w.grownBy w' (some g)

theorem ownB_some {w : World} {base : Nat} {v : Value} {bs : List Bool} (h : OwnB w base v bs) (h0 : 0 < bs.length) : ∃ ad c, v = .slice (some ad) bs.length c := by
  obtain ⟨_, h2⟩ := h
  rcases h2 with ⟨h2, h3⟩ | ⟨g, cap', cur, hv, _⟩
  · omega
  · exact ⟨_, _, hv⟩

theorem bits_step {w0 w wr w1 w2 : World} {a : Option Addr} {cap g : Nat} {zs : List Int} {bs : List Bool} {v v' : Value} {o1 : Obj} {x : Bool} (hg : g < w.heap.size) (gr : w.grownBy wr (some g)) (ho : OwnB wr w.heap.size v bs) (C1 : Cur w0 a cap zs w1 g) (g1 : wr.grownBy w1 (some g))
    (h2 : w2.ownsRow w.heap.size 4 1 v' (bs.length + 1) (bs.map Value.bool ++ [Value.bool x])) (g2 : (w1.alloc o1).grownBy w2 v.ownBlock) (hlo : w0.heap.size ≤ g) :
    OwnB w2 w.heap.size v' (bs ++ [x]) ∧ Cur w0 a cap zs w2 g ∧ w.grownBy w2 (some g) := by
  have hv : ∀ k, v.ownBlock = some k → w.heap.size ≤ k := fun k hk => (World.ownsRow.lt ho k hk).1
  refine ⟨by simpa [OwnB] using h2, (C1.alloc o1).grown g2 (fun e => by have := hv g e.symm; omega) (fun k hk => by have := hv k hk; omega), ?_⟩
  have gg := grown_trans gr g1
  refine ⟨g2.os.trans gg.os, g2.tape.trans gg.tape, g2.output.trans gg.output, ?_, fun k hk hne => ?_⟩
  · have h := g2.size
    have h' := gg.size
    simp at h
    omega
  · rw [g2.block k (by have := gg.size; simp; omega) (fun e => by have := hv k e.symm; omega)]
    rw [Below.heap_alloc w1 o1 k (by have := gg.size; omega)]
    exact gg.block k hk hne

set_option maxHeartbeats 2000000 in
theorem l2Bits_any (w0 : World) (a : Option Addr) (cap : Nat) (zs : List Int) (w : World) (g : Nat) (n : Nat) (hn : n ≤ 1000000) (hC : Cur w0 a cap zs w g) :
    Calls Try.prog 86 #[.pointer (some ⟨g, 0, none⟩), .int .i64 n] w fun e w' => DrawnBits w0 a cap zs w g n e w' := by
  obtain ⟨i0, hi, hz0, hz1, hz2⟩ := info_parts Try.info4
  have hml : n + 2 ≤ maxLen := by unfold maxLen; omega
  have o0 := World.ownsRow_lit (base := w.heap.size) (e := 4) (size := 1) w #[] 0 (Nat.le_refl _) (by omega) rfl
  have hg := hC.hi
  have hlo := hC.lo
  have C0 := hC.alloc (.cells #[] 4)
  have G0 : w.grownBy (w.alloc (.cells #[] 4)) (some g) := World.grownBy_alloc _ _ _
  clear hC
  go_enter Try.func86, Try.ntmps86
  go_wp2
  go_loopw [5, 6] (fun v i wr => ∃ (k : Nat) (ad : Addr) (c : Nat) (bs : List Bool), k ≤ n ∧ i = .int .i64 k ∧ v = .slice (some ad) k c ∧ bs.length = k ∧ OwnB wr w.heap.size v bs ∧ Cur w0 a cap zs wr g ∧ w.grownBy wr (some g)) (fun _ i _ => n - (intOf i).toNat)
  case atStart => exact ⟨0, _, _, [], Nat.zero_le _, rfl, rfl, rfl, o0, C0, G0⟩
  case round =>
    obtain ⟨k, ad, c, bs, hk, rfl, rfl, hb, ho, C, G⟩ := hrel
    by_cases hlt : k < n
    · have hi' : (k : Int) < (n : Int) := by omega
      have HB : Hid (bs.length = k) := hb
      clear o0 C0 G0 hb
      go_wp2_with fail
      refine (l1Once_any w0 a cap zs _ g _ (by decide) C).mono ?_
      rintro e w1 ⟨x, rfl, C1, g1⟩
      have ho1 : w1.ownsRow w.heap.size 4 1 (.slice (some ad) k c) bs.length (bs.map Value.bool) := ho.kept g1 (.inr (fun e => by have := (World.ownsRow.lt ho g e).1; omega))
      have hm1 : bs.length + 1 ≤ maxLen := by rw [HB.out]; omega
      have hm2 : (bs.length + 1) * 1 ≤ 140737488355328 := by rw [HB.out]; omega
      have hsz : w.heap.size ≤ w1.heap.size := Nat.le_trans G.size g1.size
      go_wp2_with (at_builtin; refine wpList_append_own _ rfl (.tmp 13) (.tmp 16) 22 rfl w.heap.size 4 i0 (.bool false) 1 1 Try.underlying22 hi hz0 hz1 hz2 rfl (by decide) (.slice (some ad) k c) bs.length (bs.map Value.bool) rfl (ho1.alloc _) ⟨w1.heap.size, 0, none⟩ 1 1 [.bool x] rfl (by simp) one_cellB (one_oneB _) hm1 hm2 (by simp; omega) ?_; intro v' w2 o2 g2 _; have R := bits_step hg G ho C1 g1 o2 g2 hlo; clear ho ho1 o2 g2)
      obtain ⟨R1, R2, R3⟩ := R
      obtain ⟨ad', c', hv⟩ := ownB_some R1 (by simp)
      have hv' : Hid (v' = .slice (some ad') (k + 1) c') := by
        show v' = _
        rw [hv, List.length_append, HB.out]; rfl
      clear hv
      go_roundw
      case rel => exact ⟨k + 1, ad', c', bs ++ [x], by omega, by go_num, hv'.out, by rw [List.length_append, HB.out]; rfl, R1, R2, R3⟩
      case measure => simp [intOf]; omega
    · obtain rfl : k = n := by omega
      clear o0 C0 G0
      go_wp2
      go_ret
      exact ⟨ad, c, bs, rfl, hb.symm, ho, C, G⟩

theorem ints_lit (w : World) (l : List Int) (t : TypeId) : Ints (w.alloc (.cells (l.map (Value.int .i64)).toArray t)) ⟨w.heap.size, 0, none⟩ l :=
  ⟨w.heap.size, 0, rfl, by simp, fun i hi => by simp [hi]⟩

/-- What drawing words ends with. -/
def DrawnInts (w0 : World) (a : Option Addr) (cap : Nat) (zs : List Int) (w : World) (g n : Nat) (e : Ending) (w' : World) : Prop :=
  ∃ (ad : Option Addr) (c : Nat) (ws : List Int), e = .returned (.slice ad n c) ∧ n = ws.length ∧ OwnI w' w.heap.size (.slice ad n c) ws ∧ Cur w0 a cap zs w' g ∧ w.grownBy w' (some g)

theorem ints_step {w0 w wr w1 w2 : World} {a : Option Addr} {cap g : Nat} {zs : List Int} {ws : List Int} {v v' : Value} {o1 : Obj} {x : Int} (hg : g < w.heap.size) (gr : w.grownBy wr (some g)) (ho : OwnI wr w.heap.size v ws) (C1 : Cur w0 a cap zs w1 g) (g1 : wr.grownBy w1 (some g))
    (h2 : OwnI w2 w.heap.size v' (ws ++ [x])) (g2 : (w1.alloc o1).grownBy w2 v.ownBlock) (hlo : w0.heap.size ≤ g) :
    OwnI w2 w.heap.size v' (ws ++ [x]) ∧ Cur w0 a cap zs w2 g ∧ w.grownBy w2 (some g) := by
  have hv : ∀ k, v.ownBlock = some k → w.heap.size ≤ k := fun k hk => (World.ownsRow.lt ho k hk).1
  refine ⟨h2, (C1.alloc o1).grown g2 (fun e => by have := hv g e.symm; omega) (fun k hk => by have := hv k hk; omega), ?_⟩
  have gg := grown_trans gr g1
  refine ⟨g2.os.trans gg.os, g2.tape.trans gg.tape, g2.output.trans gg.output, ?_, fun k hk hne => ?_⟩
  · have h := g2.size
    have h' := gg.size
    simp at h
    omega
  · rw [g2.block k (by have := gg.size; simp; omega) (fun e => by have := hv k e.symm; omega)]
    rw [Below.heap_alloc w1 o1 k (by have := gg.size; omega)]
    exact gg.block k hk hne

set_option maxHeartbeats 4000000 in
theorem l3List_any (w0 : World) (a : Option Addr) (cap : Nat) (zs : List Int) (w : World) (g : Nat) (n : Nat) (hn : n ≤ 1000) (hC : Cur w0 a cap zs w g) :
    Calls Try.prog 87 #[.pointer (some ⟨g, 0, none⟩), .int .i64 n] w fun e w' => DrawnInts w0 a cap zs w g n e w' := by
  have o0 : OwnI (w.alloc (.cells #[] 3)) w.heap.size (.slice (some ⟨w.heap.size, 0, none⟩) 0 0) [] := ⟨rfl, .inr ⟨w.heap.size, 0, #[], rfl, Nat.le_refl _, Blk.new w #[] 3, by simp, by simp, rfl, rfl⟩⟩
  have hg := hC.hi
  have hlo := hC.lo
  have C0 := hC.alloc (.cells #[] 3)
  have G0 : w.grownBy (w.alloc (.cells #[] 3)) (some g) := World.grownBy_alloc _ _ _
  clear hC
  go_enter Try.func87, Try.ntmps87
  go_wp2
  go_loopw [5, 6] (fun v i wr => ∃ (k : Nat) (ad : Option Addr) (c : Nat) (ws : List Int), k ≤ n ∧ i = .int .i64 k ∧ v = .slice ad k c ∧ ws.length = k ∧ OwnI wr w.heap.size v ws ∧ Cur w0 a cap zs wr g ∧ w.grownBy wr (some g)) (fun _ i _ => n - (intOf i).toNat)
  case atStart => exact ⟨0, _, _, [], Nat.zero_le _, rfl, rfl, rfl, o0, C0, G0⟩
  case round =>
    obtain ⟨k, ad, c, ws, hk, rfl, rfl, hb, ho, C, G⟩ := hrel
    by_cases hlt : k < n
    · have hi' : (k : Int) < (n : Int) := by omega
      have HB : Hid (ws.length = k) := hb
      clear o0 C0 G0 hb
      go_wp2_with fail
      refine (l1Below_any w0 a cap zs _ g _ (by decide) C).mono ?_
      rintro e w1 ⟨x, rfl, _, C1, g1⟩
      have I1 := ints_lit w1 [0, 1, 65535, 256, x] 3
      have C1' := C1.alloc (.cells ([0, 1, 65535, 256, x].map (Value.int .i64)).toArray 3)
      have g1' : wr.grownBy (w1.alloc (.cells ([0, 1, 65535, 256, x].map (Value.int .i64)).toArray 3)) (some g) := grown_trans g1 (World.grownBy_alloc _ _ _)
      have hneg : w1.heap.size ≠ g := by have := C1.hi; omega
      clear C1 g1
      go_wp2_with fail
      refine (l1Int_any w0 a cap zs _ g ⟨w1.heap.size, 0, none⟩ 5 5 [0, 1, 65535, 256, x] rfl (by omega) (by omega) I1 hneg C1').mono ?_
      rintro e w2 ⟨y, rfl, _, C2, g2⟩
      have gg := grown_trans g1' g2
      have ho1 : OwnI w2 w.heap.size (.slice ad k c) ws := ho.kept gg (.inr (fun e => by have := (World.ownsRow.lt ho g e).1; omega))
      have HLn : Hid (ws.length + 1 ≤ 4000000) := by show ws.length + 1 ≤ 4000000; rw [HB.out]; omega
      have hsz : w.heap.size ≤ w2.heap.size := Nat.le_trans G.size gg.size
      clear I1 C1' g1' g2
      go_wp2_with (at_builtin; refine wpList_appI rfl (.tmp 13) (.tmp 19) rfl w.heap.size (.slice ad k c) ws rfl (ho1.below (bel_alloc _ _)) ⟨w2.heap.size, 0, none⟩ 1 1 [y] rfl rfl (lit_slI1' _ _ rfl) HLn.out (by simp; omega) ?_; intro v' w3 o3 g3)
      obtain ⟨R1, R2, R3⟩ := ints_step hg G ho C2 gg o3 g3 hlo
      obtain ⟨ad', c', n', hv, hn'⟩ := ownI_shape R1
      have en : n' = k + 1 := by rw [hn', List.length_append, HB.out]; rfl
      subst en
      subst hv
      clear o3 g3 ho1 ho C2 gg
      go_roundw
      case rel => exact ⟨k + 1, ad', c', ws ++ [y], by omega, by go_num, rfl, by rw [List.length_append, HB.out]; rfl, R1, R2, R3⟩
      case measure => simp [intOf]; omega
    · obtain rfl : k = n := by omega
      clear o0 C0 G0
      go_wp2
      go_ret
      exact ⟨ad, c, ws, rfl, hb.symm, ho, C, G⟩

end Go.Proofs.Ytcnbbknmofonkaa

namespace Go.Proofs.Ytcnbbknmofonkaa
open Go.RowKit

set_option linter.unusedVariables false

set_option linter.unusedSimpArgs false

theorem grown_setHi {w u : World} {g G j : Nat} {y : Value} (h : w.grownBy u (some g)) (hG : w.heap.size ≤ G) : w.grownBy (u.setCell ⟨G, j, none⟩ y) (some g) :=
  ⟨h.os, h.tape, h.output, by simpa [World.setCell] using h.size, fun k hk hne => (Below.heap_setCell _ _ _ _ (by show k ≠ G; omega)).trans (h.block k hk hne)⟩

theorem row_ne_g {u : World} {B size n g : Nat} {e : TypeId} {v : Value} {xs : List Value} (h : u.ownsRow B e size v n xs) (hg : g < B) : v.ownBlock = none ∨ v.ownBlock ≠ some g :=
  .inr (fun e => by have := (World.ownsRow.lt h g e).1; omega)

theorem Cur.setHi {w0 u : World} {a : Option Addr} {cap g G j : Nat} {zs : List Int} {y : Value} (h : Cur w0 a cap zs u g) (hne : g ≠ G) (hlo : w0.heap.size ≤ G) : Cur w0 a cap zs (u.setCell ⟨G, j, none⟩ y) g :=
  h.grown (grown_setj u G j y) (by simpa using hne) (fun k hk => by simp at hk; omega)

theorem l3List_at (w0 : World) (a : Option Addr) (cap : Nat) (zs : List Int) (w : World) (g : Nat) (x : Int) (n : Nat) (hx : x = (n : Int)) (hn : n ≤ 1000) (hC : Cur w0 a cap zs w g) :
    Calls Try.prog 87 #[.pointer (some ⟨g, 0, none⟩), .int .i64 x] w fun e w' => DrawnInts w0 a cap zs w g n e w' := by
  subst hx
  exact l3List_any w0 a cap zs w g n hn hC

theorem l2Bits_at (w0 : World) (a : Option Addr) (cap : Nat) (zs : List Int) (w : World) (g : Nat) (x : Int) (n : Nat) (hx : x = (n : Int)) (hn : n ≤ 1000) (hC : Cur w0 a cap zs w g) :
    Calls Try.prog 86 #[.pointer (some ⟨g, 0, none⟩), .int .i64 x] w fun e w' => DrawnBits w0 a cap zs w g n e w' := by
  subst hx
  exact l2Bits_any w0 a cap zs w g n (by omega) hC

/-- What drawing a question ends with. -/
def DrawnReq (w0 : World) (a : Option Addr) (cap : Nat) (zs : List Int) (w : World) (g : Nat) (e : Ending) (w' : World) : Prop :=
  ∃ (kd pl nn wa : Int) (a1 a2 : Option Addr) (l1 l2 c1 c2 : Nat) (ws : List Int) (bs : List Bool), e = .returned (rq kd pl nn wa a1 a2 l1 l2 c1 c2) ∧ l1 = ws.length ∧ l2 = bs.length ∧ l1 ≤ 200 ∧ l2 ≤ 2000 ∧ OwnI w' w.heap.size (.slice a1 l1 c1) ws ∧ OwnB w' w.heap.size (.slice a2 l2 c2) bs ∧ Cur w0 a cap zs w' g ∧ w.grownBy w' (some g)

set_option maxRecDepth 20000 in
set_option maxHeartbeats 16000000 in
theorem l3Draw_any (w0 : World) (a : Option Addr) (cap : Nat) (zs : List Int) (w : World) (g : Nat) (nr : Int) (hnr : 0 ≤ nr ∧ nr ≤ 100) (hC : Cur w0 a cap zs w g) :
    Calls Try.prog 52 #[.pointer (some ⟨g, 0, none⟩), .int .i64 nr] w fun e w' => DrawnReq w0 a cap zs w g e w' := by
  obtain ⟨W0, hW0⟩ : ∃ W0, W0 = w.alloc (.cells #[.int .i64 0, .int .i64 0, .int .i64 0, .slice none 0 0, .slice none 0 0, .int .i64 0] 46) := ⟨_, rfl⟩
  have HW : Hid (W0 = _) := hW0
  have hg := hC.hi
  have hlo := hC.lo
  have C0 : Cur w0 a cap zs W0 g := by rw [hW0]; exact hC.alloc _
  have G0 : w.grownBy W0 (some g) := by rw [hW0]; exact World.grownBy_alloc _ _ _
  have R0 : Blk W0 w.heap.size 46 #[.int .i64 0, .int .i64 0, .int .i64 0, .slice none 0 0, .slice none 0 0, .int .i64 0] := by rw [hW0]; exact Blk.new _ _ _
  have I1 := ints_lit W0 [1, 2, 3, 4, 5, 6, 15, 16, 22, 23, 3, 16] 3
  have C1 := C0.alloc (.cells ([1, 2, 3, 4, 5, 6, 15, 16, 22, 23, 3, 16].map (Value.int .i64)).toArray 3)
  have G1 : w.grownBy (W0.alloc (.cells ([1, 2, 3, 4, 5, 6, 15, 16, 22, 23, 3, 16].map (Value.int .i64)).toArray 3)) (some g) := grown_trans G0 (World.grownBy_alloc _ _ _)
  have R1 := R0.below (bel_alloc W0 (.cells ([1, 2, 3, 4, 5, 6, 15, 16, 22, 23, 3, 16].map (Value.int .i64)).toArray 3))
  have hne1 : W0.heap.size ≠ g := by have := C0.hi; omega
  have HGR : Hid (g < w.heap.size ∧ w0.heap.size ≤ g) := ⟨hg, hlo⟩
  clear hC hW0 C0 G0 R0 hlo
  go_enter Try.func52, Try.ntmps52
  go_upto_region 1 with fail
  rw [← HW.out]
  go_wp2_with fail
  refine (l1Int_any w0 a cap zs _ g ⟨W0.heap.size, 0, none⟩ 12 12 [1, 2, 3, 4, 5, 6, 15, 16, 22, 23, 3, 16] rfl (by omega) (by omega) I1 hne1 C1).mono ?_
  rintro e u1 ⟨kd, rfl, hkd, C2, g2⟩
  have G2 := grown_trans G1 g2
  have R2 := R1.grown g2 (by simp; omega)
  have hk : kd = 1 ∨ kd = 2 ∨ kd = 3 ∨ kd = 4 ∨ kd = 5 ∨ kd = 6 ∨ kd = 15 ∨ kd = 16 ∨ kd = 22 ∨ kd = 23 := by simp at hkd; omega
  clear I1 C1 G1 R1 g2 hne1 hkd
  go_wp2_with fail
  refine (l1Below_any w0 a cap zs _ g _ (by decide) C2).mono ?_
  rintro e u2 ⟨p, rfl, hp, C3, g3⟩
  have G3 := grown_trans G2 g3
  have R3 := R2.grown g3 (by simp; omega)
  clear C2 G2 R2 g3
  obtain rfl | rfl | rfl | rfl | rfl | rfl | rfl | rfl | rfl | rfl := hk
  · skip
    obtain ⟨u3, hu3⟩ : ∃ u3, u3 = u2.alloc (.cells #[.int .i64 1, .int .i64 (nr + p), .int .i64 0, .slice none 0 0, .slice none 0 0, .int .i64 0] 46) := ⟨_, rfl⟩
    have HU : Hid (u3 = _) := hu3
    obtain ⟨B, hB⟩ : ∃ B, B = u2.heap.size := ⟨_, rfl⟩
    have HBe : Hid (B = u2.heap.size) := hB
    have HB : Hid (w.heap.size < B) := by show w.heap.size < B; have := R3.lt; omega
    have C4 : Cur w0 a cap zs u3 g := by rw [hu3]; exact C3.alloc _
    have G4 : w.grownBy u3 (some g) := by rw [hu3]; exact grown_trans G3 (World.grownBy_alloc _ _ _)
    have R4 : Blk u3 w.heap.size 46 #[.int .i64 0, .int .i64 0, .int .i64 0, .slice none 0 0, .slice none 0 0, .int .i64 0] := by rw [hu3]; exact R3.below (bel_alloc _ _)
    have Q4 : Blk u3 B 46 #[.int .i64 1, .int .i64 (nr + p), .int .i64 0, .slice none 0 0, .slice none 0 0, .int .i64 0] := by rw [hu3, hB]; exact Blk.new _ _ _
    clear C3 G3 R3 hu3 hB
    go_upto_region 2 with fail
    rw [← HU.out]
    simp only [← HBe.out]
    go_wp2_with fail
    refine (l1Below_any w0 a cap zs _ g _ (by decide) C4).mono ?_
    rintro e t5 ⟨x, rfl, hx, C5, gg⟩
    have G5 := grown_trans G4 gg
    have R5 := R4.grown gg (by have := HGR.out; simp; omega)
    have Q5 := Q4.grown gg (by have := HGR.out; have := HB.out; simp; omega)
    clear C4 R4 Q4 gg 
    clear G4
    have k0 := Q5.cell 0 rfl
    go_upto_region 4 with fail
    have qc := Q5.cell 2 rfl
    have qf := Q5.fro 2
    have Q6 := Q5.set 2 (.int .i64 (1 + x))
    have R6 := R5.setNe (g' := B) (j := 2) (y := .int .i64 (1 + x)) (by have := HB.out; omega)
    have C6 := C5.setHi (G := B) (j := 2) (y := .int .i64 (1 + x)) (by have := HB.out; have := HGR.out; omega) (by have := HB.out; have := HGR.out; omega)
    have G6 := grown_setHi (G := B) (j := 2) (y := .int .i64 (1 + x)) G5 (by have := HB.out; omega)
    go_upto_region 19 with fail
    obtain ⟨v6, hv6⟩ : ∃ v6, v6 = t5.setCell ⟨B, 2, none⟩ (.int .i64 (1 + x)) := ⟨_, rfl⟩
    rw [← hv6] at Q6 R6 C6 G6 ⊢
    clear hv6 qc qf Q5 R5 C5 G5 
    obtain ⟨q0, q1, q2, q3, q4, q5⟩ := Q6.six
    obtain ⟨y0, y1, y2, y3, y4, y5⟩ := R6.six
    have fy := R6.fro
    have OI : OwnI v6 w.heap.size (.slice none 0 0) [] := (ownI_nil _ _)
    have OB : OwnB v6 w.heap.size (.slice none 0 0) [] := (ownB_nil _ _)
    have HH : Hid (OwnI v6 w.heap.size (.slice none 0 0) [] ∧ OwnB v6 w.heap.size (.slice none 0 0) [] ∧ Cur w0 a cap zs v6 g ∧ w.grownBy v6 (some g) ∧ Blk v6 w.heap.size 46 #[.int .i64 0, .int .i64 0, .int .i64 0, .slice none 0 0, .slice none 0 0, .int .i64 0]) := ⟨OI, OB, C6, G6, R6⟩
    clear OI OB C6 G6 R6 Q6 
    go_wp2
    refine bodyPost_ret (v := rq 1 (nr + p) ((1 + x)) (0) none none 0 0 0 0) (by simp [results, Try.results52, go_sem, y0, y1, y2, y3, y4, y5]) rfl ?_
    obtain ⟨OI, OB, CE, GE, RE⟩ := HH.out
    have hgR : g ≠ w.heap.size := by have := HGR.out; omega
    have hwR : w0.heap.size ≤ w.heap.size := by have := HGR.out; omega
    exact ⟨_, _, _, _, _, _, _, _, _, _, [], [], rfl, rfl, rfl, by first | omega | (have := HM.out; omega), by first | omega | (have := HM.out; omega), rowp_set6 OI ⟨_, RE⟩ (by decide), rowp_set6 OB ⟨_, RE⟩ (by decide), (((((CE.setHi hgR hwR).setHi hgR hwR).setHi hgR hwR).setHi hgR hwR).setHi hgR hwR).setHi hgR hwR, grown_setHi (grown_setHi (grown_setHi (grown_setHi (grown_setHi (grown_setHi GE (Nat.le_refl _)) (Nat.le_refl _)) (Nat.le_refl _)) (Nat.le_refl _)) (Nat.le_refl _)) (Nat.le_refl _)⟩
  · skip
    obtain ⟨u3, hu3⟩ : ∃ u3, u3 = u2.alloc (.cells #[.int .i64 2, .int .i64 (nr + p), .int .i64 0, .slice none 0 0, .slice none 0 0, .int .i64 0] 46) := ⟨_, rfl⟩
    have HU : Hid (u3 = _) := hu3
    obtain ⟨B, hB⟩ : ∃ B, B = u2.heap.size := ⟨_, rfl⟩
    have HBe : Hid (B = u2.heap.size) := hB
    have HB : Hid (w.heap.size < B) := by show w.heap.size < B; have := R3.lt; omega
    have C4 : Cur w0 a cap zs u3 g := by rw [hu3]; exact C3.alloc _
    have G4 : w.grownBy u3 (some g) := by rw [hu3]; exact grown_trans G3 (World.grownBy_alloc _ _ _)
    have R4 : Blk u3 w.heap.size 46 #[.int .i64 0, .int .i64 0, .int .i64 0, .slice none 0 0, .slice none 0 0, .int .i64 0] := by rw [hu3]; exact R3.below (bel_alloc _ _)
    have Q4 : Blk u3 B 46 #[.int .i64 2, .int .i64 (nr + p), .int .i64 0, .slice none 0 0, .slice none 0 0, .int .i64 0] := by rw [hu3, hB]; exact Blk.new _ _ _
    clear C3 G3 R3 hu3 hB
    go_upto_region 2 with fail
    rw [← HU.out]
    simp only [← HBe.out]
    go_wp2_with fail
    refine (l1Below_any w0 a cap zs _ g _ (by decide) C4).mono ?_
    rintro e t5 ⟨x, rfl, hx, C5, gg⟩
    have G5 := grown_trans G4 gg
    have R5 := R4.grown gg (by have := HGR.out; simp; omega)
    have Q5 := Q4.grown gg (by have := HGR.out; have := HB.out; simp; omega)
    clear C4 R4 Q4 gg 
    clear G4
    have k0 := Q5.cell 0 rfl
    go_upto_region 4 with fail
    have qc := Q5.cell 2 rfl
    have qf := Q5.fro 2
    have Q6 := Q5.set 2 (.int .i64 (1 + x))
    have R6 := R5.setNe (g' := B) (j := 2) (y := .int .i64 (1 + x)) (by have := HB.out; omega)
    have C6 := C5.setHi (G := B) (j := 2) (y := .int .i64 (1 + x)) (by have := HB.out; have := HGR.out; omega) (by have := HB.out; have := HGR.out; omega)
    have G6 := grown_setHi (G := B) (j := 2) (y := .int .i64 (1 + x)) G5 (by have := HB.out; omega)
    go_upto_region 19 with fail
    obtain ⟨v6, hv6⟩ : ∃ v6, v6 = t5.setCell ⟨B, 2, none⟩ (.int .i64 (1 + x)) := ⟨_, rfl⟩
    rw [← hv6] at Q6 R6 C6 G6 ⊢
    clear hv6 qc qf Q5 R5 C5 G5 
    obtain ⟨q0, q1, q2, q3, q4, q5⟩ := Q6.six
    obtain ⟨y0, y1, y2, y3, y4, y5⟩ := R6.six
    have fy := R6.fro
    have OI : OwnI v6 w.heap.size (.slice none 0 0) [] := (ownI_nil _ _)
    have OB : OwnB v6 w.heap.size (.slice none 0 0) [] := (ownB_nil _ _)
    have HH : Hid (OwnI v6 w.heap.size (.slice none 0 0) [] ∧ OwnB v6 w.heap.size (.slice none 0 0) [] ∧ Cur w0 a cap zs v6 g ∧ w.grownBy v6 (some g) ∧ Blk v6 w.heap.size 46 #[.int .i64 0, .int .i64 0, .int .i64 0, .slice none 0 0, .slice none 0 0, .int .i64 0]) := ⟨OI, OB, C6, G6, R6⟩
    clear OI OB C6 G6 R6 Q6 
    go_wp2
    refine bodyPost_ret (v := rq 2 (nr + p) ((1 + x)) (0) none none 0 0 0 0) (by simp [results, Try.results52, go_sem, y0, y1, y2, y3, y4, y5]) rfl ?_
    obtain ⟨OI, OB, CE, GE, RE⟩ := HH.out
    have hgR : g ≠ w.heap.size := by have := HGR.out; omega
    have hwR : w0.heap.size ≤ w.heap.size := by have := HGR.out; omega
    exact ⟨_, _, _, _, _, _, _, _, _, _, [], [], rfl, rfl, rfl, by first | omega | (have := HM.out; omega), by first | omega | (have := HM.out; omega), rowp_set6 OI ⟨_, RE⟩ (by decide), rowp_set6 OB ⟨_, RE⟩ (by decide), (((((CE.setHi hgR hwR).setHi hgR hwR).setHi hgR hwR).setHi hgR hwR).setHi hgR hwR).setHi hgR hwR, grown_setHi (grown_setHi (grown_setHi (grown_setHi (grown_setHi (grown_setHi GE (Nat.le_refl _)) (Nat.le_refl _)) (Nat.le_refl _)) (Nat.le_refl _)) (Nat.le_refl _)) (Nat.le_refl _)⟩
  · skip
    obtain ⟨u3, hu3⟩ : ∃ u3, u3 = u2.alloc (.cells #[.int .i64 3, .int .i64 (nr + p), .int .i64 0, .slice none 0 0, .slice none 0 0, .int .i64 0] 46) := ⟨_, rfl⟩
    have HU : Hid (u3 = _) := hu3
    obtain ⟨B, hB⟩ : ∃ B, B = u2.heap.size := ⟨_, rfl⟩
    have HBe : Hid (B = u2.heap.size) := hB
    have HB : Hid (w.heap.size < B) := by show w.heap.size < B; have := R3.lt; omega
    have C4 : Cur w0 a cap zs u3 g := by rw [hu3]; exact C3.alloc _
    have G4 : w.grownBy u3 (some g) := by rw [hu3]; exact grown_trans G3 (World.grownBy_alloc _ _ _)
    have R4 : Blk u3 w.heap.size 46 #[.int .i64 0, .int .i64 0, .int .i64 0, .slice none 0 0, .slice none 0 0, .int .i64 0] := by rw [hu3]; exact R3.below (bel_alloc _ _)
    have Q4 : Blk u3 B 46 #[.int .i64 3, .int .i64 (nr + p), .int .i64 0, .slice none 0 0, .slice none 0 0, .int .i64 0] := by rw [hu3, hB]; exact Blk.new _ _ _
    clear C3 G3 R3 hu3 hB
    go_upto_region 2 with fail
    rw [← HU.out]
    simp only [← HBe.out]
    go_wp2_with fail
    refine (l1Below_any w0 a cap zs _ g _ (by decide) C4).mono ?_
    rintro e t5 ⟨x, rfl, hx, C5, gg⟩
    have G5 := grown_trans G4 gg
    have R5 := R4.grown gg (by have := HGR.out; simp; omega)
    have Q5 := Q4.grown gg (by have := HGR.out; have := HB.out; simp; omega)
    clear C4 R4 Q4 gg 
    clear G4
    have k0 := Q5.cell 0 rfl
    go_upto_region 4 with fail
    have qc := Q5.cell 2 rfl
    have qf := Q5.fro 2
    have Q6 := Q5.set 2 (.int .i64 (1 + x))
    have R6 := R5.setNe (g' := B) (j := 2) (y := .int .i64 (1 + x)) (by have := HB.out; omega)
    have C6 := C5.setHi (G := B) (j := 2) (y := .int .i64 (1 + x)) (by have := HB.out; have := HGR.out; omega) (by have := HB.out; have := HGR.out; omega)
    have G6 := grown_setHi (G := B) (j := 2) (y := .int .i64 (1 + x)) G5 (by have := HB.out; omega)
    go_upto_region 19 with fail
    obtain ⟨v6, hv6⟩ : ∃ v6, v6 = t5.setCell ⟨B, 2, none⟩ (.int .i64 (1 + x)) := ⟨_, rfl⟩
    rw [← hv6] at Q6 R6 C6 G6 ⊢
    clear hv6 qc qf Q5 R5 C5 G5 
    obtain ⟨q0, q1, q2, q3, q4, q5⟩ := Q6.six
    obtain ⟨y0, y1, y2, y3, y4, y5⟩ := R6.six
    have fy := R6.fro
    have OI : OwnI v6 w.heap.size (.slice none 0 0) [] := (ownI_nil _ _)
    have OB : OwnB v6 w.heap.size (.slice none 0 0) [] := (ownB_nil _ _)
    have HH : Hid (OwnI v6 w.heap.size (.slice none 0 0) [] ∧ OwnB v6 w.heap.size (.slice none 0 0) [] ∧ Cur w0 a cap zs v6 g ∧ w.grownBy v6 (some g) ∧ Blk v6 w.heap.size 46 #[.int .i64 0, .int .i64 0, .int .i64 0, .slice none 0 0, .slice none 0 0, .int .i64 0]) := ⟨OI, OB, C6, G6, R6⟩
    clear OI OB C6 G6 R6 Q6 
    go_wp2
    refine bodyPost_ret (v := rq 3 (nr + p) ((1 + x)) (0) none none 0 0 0 0) (by simp [results, Try.results52, go_sem, y0, y1, y2, y3, y4, y5]) rfl ?_
    obtain ⟨OI, OB, CE, GE, RE⟩ := HH.out
    have hgR : g ≠ w.heap.size := by have := HGR.out; omega
    have hwR : w0.heap.size ≤ w.heap.size := by have := HGR.out; omega
    exact ⟨_, _, _, _, _, _, _, _, _, _, [], [], rfl, rfl, rfl, by first | omega | (have := HM.out; omega), by first | omega | (have := HM.out; omega), rowp_set6 OI ⟨_, RE⟩ (by decide), rowp_set6 OB ⟨_, RE⟩ (by decide), (((((CE.setHi hgR hwR).setHi hgR hwR).setHi hgR hwR).setHi hgR hwR).setHi hgR hwR).setHi hgR hwR, grown_setHi (grown_setHi (grown_setHi (grown_setHi (grown_setHi (grown_setHi GE (Nat.le_refl _)) (Nat.le_refl _)) (Nat.le_refl _)) (Nat.le_refl _)) (Nat.le_refl _)) (Nat.le_refl _)⟩
  · skip
    obtain ⟨u3, hu3⟩ : ∃ u3, u3 = u2.alloc (.cells #[.int .i64 4, .int .i64 (nr + p), .int .i64 0, .slice none 0 0, .slice none 0 0, .int .i64 0] 46) := ⟨_, rfl⟩
    have HU : Hid (u3 = _) := hu3
    obtain ⟨B, hB⟩ : ∃ B, B = u2.heap.size := ⟨_, rfl⟩
    have HBe : Hid (B = u2.heap.size) := hB
    have HB : Hid (w.heap.size < B) := by show w.heap.size < B; have := R3.lt; omega
    have C4 : Cur w0 a cap zs u3 g := by rw [hu3]; exact C3.alloc _
    have G4 : w.grownBy u3 (some g) := by rw [hu3]; exact grown_trans G3 (World.grownBy_alloc _ _ _)
    have R4 : Blk u3 w.heap.size 46 #[.int .i64 0, .int .i64 0, .int .i64 0, .slice none 0 0, .slice none 0 0, .int .i64 0] := by rw [hu3]; exact R3.below (bel_alloc _ _)
    have Q4 : Blk u3 B 46 #[.int .i64 4, .int .i64 (nr + p), .int .i64 0, .slice none 0 0, .slice none 0 0, .int .i64 0] := by rw [hu3, hB]; exact Blk.new _ _ _
    clear C3 G3 R3 hu3 hB
    go_upto_region 2 with fail
    rw [← HU.out]
    simp only [← HBe.out]
    go_wp2_with fail
    refine (l1Below_any w0 a cap zs _ g _ (by decide) C4).mono ?_
    rintro e t5 ⟨x, rfl, hx, C5, gg⟩
    have G5 := grown_trans G4 gg
    have R5 := R4.grown gg (by have := HGR.out; simp; omega)
    have Q5 := Q4.grown gg (by have := HGR.out; have := HB.out; simp; omega)
    clear C4 R4 Q4 gg 
    clear G4
    have k0 := Q5.cell 0 rfl
    go_upto_region 4 with fail
    have qc := Q5.cell 2 rfl
    have qf := Q5.fro 2
    have Q6 := Q5.set 2 (.int .i64 (1 + x))
    have R6 := R5.setNe (g' := B) (j := 2) (y := .int .i64 (1 + x)) (by have := HB.out; omega)
    have C6 := C5.setHi (G := B) (j := 2) (y := .int .i64 (1 + x)) (by have := HB.out; have := HGR.out; omega) (by have := HB.out; have := HGR.out; omega)
    have G6 := grown_setHi (G := B) (j := 2) (y := .int .i64 (1 + x)) G5 (by have := HB.out; omega)
    go_upto_region 19 with fail
    obtain ⟨v6, hv6⟩ : ∃ v6, v6 = t5.setCell ⟨B, 2, none⟩ (.int .i64 (1 + x)) := ⟨_, rfl⟩
    rw [← hv6] at Q6 R6 C6 G6 ⊢
    clear hv6 qc qf Q5 R5 C5 G5 
    obtain ⟨q0, q1, q2, q3, q4, q5⟩ := Q6.six
    obtain ⟨y0, y1, y2, y3, y4, y5⟩ := R6.six
    have fy := R6.fro
    have OI : OwnI v6 w.heap.size (.slice none 0 0) [] := (ownI_nil _ _)
    have OB : OwnB v6 w.heap.size (.slice none 0 0) [] := (ownB_nil _ _)
    have HH : Hid (OwnI v6 w.heap.size (.slice none 0 0) [] ∧ OwnB v6 w.heap.size (.slice none 0 0) [] ∧ Cur w0 a cap zs v6 g ∧ w.grownBy v6 (some g) ∧ Blk v6 w.heap.size 46 #[.int .i64 0, .int .i64 0, .int .i64 0, .slice none 0 0, .slice none 0 0, .int .i64 0]) := ⟨OI, OB, C6, G6, R6⟩
    clear OI OB C6 G6 R6 Q6 
    go_wp2
    refine bodyPost_ret (v := rq 4 (nr + p) ((1 + x)) (0) none none 0 0 0 0) (by simp [results, Try.results52, go_sem, y0, y1, y2, y3, y4, y5]) rfl ?_
    obtain ⟨OI, OB, CE, GE, RE⟩ := HH.out
    have hgR : g ≠ w.heap.size := by have := HGR.out; omega
    have hwR : w0.heap.size ≤ w.heap.size := by have := HGR.out; omega
    exact ⟨_, _, _, _, _, _, _, _, _, _, [], [], rfl, rfl, rfl, by first | omega | (have := HM.out; omega), by first | omega | (have := HM.out; omega), rowp_set6 OI ⟨_, RE⟩ (by decide), rowp_set6 OB ⟨_, RE⟩ (by decide), (((((CE.setHi hgR hwR).setHi hgR hwR).setHi hgR hwR).setHi hgR hwR).setHi hgR hwR).setHi hgR hwR, grown_setHi (grown_setHi (grown_setHi (grown_setHi (grown_setHi (grown_setHi GE (Nat.le_refl _)) (Nat.le_refl _)) (Nat.le_refl _)) (Nat.le_refl _)) (Nat.le_refl _)) (Nat.le_refl _)⟩
  · skip
    obtain ⟨u3, hu3⟩ : ∃ u3, u3 = u2.alloc (.cells #[.int .i64 5, .int .i64 (nr + p), .int .i64 0, .slice none 0 0, .slice none 0 0, .int .i64 0] 46) := ⟨_, rfl⟩
    have HU : Hid (u3 = _) := hu3
    obtain ⟨B, hB⟩ : ∃ B, B = u2.heap.size := ⟨_, rfl⟩
    have HBe : Hid (B = u2.heap.size) := hB
    have HB : Hid (w.heap.size < B) := by show w.heap.size < B; have := R3.lt; omega
    have C4 : Cur w0 a cap zs u3 g := by rw [hu3]; exact C3.alloc _
    have G4 : w.grownBy u3 (some g) := by rw [hu3]; exact grown_trans G3 (World.grownBy_alloc _ _ _)
    have R4 : Blk u3 w.heap.size 46 #[.int .i64 0, .int .i64 0, .int .i64 0, .slice none 0 0, .slice none 0 0, .int .i64 0] := by rw [hu3]; exact R3.below (bel_alloc _ _)
    have Q4 : Blk u3 B 46 #[.int .i64 5, .int .i64 (nr + p), .int .i64 0, .slice none 0 0, .slice none 0 0, .int .i64 0] := by rw [hu3, hB]; exact Blk.new _ _ _
    clear C3 G3 R3 hu3 hB
    go_upto_region 2 with fail
    rw [← HU.out]
    simp only [← HBe.out]
    go_wp2_with fail
    refine (l1Below_any w0 a cap zs _ g _ (by decide) C4).mono ?_
    rintro e t5 ⟨x, rfl, hx, C5, gg⟩
    have G5 := grown_trans G4 gg
    have R5 := R4.grown gg (by have := HGR.out; simp; omega)
    have Q5 := Q4.grown gg (by have := HGR.out; have := HB.out; simp; omega)
    clear C4 R4 Q4 gg 
    clear G4
    have k0 := Q5.cell 0 rfl
    go_upto_region 6 with fail
    go_wp2_with fail
    refine (l2Bits_at w0 a cap zs _ g _ 1 rfl (by omega) C5).mono ?_
    rintro e t6 ⟨a', c', bs, rfl, hbs, oj, C6, gg⟩
    have G6 := grown_trans G5 gg
    have R6 := R5.grown gg (by have := HGR.out; simp; omega)
    have Q6 := Q5.grown gg (by have := HGR.out; have := HB.out; simp; omega)
    clear C5 R5 Q5 gg 
    have J6 := OwnB.mono oj G5.size
    have HBs : Hid (_ = bs.length) := hbs
    clear oj hbs G5
    have qc := Q6.cell 4 rfl
    have qf := Q6.fro 4
    have Q7 := Q6.set 4 (.slice (some a') 1 c')
    have R7 := R6.setNe (g' := B) (j := 4) (y := .slice (some a') 1 c') (by have := HB.out; omega)
    have C7 := C6.setHi (G := B) (j := 4) (y := .slice (some a') 1 c') (by have := HB.out; have := HGR.out; omega) (by have := HB.out; have := HGR.out; omega)
    have G7 := grown_setHi (G := B) (j := 4) (y := .slice (some a') 1 c') G6 (by have := HB.out; omega)
    have J7 := row_setE (j := 4) (y := .slice (some a') 1 c') J6 ⟨_, Q6⟩ (by decide)
    go_upto_region 19 with fail
    obtain ⟨v7, hv7⟩ : ∃ v7, v7 = t6.setCell ⟨B, 4, none⟩ (.slice (some a') 1 c') := ⟨_, rfl⟩
    rw [← hv7] at Q7 R7 C7 G7 J7 ⊢
    clear hv7 qc qf Q6 R6 C6 G6 J6
    obtain ⟨q0, q1, q2, q3, q4, q5⟩ := Q7.six
    obtain ⟨y0, y1, y2, y3, y4, y5⟩ := R7.six
    have fy := R7.fro
    have OI : OwnI v7 w.heap.size (.slice none 0 0) [] := (ownI_nil _ _)
    have OB : OwnB v7 w.heap.size (.slice (some a') 1 c') bs := J7
    have HH : Hid (OwnI v7 w.heap.size (.slice none 0 0) [] ∧ OwnB v7 w.heap.size (.slice (some a') 1 c') bs ∧ Cur w0 a cap zs v7 g ∧ w.grownBy v7 (some g) ∧ Blk v7 w.heap.size 46 #[.int .i64 0, .int .i64 0, .int .i64 0, .slice none 0 0, .slice none 0 0, .int .i64 0]) := ⟨OI, OB, C7, G7, R7⟩
    clear OI OB C7 G7 R7 Q7 J7
    go_wp2
    refine bodyPost_ret (v := rq 5 (nr + p) (0) (0) none (some a') 0 1 0 c') (by simp [results, Try.results52, go_sem, y0, y1, y2, y3, y4, y5]) rfl ?_
    obtain ⟨OI, OB, CE, GE, RE⟩ := HH.out
    have hgR : g ≠ w.heap.size := by have := HGR.out; omega
    have hwR : w0.heap.size ≤ w.heap.size := by have := HGR.out; omega
    exact ⟨_, _, _, _, _, _, _, _, _, _, [], bs, rfl, rfl, HBs.out, by first | omega | (have := HM.out; omega), by first | omega | (have := HM.out; omega), rowp_set6 OI ⟨_, RE⟩ (by decide), rowp_set6 OB ⟨_, RE⟩ (by decide), (((((CE.setHi hgR hwR).setHi hgR hwR).setHi hgR hwR).setHi hgR hwR).setHi hgR hwR).setHi hgR hwR, grown_setHi (grown_setHi (grown_setHi (grown_setHi (grown_setHi (grown_setHi GE (Nat.le_refl _)) (Nat.le_refl _)) (Nat.le_refl _)) (Nat.le_refl _)) (Nat.le_refl _)) (Nat.le_refl _)⟩
  · skip
    obtain ⟨u3, hu3⟩ : ∃ u3, u3 = u2.alloc (.cells #[.int .i64 6, .int .i64 (nr + p), .int .i64 0, .slice none 0 0, .slice none 0 0, .int .i64 0] 46) := ⟨_, rfl⟩
    have HU : Hid (u3 = _) := hu3
    obtain ⟨B, hB⟩ : ∃ B, B = u2.heap.size := ⟨_, rfl⟩
    have HBe : Hid (B = u2.heap.size) := hB
    have HB : Hid (w.heap.size < B) := by show w.heap.size < B; have := R3.lt; omega
    have C4 : Cur w0 a cap zs u3 g := by rw [hu3]; exact C3.alloc _
    have G4 : w.grownBy u3 (some g) := by rw [hu3]; exact grown_trans G3 (World.grownBy_alloc _ _ _)
    have R4 : Blk u3 w.heap.size 46 #[.int .i64 0, .int .i64 0, .int .i64 0, .slice none 0 0, .slice none 0 0, .int .i64 0] := by rw [hu3]; exact R3.below (bel_alloc _ _)
    have Q4 : Blk u3 B 46 #[.int .i64 6, .int .i64 (nr + p), .int .i64 0, .slice none 0 0, .slice none 0 0, .int .i64 0] := by rw [hu3, hB]; exact Blk.new _ _ _
    clear C3 G3 R3 hu3 hB
    go_upto_region 2 with fail
    rw [← HU.out]
    simp only [← HBe.out]
    go_wp2_with fail
    refine (l1Below_any w0 a cap zs _ g _ (by decide) C4).mono ?_
    rintro e t5 ⟨x, rfl, hx, C5, gg⟩
    have G5 := grown_trans G4 gg
    have R5 := R4.grown gg (by have := HGR.out; simp; omega)
    have Q5 := Q4.grown gg (by have := HGR.out; have := HB.out; simp; omega)
    clear C4 R4 Q4 gg 
    clear G4
    have k0 := Q5.cell 0 rfl
    go_upto_region 8 with fail
    go_wp2_with fail
    refine (l3List_at w0 a cap zs _ g _ 1 rfl (by omega) C5).mono ?_
    rintro e t6 ⟨a', c', ws, rfl, hws, oi, C6, gg⟩
    have G6 := grown_trans G5 gg
    have R6 := R5.grown gg (by have := HGR.out; simp; omega)
    have Q6 := Q5.grown gg (by have := HGR.out; have := HB.out; simp; omega)
    clear C5 R5 Q5 gg 
    have I6 := OwnI.mono oi G5.size
    have HWs : Hid (_ = ws.length) := hws
    clear oi hws G5
    have qc := Q6.cell 3 rfl
    have qf := Q6.fro 3
    have Q7 := Q6.set 3 (.slice a' 1 c')
    have R7 := R6.setNe (g' := B) (j := 3) (y := .slice a' 1 c') (by have := HB.out; omega)
    have C7 := C6.setHi (G := B) (j := 3) (y := .slice a' 1 c') (by have := HB.out; have := HGR.out; omega) (by have := HB.out; have := HGR.out; omega)
    have G7 := grown_setHi (G := B) (j := 3) (y := .slice a' 1 c') G6 (by have := HB.out; omega)
    have I7 := row_setE (j := 3) (y := .slice a' 1 c') I6 ⟨_, Q6⟩ (by decide)
    go_upto_region 19 with fail
    obtain ⟨v7, hv7⟩ : ∃ v7, v7 = t6.setCell ⟨B, 3, none⟩ (.slice a' 1 c') := ⟨_, rfl⟩
    rw [← hv7] at Q7 R7 C7 G7 I7 ⊢
    clear hv7 qc qf Q6 R6 C6 G6 I6
    obtain ⟨q0, q1, q2, q3, q4, q5⟩ := Q7.six
    obtain ⟨y0, y1, y2, y3, y4, y5⟩ := R7.six
    have fy := R7.fro
    have OI : OwnI v7 w.heap.size (.slice a' 1 c') ws := I7
    have OB : OwnB v7 w.heap.size (.slice none 0 0) [] := (ownB_nil _ _)
    have HH : Hid (OwnI v7 w.heap.size (.slice a' 1 c') ws ∧ OwnB v7 w.heap.size (.slice none 0 0) [] ∧ Cur w0 a cap zs v7 g ∧ w.grownBy v7 (some g) ∧ Blk v7 w.heap.size 46 #[.int .i64 0, .int .i64 0, .int .i64 0, .slice none 0 0, .slice none 0 0, .int .i64 0]) := ⟨OI, OB, C7, G7, R7⟩
    clear OI OB C7 G7 R7 Q7 I7
    go_wp2
    refine bodyPost_ret (v := rq 6 (nr + p) (0) (0) a' none 1 0 c' 0) (by simp [results, Try.results52, go_sem, y0, y1, y2, y3, y4, y5]) rfl ?_
    obtain ⟨OI, OB, CE, GE, RE⟩ := HH.out
    have hgR : g ≠ w.heap.size := by have := HGR.out; omega
    have hwR : w0.heap.size ≤ w.heap.size := by have := HGR.out; omega
    exact ⟨_, _, _, _, _, _, _, _, _, _, ws, [], rfl, HWs.out, rfl, by first | omega | (have := HM.out; omega), by first | omega | (have := HM.out; omega), rowp_set6 OI ⟨_, RE⟩ (by decide), rowp_set6 OB ⟨_, RE⟩ (by decide), (((((CE.setHi hgR hwR).setHi hgR hwR).setHi hgR hwR).setHi hgR hwR).setHi hgR hwR).setHi hgR hwR, grown_setHi (grown_setHi (grown_setHi (grown_setHi (grown_setHi (grown_setHi GE (Nat.le_refl _)) (Nat.le_refl _)) (Nat.le_refl _)) (Nat.le_refl _)) (Nat.le_refl _)) (Nat.le_refl _)⟩
  · skip
    obtain ⟨u3, hu3⟩ : ∃ u3, u3 = u2.alloc (.cells #[.int .i64 15, .int .i64 (nr + p), .int .i64 0, .slice none 0 0, .slice none 0 0, .int .i64 0] 46) := ⟨_, rfl⟩
    have HU : Hid (u3 = _) := hu3
    obtain ⟨B, hB⟩ : ∃ B, B = u2.heap.size := ⟨_, rfl⟩
    have HBe : Hid (B = u2.heap.size) := hB
    have HB : Hid (w.heap.size < B) := by show w.heap.size < B; have := R3.lt; omega
    have C4 : Cur w0 a cap zs u3 g := by rw [hu3]; exact C3.alloc _
    have G4 : w.grownBy u3 (some g) := by rw [hu3]; exact grown_trans G3 (World.grownBy_alloc _ _ _)
    have R4 : Blk u3 w.heap.size 46 #[.int .i64 0, .int .i64 0, .int .i64 0, .slice none 0 0, .slice none 0 0, .int .i64 0] := by rw [hu3]; exact R3.below (bel_alloc _ _)
    have Q4 : Blk u3 B 46 #[.int .i64 15, .int .i64 (nr + p), .int .i64 0, .slice none 0 0, .slice none 0 0, .int .i64 0] := by rw [hu3, hB]; exact Blk.new _ _ _
    clear C3 G3 R3 hu3 hB
    go_upto_region 2 with fail
    rw [← HU.out]
    simp only [← HBe.out]
    go_wp2_with fail
    refine (l1Below_any w0 a cap zs _ g _ (by decide) C4).mono ?_
    rintro e t5 ⟨x, rfl, hx, C5, gg⟩
    have G5 := grown_trans G4 gg
    have R5 := R4.grown gg (by have := HGR.out; simp; omega)
    have Q5 := Q4.grown gg (by have := HGR.out; have := HB.out; simp; omega)
    clear C4 R4 Q4 gg 
    clear G4
    have k0 := Q5.cell 0 rfl
    go_upto_region 12 with fail
    go_wp2_with fail
    refine (l1Below_any w0 a cap zs _ g _ (by decide) C5).mono ?_
    rintro e t6 ⟨y, rfl, hy, C6, gg⟩
    have G6 := grown_trans G5 gg
    have R6 := R5.grown gg (by have := HGR.out; simp; omega)
    have Q6 := Q5.grown gg (by have := HGR.out; have := HB.out; simp; omega)
    clear C5 R5 Q5 gg 
    clear G5
    obtain ⟨m, hm⟩ : ∃ m : Nat, 1 + x + y = (m : Int) := ⟨(1 + x + y).toNat, by omega⟩
    have HM : Hid (1 + x + y = (m : Int) ∧ m ≤ 100) := ⟨hm, by omega⟩
    clear hm
    go_wp2_with fail
    refine (l2Bits_at w0 a cap zs _ g _ m HM.out.1 (by have := HM.out; omega) C6).mono ?_
    rintro e t7 ⟨a', c', bs, rfl, hbs, oj, C7, gg⟩
    have G7 := grown_trans G6 gg
    have R7 := R6.grown gg (by have := HGR.out; simp; omega)
    have Q7 := Q6.grown gg (by have := HGR.out; have := HB.out; simp; omega)
    clear C6 R6 Q6 gg 
    have J7 := OwnB.mono oj G6.size
    have HBs : Hid (_ = bs.length) := hbs
    clear oj hbs G6
    have qc := Q7.cell 4 rfl
    have qf := Q7.fro 4
    have Q8 := Q7.set 4 (.slice (some a') m c')
    have R8 := R7.setNe (g' := B) (j := 4) (y := .slice (some a') m c') (by have := HB.out; omega)
    have C8 := C7.setHi (G := B) (j := 4) (y := .slice (some a') m c') (by have := HB.out; have := HGR.out; omega) (by have := HB.out; have := HGR.out; omega)
    have G8 := grown_setHi (G := B) (j := 4) (y := .slice (some a') m c') G7 (by have := HB.out; omega)
    have J8 := row_setE (j := 4) (y := .slice (some a') m c') J7 ⟨_, Q7⟩ (by decide)
    go_upto_region 19 with fail
    obtain ⟨v8, hv8⟩ : ∃ v8, v8 = t7.setCell ⟨B, 4, none⟩ (.slice (some a') m c') := ⟨_, rfl⟩
    rw [← hv8] at Q8 R8 C8 G8 J8 ⊢
    clear hv8 qc qf Q7 R7 C7 G7 J7
    obtain ⟨q0, q1, q2, q3, q4, q5⟩ := Q8.six
    obtain ⟨y0, y1, y2, y3, y4, y5⟩ := R8.six
    have fy := R8.fro
    have OI : OwnI v8 w.heap.size (.slice none 0 0) [] := (ownI_nil _ _)
    have OB : OwnB v8 w.heap.size (.slice (some a') m c') bs := J8
    have HH : Hid (OwnI v8 w.heap.size (.slice none 0 0) [] ∧ OwnB v8 w.heap.size (.slice (some a') m c') bs ∧ Cur w0 a cap zs v8 g ∧ w.grownBy v8 (some g) ∧ Blk v8 w.heap.size 46 #[.int .i64 0, .int .i64 0, .int .i64 0, .slice none 0 0, .slice none 0 0, .int .i64 0]) := ⟨OI, OB, C8, G8, R8⟩
    clear OI OB C8 G8 R8 Q8 J8
    go_wp2
    refine bodyPost_ret (v := rq 15 (nr + p) (0) (0) none (some a') 0 m 0 c') (by simp [results, Try.results52, go_sem, y0, y1, y2, y3, y4, y5]) rfl ?_
    obtain ⟨OI, OB, CE, GE, RE⟩ := HH.out
    have hgR : g ≠ w.heap.size := by have := HGR.out; omega
    have hwR : w0.heap.size ≤ w.heap.size := by have := HGR.out; omega
    exact ⟨_, _, _, _, _, _, _, _, _, _, [], bs, rfl, rfl, HBs.out, by first | omega | (have := HM.out; omega), by first | omega | (have := HM.out; omega), rowp_set6 OI ⟨_, RE⟩ (by decide), rowp_set6 OB ⟨_, RE⟩ (by decide), (((((CE.setHi hgR hwR).setHi hgR hwR).setHi hgR hwR).setHi hgR hwR).setHi hgR hwR).setHi hgR hwR, grown_setHi (grown_setHi (grown_setHi (grown_setHi (grown_setHi (grown_setHi GE (Nat.le_refl _)) (Nat.le_refl _)) (Nat.le_refl _)) (Nat.le_refl _)) (Nat.le_refl _)) (Nat.le_refl _)⟩
  · skip
    obtain ⟨u3, hu3⟩ : ∃ u3, u3 = u2.alloc (.cells #[.int .i64 16, .int .i64 (nr + p), .int .i64 0, .slice none 0 0, .slice none 0 0, .int .i64 0] 46) := ⟨_, rfl⟩
    have HU : Hid (u3 = _) := hu3
    obtain ⟨B, hB⟩ : ∃ B, B = u2.heap.size := ⟨_, rfl⟩
    have HBe : Hid (B = u2.heap.size) := hB
    have HB : Hid (w.heap.size < B) := by show w.heap.size < B; have := R3.lt; omega
    have C4 : Cur w0 a cap zs u3 g := by rw [hu3]; exact C3.alloc _
    have G4 : w.grownBy u3 (some g) := by rw [hu3]; exact grown_trans G3 (World.grownBy_alloc _ _ _)
    have R4 : Blk u3 w.heap.size 46 #[.int .i64 0, .int .i64 0, .int .i64 0, .slice none 0 0, .slice none 0 0, .int .i64 0] := by rw [hu3]; exact R3.below (bel_alloc _ _)
    have Q4 : Blk u3 B 46 #[.int .i64 16, .int .i64 (nr + p), .int .i64 0, .slice none 0 0, .slice none 0 0, .int .i64 0] := by rw [hu3, hB]; exact Blk.new _ _ _
    clear C3 G3 R3 hu3 hB
    go_upto_region 2 with fail
    rw [← HU.out]
    simp only [← HBe.out]
    go_wp2_with fail
    refine (l1Below_any w0 a cap zs _ g _ (by decide) C4).mono ?_
    rintro e t5 ⟨x, rfl, hx, C5, gg⟩
    have G5 := grown_trans G4 gg
    have R5 := R4.grown gg (by have := HGR.out; simp; omega)
    have Q5 := Q4.grown gg (by have := HGR.out; have := HB.out; simp; omega)
    clear C4 R4 Q4 gg 
    clear G4
    have k0 := Q5.cell 0 rfl
    go_upto_region 14 with fail
    obtain ⟨m, hm⟩ : ∃ m : Nat, 1 + x = (m : Int) := ⟨(1 + x).toNat, by omega⟩
    have HM : Hid (1 + x = (m : Int) ∧ m ≤ 100) := ⟨hm, by omega⟩
    clear hm
    go_wp2_with fail
    refine (l3List_at w0 a cap zs _ g _ m HM.out.1 (by have := HM.out; omega) C5).mono ?_
    rintro e t6 ⟨a', c', ws, rfl, hws, oi, C6, gg⟩
    have G6 := grown_trans G5 gg
    have R6 := R5.grown gg (by have := HGR.out; simp; omega)
    have Q6 := Q5.grown gg (by have := HGR.out; have := HB.out; simp; omega)
    clear C5 R5 Q5 gg 
    have I6 := OwnI.mono oi G5.size
    have HWs : Hid (_ = ws.length) := hws
    clear oi hws G5
    have qc := Q6.cell 3 rfl
    have qf := Q6.fro 3
    have Q7 := Q6.set 3 (.slice a' m c')
    have R7 := R6.setNe (g' := B) (j := 3) (y := .slice a' m c') (by have := HB.out; omega)
    have C7 := C6.setHi (G := B) (j := 3) (y := .slice a' m c') (by have := HB.out; have := HGR.out; omega) (by have := HB.out; have := HGR.out; omega)
    have G7 := grown_setHi (G := B) (j := 3) (y := .slice a' m c') G6 (by have := HB.out; omega)
    have I7 := row_setE (j := 3) (y := .slice a' m c') I6 ⟨_, Q6⟩ (by decide)
    go_upto_region 19 with fail
    obtain ⟨v7, hv7⟩ : ∃ v7, v7 = t6.setCell ⟨B, 3, none⟩ (.slice a' m c') := ⟨_, rfl⟩
    rw [← hv7] at Q7 R7 C7 G7 I7 ⊢
    clear hv7 qc qf Q6 R6 C6 G6 I6
    obtain ⟨q0, q1, q2, q3, q4, q5⟩ := Q7.six
    obtain ⟨y0, y1, y2, y3, y4, y5⟩ := R7.six
    have fy := R7.fro
    have OI : OwnI v7 w.heap.size (.slice a' m c') ws := I7
    have OB : OwnB v7 w.heap.size (.slice none 0 0) [] := (ownB_nil _ _)
    have HH : Hid (OwnI v7 w.heap.size (.slice a' m c') ws ∧ OwnB v7 w.heap.size (.slice none 0 0) [] ∧ Cur w0 a cap zs v7 g ∧ w.grownBy v7 (some g) ∧ Blk v7 w.heap.size 46 #[.int .i64 0, .int .i64 0, .int .i64 0, .slice none 0 0, .slice none 0 0, .int .i64 0]) := ⟨OI, OB, C7, G7, R7⟩
    clear OI OB C7 G7 R7 Q7 I7
    go_wp2
    refine bodyPost_ret (v := rq 16 (nr + p) (0) (0) a' none m 0 c' 0) (by simp [results, Try.results52, go_sem, y0, y1, y2, y3, y4, y5]) rfl ?_
    obtain ⟨OI, OB, CE, GE, RE⟩ := HH.out
    have hgR : g ≠ w.heap.size := by have := HGR.out; omega
    have hwR : w0.heap.size ≤ w.heap.size := by have := HGR.out; omega
    exact ⟨_, _, _, _, _, _, _, _, _, _, ws, [], rfl, HWs.out, rfl, by first | omega | (have := HM.out; omega), by first | omega | (have := HM.out; omega), rowp_set6 OI ⟨_, RE⟩ (by decide), rowp_set6 OB ⟨_, RE⟩ (by decide), (((((CE.setHi hgR hwR).setHi hgR hwR).setHi hgR hwR).setHi hgR hwR).setHi hgR hwR).setHi hgR hwR, grown_setHi (grown_setHi (grown_setHi (grown_setHi (grown_setHi (grown_setHi GE (Nat.le_refl _)) (Nat.le_refl _)) (Nat.le_refl _)) (Nat.le_refl _)) (Nat.le_refl _)) (Nat.le_refl _)⟩
  · skip
    obtain ⟨u3, hu3⟩ : ∃ u3, u3 = u2.alloc (.cells #[.int .i64 22, .int .i64 (nr + p), .int .i64 0, .slice none 0 0, .slice none 0 0, .int .i64 0] 46) := ⟨_, rfl⟩
    have HU : Hid (u3 = _) := hu3
    obtain ⟨B, hB⟩ : ∃ B, B = u2.heap.size := ⟨_, rfl⟩
    have HBe : Hid (B = u2.heap.size) := hB
    have HB : Hid (w.heap.size < B) := by show w.heap.size < B; have := R3.lt; omega
    have C4 : Cur w0 a cap zs u3 g := by rw [hu3]; exact C3.alloc _
    have G4 : w.grownBy u3 (some g) := by rw [hu3]; exact grown_trans G3 (World.grownBy_alloc _ _ _)
    have R4 : Blk u3 w.heap.size 46 #[.int .i64 0, .int .i64 0, .int .i64 0, .slice none 0 0, .slice none 0 0, .int .i64 0] := by rw [hu3]; exact R3.below (bel_alloc _ _)
    have Q4 : Blk u3 B 46 #[.int .i64 22, .int .i64 (nr + p), .int .i64 0, .slice none 0 0, .slice none 0 0, .int .i64 0] := by rw [hu3, hB]; exact Blk.new _ _ _
    clear C3 G3 R3 hu3 hB
    go_upto_region 2 with fail
    rw [← HU.out]
    simp only [← HBe.out]
    go_wp2_with fail
    refine (l1Below_any w0 a cap zs _ g _ (by decide) C4).mono ?_
    rintro e t5 ⟨x, rfl, hx, C5, gg⟩
    have G5 := grown_trans G4 gg
    have R5 := R4.grown gg (by have := HGR.out; simp; omega)
    have Q5 := Q4.grown gg (by have := HGR.out; have := HB.out; simp; omega)
    clear C4 R4 Q4 gg 
    clear G4
    have k0 := Q5.cell 0 rfl
    go_upto_region 10 with fail
    go_wp2_with fail
    refine (l3List_at w0 a cap zs _ g _ 2 rfl (by omega) C5).mono ?_
    rintro e t6 ⟨a', c', ws, rfl, hws, oi, C6, gg⟩
    have G6 := grown_trans G5 gg
    have R6 := R5.grown gg (by have := HGR.out; simp; omega)
    have Q6 := Q5.grown gg (by have := HGR.out; have := HB.out; simp; omega)
    clear C5 R5 Q5 gg 
    have I6 := OwnI.mono oi G5.size
    have HWs : Hid (_ = ws.length) := hws
    clear oi hws G5
    have qc := Q6.cell 3 rfl
    have qf := Q6.fro 3
    have Q7 := Q6.set 3 (.slice a' 2 c')
    have R7 := R6.setNe (g' := B) (j := 3) (y := .slice a' 2 c') (by have := HB.out; omega)
    have C7 := C6.setHi (G := B) (j := 3) (y := .slice a' 2 c') (by have := HB.out; have := HGR.out; omega) (by have := HB.out; have := HGR.out; omega)
    have G7 := grown_setHi (G := B) (j := 3) (y := .slice a' 2 c') G6 (by have := HB.out; omega)
    have I7 := row_setE (j := 3) (y := .slice a' 2 c') I6 ⟨_, Q6⟩ (by decide)
    go_upto_region 19 with fail
    obtain ⟨v7, hv7⟩ : ∃ v7, v7 = t6.setCell ⟨B, 3, none⟩ (.slice a' 2 c') := ⟨_, rfl⟩
    rw [← hv7] at Q7 R7 C7 G7 I7 ⊢
    clear hv7 qc qf Q6 R6 C6 G6 I6
    obtain ⟨q0, q1, q2, q3, q4, q5⟩ := Q7.six
    obtain ⟨y0, y1, y2, y3, y4, y5⟩ := R7.six
    have fy := R7.fro
    have OI : OwnI v7 w.heap.size (.slice a' 2 c') ws := I7
    have OB : OwnB v7 w.heap.size (.slice none 0 0) [] := (ownB_nil _ _)
    have HH : Hid (OwnI v7 w.heap.size (.slice a' 2 c') ws ∧ OwnB v7 w.heap.size (.slice none 0 0) [] ∧ Cur w0 a cap zs v7 g ∧ w.grownBy v7 (some g) ∧ Blk v7 w.heap.size 46 #[.int .i64 0, .int .i64 0, .int .i64 0, .slice none 0 0, .slice none 0 0, .int .i64 0]) := ⟨OI, OB, C7, G7, R7⟩
    clear OI OB C7 G7 R7 Q7 I7
    go_wp2
    refine bodyPost_ret (v := rq 22 (nr + p) (0) (0) a' none 2 0 c' 0) (by simp [results, Try.results52, go_sem, y0, y1, y2, y3, y4, y5]) rfl ?_
    obtain ⟨OI, OB, CE, GE, RE⟩ := HH.out
    have hgR : g ≠ w.heap.size := by have := HGR.out; omega
    have hwR : w0.heap.size ≤ w.heap.size := by have := HGR.out; omega
    exact ⟨_, _, _, _, _, _, _, _, _, _, ws, [], rfl, HWs.out, rfl, by first | omega | (have := HM.out; omega), by first | omega | (have := HM.out; omega), rowp_set6 OI ⟨_, RE⟩ (by decide), rowp_set6 OB ⟨_, RE⟩ (by decide), (((((CE.setHi hgR hwR).setHi hgR hwR).setHi hgR hwR).setHi hgR hwR).setHi hgR hwR).setHi hgR hwR, grown_setHi (grown_setHi (grown_setHi (grown_setHi (grown_setHi (grown_setHi GE (Nat.le_refl _)) (Nat.le_refl _)) (Nat.le_refl _)) (Nat.le_refl _)) (Nat.le_refl _)) (Nat.le_refl _)⟩
  · skip
    obtain ⟨u3, hu3⟩ : ∃ u3, u3 = u2.alloc (.cells #[.int .i64 23, .int .i64 (nr + p), .int .i64 0, .slice none 0 0, .slice none 0 0, .int .i64 0] 46) := ⟨_, rfl⟩
    have HU : Hid (u3 = _) := hu3
    obtain ⟨B, hB⟩ : ∃ B, B = u2.heap.size := ⟨_, rfl⟩
    have HBe : Hid (B = u2.heap.size) := hB
    have HB : Hid (w.heap.size < B) := by show w.heap.size < B; have := R3.lt; omega
    have C4 : Cur w0 a cap zs u3 g := by rw [hu3]; exact C3.alloc _
    have G4 : w.grownBy u3 (some g) := by rw [hu3]; exact grown_trans G3 (World.grownBy_alloc _ _ _)
    have R4 : Blk u3 w.heap.size 46 #[.int .i64 0, .int .i64 0, .int .i64 0, .slice none 0 0, .slice none 0 0, .int .i64 0] := by rw [hu3]; exact R3.below (bel_alloc _ _)
    have Q4 : Blk u3 B 46 #[.int .i64 23, .int .i64 (nr + p), .int .i64 0, .slice none 0 0, .slice none 0 0, .int .i64 0] := by rw [hu3, hB]; exact Blk.new _ _ _
    clear C3 G3 R3 hu3 hB
    go_upto_region 2 with fail
    rw [← HU.out]
    simp only [← HBe.out]
    go_wp2_with fail
    refine (l1Below_any w0 a cap zs _ g _ (by decide) C4).mono ?_
    rintro e t5 ⟨x, rfl, hx, C5, gg⟩
    have G5 := grown_trans G4 gg
    have R5 := R4.grown gg (by have := HGR.out; simp; omega)
    have Q5 := Q4.grown gg (by have := HGR.out; have := HB.out; simp; omega)
    clear C4 R4 Q4 gg 
    clear G4
    have k0 := Q5.cell 0 rfl
    go_upto_region 16 with fail
    have qc := Q5.cell 2 rfl
    have qf := Q5.fro 2
    have Q6 := Q5.set 2 (.int .i64 (1 + x))
    have R6 := R5.setNe (g' := B) (j := 2) (y := .int .i64 (1 + x)) (by have := HB.out; omega)
    have C6 := C5.setHi (G := B) (j := 2) (y := .int .i64 (1 + x)) (by have := HB.out; have := HGR.out; omega) (by have := HB.out; have := HGR.out; omega)
    have G6 := grown_setHi (G := B) (j := 2) (y := .int .i64 (1 + x)) G5 (by have := HB.out; omega)
    go_upto_region 17 with fail
    obtain ⟨v6, hv6⟩ : ∃ v6, v6 = t5.setCell ⟨B, 2, none⟩ (.int .i64 (1 + x)) := ⟨_, rfl⟩
    rw [← hv6] at Q6 R6 C6 G6 ⊢
    clear hv6 qc qf Q5 R5 C5 G5 
    go_wp2_with fail
    refine (l1Below_any w0 a cap zs _ g _ (by decide) C6).mono ?_
    rintro e t7 ⟨y, rfl, hy, C7, gg⟩
    have G7 := grown_trans G6 gg
    have R7 := R6.grown gg (by have := HGR.out; simp; omega)
    have Q7 := Q6.grown gg (by have := HGR.out; have := HB.out; simp; omega)
    clear C6 R6 Q6 gg 
    clear G6
    have qc := Q7.cell 5 rfl
    have qf := Q7.fro 5
    have Q8 := Q7.set 5 (.int .i64 (nr + y))
    have R8 := R7.setNe (g' := B) (j := 5) (y := .int .i64 (nr + y)) (by have := HB.out; omega)
    have C8 := C7.setHi (G := B) (j := 5) (y := .int .i64 (nr + y)) (by have := HB.out; have := HGR.out; omega) (by have := HB.out; have := HGR.out; omega)
    have G8 := grown_setHi (G := B) (j := 5) (y := .int .i64 (nr + y)) G7 (by have := HB.out; omega)
    go_upto_region 18 with fail
    obtain ⟨v8, hv8⟩ : ∃ v8, v8 = t7.setCell ⟨B, 5, none⟩ (.int .i64 (nr + y)) := ⟨_, rfl⟩
    rw [← hv8] at Q8 R8 C8 G8 ⊢
    clear hv8 qc qf Q7 R7 C7 G7 
    go_wp2_with fail
    refine (l1Below_any w0 a cap zs _ g _ (by decide) C8).mono ?_
    rintro e t9 ⟨z, rfl, hz, C9, gg⟩
    have G9 := grown_trans G8 gg
    have R9 := R8.grown gg (by have := HGR.out; simp; omega)
    have Q9 := Q8.grown gg (by have := HGR.out; have := HB.out; simp; omega)
    clear C8 R8 Q8 gg 
    clear G8
    obtain ⟨m, hm⟩ : ∃ m : Nat, 1 + z = (m : Int) := ⟨(1 + z).toNat, by omega⟩
    have HM : Hid (1 + z = (m : Int) ∧ m ≤ 100) := ⟨hm, by omega⟩
    clear hm
    go_wp2_with fail
    refine (l3List_at w0 a cap zs _ g _ m HM.out.1 (by have := HM.out; omega) C9).mono ?_
    rintro e t10 ⟨a', c', ws, rfl, hws, oi, C10, gg⟩
    have G10 := grown_trans G9 gg
    have R10 := R9.grown gg (by have := HGR.out; simp; omega)
    have Q10 := Q9.grown gg (by have := HGR.out; have := HB.out; simp; omega)
    clear C9 R9 Q9 gg 
    have I10 := OwnI.mono oi G9.size
    have HWs : Hid (_ = ws.length) := hws
    clear oi hws G9
    have qc := Q10.cell 3 rfl
    have qf := Q10.fro 3
    have Q11 := Q10.set 3 (.slice a' m c')
    have R11 := R10.setNe (g' := B) (j := 3) (y := .slice a' m c') (by have := HB.out; omega)
    have C11 := C10.setHi (G := B) (j := 3) (y := .slice a' m c') (by have := HB.out; have := HGR.out; omega) (by have := HB.out; have := HGR.out; omega)
    have G11 := grown_setHi (G := B) (j := 3) (y := .slice a' m c') G10 (by have := HB.out; omega)
    have I11 := row_setE (j := 3) (y := .slice a' m c') I10 ⟨_, Q10⟩ (by decide)
    go_upto_region 19 with fail
    obtain ⟨v11, hv11⟩ : ∃ v11, v11 = t10.setCell ⟨B, 3, none⟩ (.slice a' m c') := ⟨_, rfl⟩
    rw [← hv11] at Q11 R11 C11 G11 I11 ⊢
    clear hv11 qc qf Q10 R10 C10 G10 I10
    obtain ⟨q0, q1, q2, q3, q4, q5⟩ := Q11.six
    obtain ⟨y0, y1, y2, y3, y4, y5⟩ := R11.six
    have fy := R11.fro
    have OI : OwnI v11 w.heap.size (.slice a' m c') ws := I11
    have OB : OwnB v11 w.heap.size (.slice none 0 0) [] := (ownB_nil _ _)
    have HH : Hid (OwnI v11 w.heap.size (.slice a' m c') ws ∧ OwnB v11 w.heap.size (.slice none 0 0) [] ∧ Cur w0 a cap zs v11 g ∧ w.grownBy v11 (some g) ∧ Blk v11 w.heap.size 46 #[.int .i64 0, .int .i64 0, .int .i64 0, .slice none 0 0, .slice none 0 0, .int .i64 0]) := ⟨OI, OB, C11, G11, R11⟩
    clear OI OB C11 G11 R11 Q11 I11
    go_wp2
    refine bodyPost_ret (v := rq 23 (nr + p) ((1 + x)) (nr + y) a' none m 0 c' 0) (by simp [results, Try.results52, go_sem, y0, y1, y2, y3, y4, y5]) rfl ?_
    obtain ⟨OI, OB, CE, GE, RE⟩ := HH.out
    have hgR : g ≠ w.heap.size := by have := HGR.out; omega
    have hwR : w0.heap.size ≤ w.heap.size := by have := HGR.out; omega
    exact ⟨_, _, _, _, _, _, _, _, _, _, ws, [], rfl, HWs.out, rfl, by first | omega | (have := HM.out; omega), by first | omega | (have := HM.out; omega), rowp_set6 OI ⟨_, RE⟩ (by decide), rowp_set6 OB ⟨_, RE⟩ (by decide), (((((CE.setHi hgR hwR).setHi hgR hwR).setHi hgR hwR).setHi hgR hwR).setHi hgR hwR).setHi hgR hwR, grown_setHi (grown_setHi (grown_setHi (grown_setHi (grown_setHi (grown_setHi GE (Nat.le_refl _)) (Nat.le_refl _)) (Nat.le_refl _)) (Nat.le_refl _)) (Nat.le_refl _)) (Nat.le_refl _)⟩

end Go.Proofs.Ytcnbbknmofonkaa

namespace Go.Proofs.Ytcnbbknmofonkaa
open Go.RowKit

set_option linter.unusedVariables false

set_option linter.unusedSimpArgs false

/-- What drawing a question ends with: its rows lie from base on. -/
def ReqAt (w0 : World) (a : Option Addr) (cap : Nat) (zs : List Int) (base m1 m2 : Nat) (w : World) (g : Nat) (e : Ending) (w' : World) : Prop :=
  ∃ (kd pl nn wa : Int) (a1 a2 : Option Addr) (l1 l2 c1 c2 : Nat) (ws : List Int) (bs : List Bool), e = .returned (rq kd pl nn wa a1 a2 l1 l2 c1 c2) ∧ l1 = ws.length ∧ l2 = bs.length ∧ l1 ≤ m1 ∧ l2 ≤ m2 ∧ OwnI w' base (.slice a1 l1 c1) ws ∧ OwnB w' base (.slice a2 l2 c2) bs ∧ Cur w0 a cap zs w' g ∧ w.grownBy w' (some g)

theorem grown_rowG {w u u' : World} {g : Nat} {e : TypeId} {size n : Nat} {v : Value} {xs : List Value} (h : w.grownBy u (some g)) (hr : u.ownsRow w.heap.size e size v n xs) (hg : u.grownBy u' v.ownBlock) : w.grownBy u' (some g) := by
  refine ⟨hg.os.trans h.os, hg.tape.trans h.tape, hg.output.trans h.output, Nat.le_trans h.size hg.size, fun k hk hne => ?_⟩
  rw [hg.block k (Nat.lt_of_lt_of_le hk h.size) (fun e => by have := (World.ownsRow.lt hr k e.symm).1; omega)]
  exact h.block k hk hne

theorem Cur.rowG {w0 u u' : World} {a : Option Addr} {cap g B : Nat} {zs : List Int} {e : TypeId} {size n : Nat} {v : Value} {xs : List Value} (h : Cur w0 a cap zs u g) (hr : u.ownsRow B e size v n xs) (hg : u.grownBy u' v.ownBlock) (hB : g < B) : Cur w0 a cap zs u' g := by
  have hlo := h.lo
  exact h.grown hg (fun e => by have := (World.ownsRow.lt hr g e.symm).1; omega) (fun k hk => by have := (World.ownsRow.lt hr k hk).1; omega)

theorem ints_none {w : World} {ys : List Int} (h : SlI w none ys) : ys = [] := by
  cases ys with
  | nil => rfl
  | cons y r => obtain ⟨b, off, e, _⟩ := cell_atI (k := 0) h (by simp); simp at e

theorem bools_none {w : World} {ys : List Bool} (h : SlB w none ys) : ys = [] := by
  cases ys with
  | nil => rfl
  | cons y r => obtain ⟨b, off, e, _⟩ := cell_atB (k := 0) h (by simp); simp at e

/-- append of a row of ints that may be none onto one of the call's own. -/
theorem wpList_appIO {w : World} {ops : Array Oper} {rest : List Oper} {o : Oper} {a : Act} {Q : Exit → Act → World → Prop} (hgd : o.guard = none) (s x : Operand)
    (ho : o.op = .call { callee := .builtin .append, args := #[s, x], argTypes := #[23, 23] }) (base : Nat) (v : Value) (zs : List Int) (hs : a.eval s = v) (hown : OwnI w base v zs)
    (ad : Option Addr) (m c : Nat) (ys : List Int) (hx : a.eval x = .slice ad m c) (hm : m = ys.length) (hsl : SlI w ad ys) (hlen : zs.length + ys.length ≤ 4000000) (hbase : base ≤ w.heap.size)
    (h : ∀ v' w', OwnI w' base v' (zs ++ ys) → w.grownBy w' v.ownBlock → wpList Try.prog ops Q rest (a.put o.dst v') w') : wpList Try.prog ops Q (o :: rest) a w := by
  cases ad with
  | some ad => exact wpList_appI hgd s x ho base v zs hs hown ad m c ys hx hm hsl hlen hbase h
  | none =>
    obtain rfl := ints_none hsl
    obtain rfl : m = 0 := hm
    obtain ⟨i0, hi, hz0, hz1, hz2⟩ := info_parts Try.infoQ3
    have hgo : ∀ (sa : Option Addr) (sn sc : Nat), sn ≤ sc → v = .slice sa sn sc → wpList Try.prog ops Q (o :: rest) a w := by
      rintro sa sn sc hcap rfl
      exact Lib.wpList_append_run _ hgd s x _ _ ho _ _ hs hx _ _ (run_append_nothing w 23 23 o.type 3 i0 Try.underlying23 hi sa sn sc hcap _ (Src.ofNil w Try.underlying23 c)) (h _ w (by simpa using hown) ⟨rfl, rfl, rfl, Nat.le_refl _, fun _ _ _ => rfl⟩)
    rcases hown.2 with ⟨e, _⟩ | ⟨g, cap', cur, hv, _, hh, h3, _⟩
    · exact hgo _ _ _ (Nat.le_refl 0) e
    · exact hgo _ _ _ h3 hv

theorem boolCells {w : World} {ad : Addr} {ys : List Bool} (h : SlB w (some ad) ys) : ∀ j u, (ys.map Value.bool)[j]? = some u → w.cell? (ad.add j) = some u := by
  intro j u hu
  rw [List.getElem?_map] at hu
  by_cases hj : j < ys.length
  · obtain ⟨b, off, e, _, hc⟩ := cell_atB h hj
    simp at e
    subst e
    rw [List.getElem?_eq_getElem hj] at hu
    simp at hu
    subst hu
    have : ys.getD j false = ys[j] := by simp [List.getD_eq_getElem?_getD, hj]
    rw [this] at hc
    by_cases h0 : j = 0
    · subst h0; simpa [Addr.add] using hc
    · simpa [Addr.add, h0] using hc
  · rw [List.getElem?_eq_none (by omega)] at hu; simp at hu

/-- append of a row of bools that may be none onto one of the call's own. -/
theorem wpList_appBO {w : World} {ops : Array Oper} {rest : List Oper} {o : Oper} {a : Act} {Q : Exit → Act → World → Prop} (hgd : o.guard = none) (s x : Operand)
    (ho : o.op = .call { callee := .builtin .append, args := #[s, x], argTypes := #[22, 22] }) (base : Nat) (v : Value) (zs : List Bool) (hs : a.eval s = v) (hown : OwnB w base v zs)
    (ad : Option Addr) (m c : Nat) (ys : List Bool) (hx : a.eval x = .slice ad m c) (hm : m = ys.length) (hsl : SlB w ad ys) (hlen : zs.length + ys.length ≤ 4000000) (hbase : base ≤ w.heap.size)
    (h : ∀ v' w', OwnB w' base v' (zs ++ ys) → w.grownBy w' v.ownBlock → wpList Try.prog ops Q rest (a.put o.dst v') w') : wpList Try.prog ops Q (o :: rest) a w := by
  obtain ⟨i0, hi, hz0, hz1, hz2⟩ := info_parts Try.info4
  cases ad with
  | some ad =>
    subst hm
    have hml : zs.length + ys.length ≤ maxLen := by unfold maxLen; omega
    refine wpList_append_own _ hgd s x 22 ho base 4 i0 (.bool false) 1 1 Try.underlying22 hi hz0 hz1 hz2 rfl (by decide) v zs.length (zs.map Value.bool) hs hown ad ys.length c (ys.map Value.bool) hx (by simp) (boolCells hsl) (by intro u hu; obtain ⟨y, _, rfl⟩ := List.mem_map.mp hu; rfl) hml (by omega) hbase ?_
    intro v' w' o' g' _
    exact h v' w' (by simpa [OwnB] using o') g'
  | none =>
    obtain rfl := bools_none hsl
    obtain rfl : m = 0 := hm
    have hgo : ∀ (sa : Option Addr) (sn sc : Nat), sn ≤ sc → v = .slice sa sn sc → wpList Try.prog ops Q (o :: rest) a w := by
      rintro sa sn sc hcap rfl
      exact Lib.wpList_append_run _ hgd s x _ _ ho _ _ hs hx _ _ (run_append_nothing w 22 22 o.type 4 i0 Try.underlying22 hi sa sn sc hcap _ (Src.ofNil w Try.underlying22 c)) (h _ w (by simpa using hown) ⟨rfl, rfl, rfl, Nat.le_refl _, fun _ _ _ => rfl⟩)
    rcases hown.2 with ⟨e, _⟩ | ⟨g, cap', cur, hv, _, hh, h3, _⟩
    · exact hgo _ _ _ (Nat.le_refl 0) e
    · exact hgo _ _ _ h3 hv

theorem newI (u : World) (base : Nat) (hb : base ≤ u.heap.size) : OwnI (u.alloc (.cells #[] 3)) base (.slice (some ⟨u.heap.size, 0, none⟩) 0 0) [] := ⟨rfl, .inr ⟨u.heap.size, 0, #[], rfl, hb, Blk.new u #[] 3, by simp, by simp, rfl, rfl⟩⟩

theorem newB (u : World) (base : Nat) (hb : base ≤ u.heap.size) : OwnB (u.alloc (.cells #[] 4)) base (.slice (some ⟨u.heap.size, 0, none⟩) 0 0) [] := ⟨rfl, .inr ⟨u.heap.size, 0, #[], rfl, hb, Blk.new u #[] 4, by simp, by simp, rfl, rfl⟩⟩

theorem ownB_shape {w : World} {base : Nat} {v : Value} {zs : List Bool} (h : OwnB w base v zs) : ∃ a c n, v = .slice a n c ∧ n = zs.length := by
  obtain ⟨_, h2⟩ := h
  rcases h2 with ⟨hv, h3⟩ | ⟨g, cap, cur, hv, hg, hh, _⟩
  · exact ⟨none, 0, 0, hv, h3.symm⟩
  · exact ⟨_, cap, _, hv, rfl⟩

set_option maxRecDepth 20000 in
set_option maxHeartbeats 16000000 in
theorem l3Bend_any (w0 : World) (a : Option Addr) (cap : Nat) (zs : List Int) (w : World) (g : Nat) (kd pl nn wa : Int) (a1 a2 : Option Addr) (l1 l2 c1 c2 : Nat) (ws : List Int) (bs : List Bool) (base : Nat) (h1 : l1 = ws.length) (h2 : l2 = bs.length) (hl1 : l1 ≤ 1000) (hl2 : l2 ≤ 10000) (hgb : g < base) (hbw : base ≤ w.heap.size) (o1 : OwnI w base (.slice a1 l1 c1) ws) (o2 : OwnB w base (.slice a2 l2 c2) bs) (hC : Cur w0 a cap zs w g) :
    Calls Try.prog 56 #[.pointer (some ⟨g, 0, none⟩), rq kd pl nn wa a1 a2 l1 l2 c1 c2] w fun e w' => ReqAt w0 a cap zs base (l1 + 1) (l2 + 1) w g e w' := by
  obtain ⟨W0, hW0⟩ : ∃ W0, W0 = (w.alloc (.cells #[.int .i64 kd, .int .i64 pl, .int .i64 nn, .slice a1 l1 c1, .slice a2 l2 c2, .int .i64 wa] 46)).alloc (.cells #[.int .i64 0, .int .i64 0, .int .i64 0, .slice none 0 0, .slice none 0 0, .int .i64 0] 46) := ⟨_, rfl⟩
  have HW : Hid (W0 = _) := hW0
  have bw : Below w.heap.size w W0 := by rw [hW0]; exact bel_next (bel_alloc w _) (bel_alloc _ _)
  have C0 : Cur w0 a cap zs W0 g := by rw [hW0]; exact (hC.alloc _).alloc _
  have G0 : w.grownBy W0 (some g) := grown_below bw _
  have Q0 : Blk W0 w.heap.size 46 #[.int .i64 kd, .int .i64 pl, .int .i64 nn, .slice a1 l1 c1, .slice a2 l2 c2, .int .i64 wa] := by rw [hW0]; exact (Blk.new w _ _).below (bel_alloc _ _)
  have R0 : Blk W0 (w.heap.size + 1) 46 #[.int .i64 0, .int .i64 0, .int .i64 0, .slice none 0 0, .slice none 0 0, .int .i64 0] := by
    rw [hW0]; have := Blk.new (w.alloc (.cells #[.int .i64 kd, .int .i64 pl, .int .i64 nn, .slice a1 l1 c1, .slice a2 l2 c2, .int .i64 wa] 46)) #[.int .i64 0, .int .i64 0, .int .i64 0, .slice none 0 0, .slice none 0 0, .int .i64 0] 46; simpa using this
  have I0 := o1.below bw
  have J0 := o2.below bw
  have HX : Hid (g < base ∧ base ≤ w.heap.size ∧ w0.heap.size ≤ g ∧ g < w.heap.size ∧ l1 ≤ 1000 ∧ l2 ≤ 10000) := ⟨hgb, hbw, hC.lo, hC.hi, hl1, hl2⟩
  have HL : Hid (l1 = ws.length ∧ l2 = bs.length) := ⟨h1, h2⟩
  clear hC hW0 bw o1 o2 h1 h2 hl1 hl2 hgb hbw
  go_enter Try.func56, Try.ntmps56
  go_upto_region 1 with fail
  rw [← HW.out]
  go_wp2_with fail
  refine (l1Below_any w0 a cap zs _ g _ (by decide) C0).mono ?_
  rintro e u1 ⟨x, rfl, hx, C1, gg⟩
  have G1 := grown_trans G0 gg
  have R1 := R0.grown gg (by have := HX.out; simp; omega)
  have Q1 := Q0.grown gg (by have := HX.out; simp; omega)
  have I1 := OwnI.kept I0 gg (row_ne_g I0 HX.out.1)
  have J1 := OwnB.kept J0 gg (row_ne_g J0 HX.out.1)
  clear C0 G0 R0 Q0 I0 J0 gg
  obtain rfl | rfl | rfl | rfl | rfl | rfl | rfl : x = 0 ∨ x = 1 ∨ x = 2 ∨ x = 3 ∨ x = 4 ∨ x = 5 ∨ x = 6 := by omega
  · clear hx
    go_upto_region 3 with fail
    go_wp2_with fail
    refine (l1Below_any w0 a cap zs _ g _ (by decide) C1).mono ?_
    rintro e t2 ⟨y, rfl, _, C2, gg⟩
    have G2 := grown_trans G1 gg
    have R2 := R1.grown gg (by have := HX.out; simp; omega)
    have Q2 := Q1.grown gg (by have := HX.out; simp; omega)
    have I2 := OwnI.kept I1 gg (row_ne_g I1 HX.out.1)
    have J2 := OwnB.kept J1 gg (row_ne_g J1 HX.out.1)
    clear gg C1 G1 R1 Q1 I1 J1
    have qc := Q2.cell 0 rfl
    have qf := Q2.fro 0
    have Q3 := Q2.set 0 (.int .i64 y)
    have R3 := R2.setNe (g' := w.heap.size) (j := 0) (y := .int .i64 y) (by omega)
    have C3 := C2.setHi (G := w.heap.size) (j := 0) (y := .int .i64 y) (by have := HX.out; omega) (by have := HX.out; omega)
    have G3 := grown_setHi (G := w.heap.size) (j := 0) (y := .int .i64 y) G2 (Nat.le_refl _)
    have I3 : OwnI _ _ _ _ := row_setE (j := 0) (y := .int .i64 y) I2 ⟨_, Q2⟩ (by decide)
    have J3 : OwnB _ _ _ _ := row_setE (j := 0) (y := .int .i64 y) J2 ⟨_, Q2⟩ (by decide)
    go_upto_region 14 with fail
    obtain ⟨v3, hv3⟩ : ∃ v3, v3 = t2.setCell ⟨w.heap.size, 0, none⟩ (.int .i64 y) := ⟨_, rfl⟩
    rw [← hv3] at Q3 R3 C3 G3 I3 J3 ⊢
    clear hv3 qc qf C2 G2 R2 Q2 I2 J2
    obtain ⟨q0, q1, q2, q3, q4, q5⟩ := Q3.six
    obtain ⟨y0, y1, y2, y3, y4, y5⟩ := R3.six
    have fy := R3.fro
    have HH : Hid (OwnI v3 base (.slice a1 l1 c1) ws ∧ OwnB v3 base (.slice a2 l2 c2) bs ∧ Cur w0 a cap zs v3 g ∧ w.grownBy v3 (some g) ∧ Blk v3 (w.heap.size + 1) 46 #[.int .i64 0, .int .i64 0, .int .i64 0, .slice none 0 0, .slice none 0 0, .int .i64 0]) := ⟨I3, J3, C3, G3, R3⟩
    clear C3 G3 R3 Q3 I3 J3
    go_wp2
    refine bodyPost_ret (v := rq (y) (pl) (nn) (wa) a1 a2 l1 l2 c1 c2) (by simp [results, Try.results56, go_sem, y0, y1, y2, y3, y4, y5]) rfl ?_
    obtain ⟨OI, OB, CE, GE, RE⟩ := HH.out
    have hgR : g ≠ w.heap.size + 1 := by have := HX.out; omega
    have hwR : w0.heap.size ≤ w.heap.size + 1 := by have := HX.out; omega
    have hn1 : l1 ≤ l1 + 1 := by omega
    have hn2 : l2 ≤ l2 + 1 := by omega
    exact ⟨_, _, _, _, _, _, _, _, _, _, ws, bs, rfl, HL.out.1, HL.out.2, hn1, hn2, rowp_set6 OI ⟨_, RE⟩ (by decide), rowp_set6 OB ⟨_, RE⟩ (by decide), (((((CE.setHi hgR hwR).setHi hgR hwR).setHi hgR hwR).setHi hgR hwR).setHi hgR hwR).setHi hgR hwR, grown_setHi (grown_setHi (grown_setHi (grown_setHi (grown_setHi (grown_setHi GE (Nat.le_succ _)) (Nat.le_succ _)) (Nat.le_succ _)) (Nat.le_succ _)) (Nat.le_succ _)) (Nat.le_succ _)⟩
  · clear hx
    go_upto_region 5 with fail
    have IL := ints_lit u1 [-1, 65535, 65536, 65530] 3
    have hne : u1.heap.size ≠ g := by have := C1.hi; omega
    have b' := bel_alloc u1 (.cells ([-1, 65535, 65536, 65530].map (Value.int .i64)).toArray 3)
    have C2 := C1.alloc (.cells ([-1, 65535, 65536, 65530].map (Value.int .i64)).toArray 3)
    have G2 := grown_trans G1 (grown_below b' (some g))
    have R2 := R1.below b'
    have Q2 := Q1.below b'
    have I2 := OwnI.below I1 b'
    have J2 := OwnB.below J1 b'
    clear b' C1 G1 R1 Q1 I1 J1
    go_wp2_with fail
    refine (l1Int_any w0 a cap zs _ g ⟨u1.heap.size, 0, none⟩ 4 4 [-1, 65535, 65536, 65530] rfl (by omega) (by omega) IL hne C2).mono ?_
    rintro e t3 ⟨y, rfl, _, C3, gg⟩
    have G3 := grown_trans G2 gg
    have R3 := R2.grown gg (by have := HX.out; simp; omega)
    have Q3 := Q2.grown gg (by have := HX.out; simp; omega)
    have I3 := OwnI.kept I2 gg (row_ne_g I2 HX.out.1)
    have J3 := OwnB.kept J2 gg (row_ne_g J2 HX.out.1)
    clear gg C2 G2 R2 Q2 I2 J2
    clear IL hne
    have qc := Q3.cell 1 rfl
    have qf := Q3.fro 1
    have Q4 := Q3.set 1 (.int .i64 y)
    have R4 := R3.setNe (g' := w.heap.size) (j := 1) (y := .int .i64 y) (by omega)
    have C4 := C3.setHi (G := w.heap.size) (j := 1) (y := .int .i64 y) (by have := HX.out; omega) (by have := HX.out; omega)
    have G4 := grown_setHi (G := w.heap.size) (j := 1) (y := .int .i64 y) G3 (Nat.le_refl _)
    have I4 : OwnI _ _ _ _ := row_setE (j := 1) (y := .int .i64 y) I3 ⟨_, Q3⟩ (by decide)
    have J4 : OwnB _ _ _ _ := row_setE (j := 1) (y := .int .i64 y) J3 ⟨_, Q3⟩ (by decide)
    go_upto_region 14 with fail
    obtain ⟨v4, hv4⟩ : ∃ v4, v4 = t3.setCell ⟨w.heap.size, 1, none⟩ (.int .i64 y) := ⟨_, rfl⟩
    rw [← hv4] at Q4 R4 C4 G4 I4 J4 ⊢
    clear hv4 qc qf C3 G3 R3 Q3 I3 J3
    obtain ⟨q0, q1, q2, q3, q4, q5⟩ := Q4.six
    obtain ⟨y0, y1, y2, y3, y4, y5⟩ := R4.six
    have fy := R4.fro
    have HH : Hid (OwnI v4 base (.slice a1 l1 c1) ws ∧ OwnB v4 base (.slice a2 l2 c2) bs ∧ Cur w0 a cap zs v4 g ∧ w.grownBy v4 (some g) ∧ Blk v4 (w.heap.size + 1) 46 #[.int .i64 0, .int .i64 0, .int .i64 0, .slice none 0 0, .slice none 0 0, .int .i64 0]) := ⟨I4, J4, C4, G4, R4⟩
    clear C4 G4 R4 Q4 I4 J4
    go_wp2
    refine bodyPost_ret (v := rq (kd) (y) (nn) (wa) a1 a2 l1 l2 c1 c2) (by simp [results, Try.results56, go_sem, y0, y1, y2, y3, y4, y5]) rfl ?_
    obtain ⟨OI, OB, CE, GE, RE⟩ := HH.out
    have hgR : g ≠ w.heap.size + 1 := by have := HX.out; omega
    have hwR : w0.heap.size ≤ w.heap.size + 1 := by have := HX.out; omega
    have hn1 : l1 ≤ l1 + 1 := by omega
    have hn2 : l2 ≤ l2 + 1 := by omega
    exact ⟨_, _, _, _, _, _, _, _, _, _, ws, bs, rfl, HL.out.1, HL.out.2, hn1, hn2, rowp_set6 OI ⟨_, RE⟩ (by decide), rowp_set6 OB ⟨_, RE⟩ (by decide), (((((CE.setHi hgR hwR).setHi hgR hwR).setHi hgR hwR).setHi hgR hwR).setHi hgR hwR).setHi hgR hwR, grown_setHi (grown_setHi (grown_setHi (grown_setHi (grown_setHi (grown_setHi GE (Nat.le_succ _)) (Nat.le_succ _)) (Nat.le_succ _)) (Nat.le_succ _)) (Nat.le_succ _)) (Nat.le_succ _)⟩
  · clear hx
    go_upto_region 7 with fail
    have IL := ints_lit u1 [0, 1, 125, 126, 2000, 2001, -1] 3
    have hne : u1.heap.size ≠ g := by have := C1.hi; omega
    have b' := bel_alloc u1 (.cells ([0, 1, 125, 126, 2000, 2001, -1].map (Value.int .i64)).toArray 3)
    have C2 := C1.alloc (.cells ([0, 1, 125, 126, 2000, 2001, -1].map (Value.int .i64)).toArray 3)
    have G2 := grown_trans G1 (grown_below b' (some g))
    have R2 := R1.below b'
    have Q2 := Q1.below b'
    have I2 := OwnI.below I1 b'
    have J2 := OwnB.below J1 b'
    clear b' C1 G1 R1 Q1 I1 J1
    go_wp2_with fail
    refine (l1Int_any w0 a cap zs _ g ⟨u1.heap.size, 0, none⟩ 7 7 [0, 1, 125, 126, 2000, 2001, -1] rfl (by omega) (by omega) IL hne C2).mono ?_
    rintro e t3 ⟨y, rfl, _, C3, gg⟩
    have G3 := grown_trans G2 gg
    have R3 := R2.grown gg (by have := HX.out; simp; omega)
    have Q3 := Q2.grown gg (by have := HX.out; simp; omega)
    have I3 := OwnI.kept I2 gg (row_ne_g I2 HX.out.1)
    have J3 := OwnB.kept J2 gg (row_ne_g J2 HX.out.1)
    clear gg C2 G2 R2 Q2 I2 J2
    clear IL hne
    have qc := Q3.cell 2 rfl
    have qf := Q3.fro 2
    have Q4 := Q3.set 2 (.int .i64 y)
    have R4 := R3.setNe (g' := w.heap.size) (j := 2) (y := .int .i64 y) (by omega)
    have C4 := C3.setHi (G := w.heap.size) (j := 2) (y := .int .i64 y) (by have := HX.out; omega) (by have := HX.out; omega)
    have G4 := grown_setHi (G := w.heap.size) (j := 2) (y := .int .i64 y) G3 (Nat.le_refl _)
    have I4 : OwnI _ _ _ _ := row_setE (j := 2) (y := .int .i64 y) I3 ⟨_, Q3⟩ (by decide)
    have J4 : OwnB _ _ _ _ := row_setE (j := 2) (y := .int .i64 y) J3 ⟨_, Q3⟩ (by decide)
    go_upto_region 14 with fail
    obtain ⟨v4, hv4⟩ : ∃ v4, v4 = t3.setCell ⟨w.heap.size, 2, none⟩ (.int .i64 y) := ⟨_, rfl⟩
    rw [← hv4] at Q4 R4 C4 G4 I4 J4 ⊢
    clear hv4 qc qf C3 G3 R3 Q3 I3 J3
    obtain ⟨q0, q1, q2, q3, q4, q5⟩ := Q4.six
    obtain ⟨y0, y1, y2, y3, y4, y5⟩ := R4.six
    have fy := R4.fro
    have HH : Hid (OwnI v4 base (.slice a1 l1 c1) ws ∧ OwnB v4 base (.slice a2 l2 c2) bs ∧ Cur w0 a cap zs v4 g ∧ w.grownBy v4 (some g) ∧ Blk v4 (w.heap.size + 1) 46 #[.int .i64 0, .int .i64 0, .int .i64 0, .slice none 0 0, .slice none 0 0, .int .i64 0]) := ⟨I4, J4, C4, G4, R4⟩
    clear C4 G4 R4 Q4 I4 J4
    go_wp2
    refine bodyPost_ret (v := rq (kd) (pl) (y) (wa) a1 a2 l1 l2 c1 c2) (by simp [results, Try.results56, go_sem, y0, y1, y2, y3, y4, y5]) rfl ?_
    obtain ⟨OI, OB, CE, GE, RE⟩ := HH.out
    have hgR : g ≠ w.heap.size + 1 := by have := HX.out; omega
    have hwR : w0.heap.size ≤ w.heap.size + 1 := by have := HX.out; omega
    have hn1 : l1 ≤ l1 + 1 := by omega
    have hn2 : l2 ≤ l2 + 1 := by omega
    exact ⟨_, _, _, _, _, _, _, _, _, _, ws, bs, rfl, HL.out.1, HL.out.2, hn1, hn2, rowp_set6 OI ⟨_, RE⟩ (by decide), rowp_set6 OB ⟨_, RE⟩ (by decide), (((((CE.setHi hgR hwR).setHi hgR hwR).setHi hgR hwR).setHi hgR hwR).setHi hgR hwR).setHi hgR hwR, grown_setHi (grown_setHi (grown_setHi (grown_setHi (grown_setHi (grown_setHi GE (Nat.le_succ _)) (Nat.le_succ _)) (Nat.le_succ _)) (Nat.le_succ _)) (Nat.le_succ _)) (Nat.le_succ _)⟩
  · clear hx
    go_upto_region 9 with fail
    have N2 := newI u1 w.heap.size G1.size
    have b' := bel_alloc u1 (.cells #[] 3)
    have C2 := C1.alloc (.cells #[] 3)
    have G2 := grown_trans G1 (grown_below b' (some g))
    have R2 := R1.below b'
    have Q2 := Q1.below b'
    have I2 := OwnI.below I1 b'
    have J2 := OwnB.below J1 b'
    clear b' C1 G1 R1 Q1 I1 J1
    have q3 := Q2.cell 3 rfl
    have hsz : w.heap.size ≤ (u1.alloc (.cells #[] 3)).heap.size := G2.size
    go_wp2_with (at_builtin; refine wpList_appIO rfl (.tmp 26) (.tmp 28) rfl w.heap.size (.slice (some ⟨u1.heap.size, 0, none⟩) 0 0) [] rfl N2 a1 l1 c1 ws rfl HL.out.1 I2.sl.2 (by have := HL.out; have := HX.out; simp; omega) hsz ?_; intro v' t3 N3 gg; obtain ⟨n1, n2, n3, rfl, hn3⟩ := ownI_shape N3; have HN3 : Hid (n3 = ([] ++ ws).length) := hn3; clear hn3)
    have C3 := C2.rowG N2 gg HX.out.2.2.2.1
    have G3 := grown_rowG G2 N2 gg
    have R3 := R2.row N2 gg (by decide)
    have Q3 := Q2.row N2 gg (by decide)
    have J3 := OwnB.kept J2 gg (ne_types J2 N2 (by decide))
    clear gg q3 hsz C2 G2 R2 Q2 I2 J2 N2
    have IL := ints_lit t3 [0, 65536, -1] 3
    have hne : t3.heap.size ≠ g := by have := C3.hi; omega
    have b' := bel_alloc t3 (.cells ([0, 65536, -1].map (Value.int .i64)).toArray 3)
    have C4 := C3.alloc (.cells ([0, 65536, -1].map (Value.int .i64)).toArray 3)
    have G4 := grown_trans G3 (grown_below b' (some g))
    have R4 := R3.below b'
    have Q4 := Q3.below b'
    have J4 := OwnB.below J3 b'
    have N4 := OwnI.below N3 b'
    clear b' C3 G3 R3 Q3 J3 N3
    go_wp2_with fail
    refine (l1Int_any w0 a cap zs _ g ⟨t3.heap.size, 0, none⟩ 3 3 [0, 65536, -1] rfl (by omega) (by omega) IL hne C4).mono ?_
    rintro e t5 ⟨y, rfl, _, C5, gg⟩
    have G5 := grown_trans G4 gg
    have R5 := R4.grown gg (by have := HX.out; simp; omega)
    have Q5 := Q4.grown gg (by have := HX.out; simp; omega)
    have J5 := OwnB.kept J4 gg (row_ne_g J4 HX.out.1)
    have N5 := OwnI.kept N4 gg (row_ne_g N4 HX.out.2.2.2.1)
    clear gg C4 G4 R4 Q4 J4 N4
    clear IL hne
    have b' := bel_alloc t5 (.cells #[.int .i64 y] 3)
    have C6 := C5.alloc (.cells #[.int .i64 y] 3)
    have G6 := grown_trans G5 (grown_below b' (some g))
    have R6 := R5.below b'
    have Q6 := Q5.below b'
    have J6 := OwnB.below J5 b'
    have N6 := OwnI.below N5 b'
    clear b' C5 G5 R5 Q5 J5 N5
    have hsz : w.heap.size ≤ (t5.alloc (.cells #[.int .i64 y] 3)).heap.size := G6.size
    go_upto_region 14 with (at_builtin; refine wpList_appI rfl (.tmp 29) (.tmp 33) rfl w.heap.size (.slice n1 n3 n2) ([] ++ ws) rfl N6 ⟨t5.heap.size, 0, none⟩ 1 1 [y] rfl rfl (lit_slI1' _ _ rfl) (by have := HL.out; have := HX.out; simp; omega) hsz ?_; intro v' t7 I7 gg; obtain ⟨m1, m2, m3, rfl, hm3⟩ := ownI_shape I7; have HM3 : Hid (m3 = ([] ++ ws ++ [y]).length) := hm3; have Q' := Q6.row N6 gg (by decide); have qc := Q'.cell 3 rfl; have qf := Q'.fro 3; clear hm3 Q')
    have C7 := C6.rowG N6 gg HX.out.2.2.2.1
    have G7 := grown_rowG G6 N6 gg
    have R7 := R6.row N6 gg (by decide)
    have Q7 := Q6.row N6 gg (by decide)
    have J7 := OwnB.kept J6 gg (ne_types J6 N6 (by decide))
    clear gg hsz C6 G6 R6 Q6 J6 N6
    have I7 := OwnI.mono I7 HX.out.2.1
    have Q8 := Q7.set 3 (.slice m1 m3 m2)
    have R8 := R7.setNe (g' := w.heap.size) (j := 3) (y := .slice m1 m3 m2) (by omega)
    have C8 := C7.setHi (G := w.heap.size) (j := 3) (y := .slice m1 m3 m2) (by have := HX.out; omega) (by have := HX.out; omega)
    have G8 := grown_setHi (G := w.heap.size) (j := 3) (y := .slice m1 m3 m2) G7 (Nat.le_refl _)
    have I8 : OwnI _ _ _ _ := row_setE (j := 3) (y := .slice m1 m3 m2) I7 ⟨_, Q7⟩ (by decide)
    have J8 : OwnB _ _ _ _ := row_setE (j := 3) (y := .slice m1 m3 m2) J7 ⟨_, Q7⟩ (by decide)
    obtain ⟨v8, hv8⟩ : ∃ v8, v8 = t7.setCell ⟨w.heap.size, 3, none⟩ (.slice m1 m3 m2) := ⟨_, rfl⟩
    rw [← hv8] at Q8 R8 C8 G8 I8 J8 ⊢
    clear hv8 qc qf C7 G7 R7 Q7 I7 J7
    obtain ⟨q0, q1, q2, q3, q4, q5⟩ := Q8.six
    obtain ⟨y0, y1, y2, y3, y4, y5⟩ := R8.six
    have fy := R8.fro
    have HH : Hid (OwnI v8 base (.slice m1 m3 m2) ([] ++ ws ++ [y]) ∧ OwnB v8 base (.slice a2 l2 c2) bs ∧ Cur w0 a cap zs v8 g ∧ w.grownBy v8 (some g) ∧ Blk v8 (w.heap.size + 1) 46 #[.int .i64 0, .int .i64 0, .int .i64 0, .slice none 0 0, .slice none 0 0, .int .i64 0]) := ⟨I8, J8, C8, G8, R8⟩
    clear C8 G8 R8 Q8 I8 J8
    go_wp2
    refine bodyPost_ret (v := rq (kd) (pl) (nn) (wa) m1 a2 m3 l2 m2 c2) (by simp [results, Try.results56, go_sem, y0, y1, y2, y3, y4, y5]) rfl ?_
    obtain ⟨OI, OB, CE, GE, RE⟩ := HH.out
    have hgR : g ≠ w.heap.size + 1 := by have := HX.out; omega
    have hwR : w0.heap.size ≤ w.heap.size + 1 := by have := HX.out; omega
    have hn1 : m3 ≤ l1 + 1 := by have h := HM3.out; have := HL.out; simp at h; omega
    have hn2 : l2 ≤ l2 + 1 := by omega
    exact ⟨_, _, _, _, _, _, _, _, _, _, ([] ++ ws ++ [y]), bs, rfl, HM3.out, HL.out.2, hn1, hn2, rowp_set6 OI ⟨_, RE⟩ (by decide), rowp_set6 OB ⟨_, RE⟩ (by decide), (((((CE.setHi hgR hwR).setHi hgR hwR).setHi hgR hwR).setHi hgR hwR).setHi hgR hwR).setHi hgR hwR, grown_setHi (grown_setHi (grown_setHi (grown_setHi (grown_setHi (grown_setHi GE (Nat.le_succ _)) (Nat.le_succ _)) (Nat.le_succ _)) (Nat.le_succ _)) (Nat.le_succ _)) (Nat.le_succ _)⟩
  · clear hx
    go_upto_region 11 with fail
    have N2 := newB u1 w.heap.size G1.size
    have b' := bel_alloc u1 (.cells #[] 4)
    have C2 := C1.alloc (.cells #[] 4)
    have G2 := grown_trans G1 (grown_below b' (some g))
    have R2 := R1.below b'
    have Q2 := Q1.below b'
    have I2 := OwnI.below I1 b'
    have J2 := OwnB.below J1 b'
    clear b' C1 G1 R1 Q1 I1 J1
    have q4 := Q2.cell 4 rfl
    have hsz : w.heap.size ≤ (u1.alloc (.cells #[] 4)).heap.size := G2.size
    go_upto_region 14 with (first | (at_builtin; refine wpList_appBO rfl (.tmp 38) (.tmp 40) rfl w.heap.size (.slice (some ⟨u1.heap.size, 0, none⟩) 0 0) [] rfl N2 a2 l2 c2 bs rfl HL.out.2 J2.sl.2 (by have := HL.out; have := HX.out; simp; omega) hsz ?_; intro v' t3 N3 gg; obtain ⟨n1, n2, n3, rfl, hn3⟩ := ownB_shape N3; have HN3 : Hid (n3 = ([] ++ bs).length) := hn3; have G3 := grown_rowG G2 N2 gg; have hsz2 := Nat.le_trans G3.size (bel_alloc t3 (.cells #[.bool true] 4)).size; clear hn3) | (at_builtin; refine wpList_appBO rfl (.tmp 41) (.tmp 42) rfl w.heap.size (.slice n1 n3 n2) ([] ++ bs) rfl (OwnB.below N3 (bel_alloc _ _)) (some ⟨t3.heap.size, 0, none⟩) 1 1 [true] rfl rfl (lit_slB1 _ _ rfl) (by have := HL.out; have := HX.out; simp; omega) hsz2 ?_; intro v' t4 J4 gg2; obtain ⟨m1, m2, m3, rfl, hm3⟩ := ownB_shape J4; have HM3 : Hid (m3 = ([] ++ bs ++ [true]).length) := hm3; have Q' := ((Q2.row N2 gg (by decide)).below (bel_alloc t3 (.cells #[.bool true] 4))).row (OwnB.below N3 (bel_alloc _ _)) gg2 (by decide); have qc := Q'.cell 4 rfl; have qf := Q'.fro 4; clear hm3 Q'))
    have b' := bel_alloc t3 (.cells #[.bool true] 4)
    have N' := OwnB.below N3 b'
    have C4 := ((C2.rowG N2 gg HX.out.2.2.2.1).alloc (.cells #[.bool true] 4)).rowG N' gg2 HX.out.2.2.2.1
    have G4 := grown_rowG (grown_trans G3 (grown_below b' (some g))) N' gg2
    have R4 := ((R2.row N2 gg (by decide)).below b').row N' gg2 (by decide)
    have Q4 := ((Q2.row N2 gg (by decide)).below b').row N' gg2 (by decide)
    have I4' := OwnI.below (OwnI.kept I2 gg (ne_types I2 N2 (by decide))) b'
    have I4 := OwnI.kept I4' gg2 (ne_types I4' N' (by decide))
    clear gg gg2 q4 hsz hsz2 b' N' I4' N3 G3 C2 G2 R2 Q2 I2 J2 N2
    have J4 := OwnB.mono J4 HX.out.2.1
    have Q5 := Q4.set 4 (.slice m1 m3 m2)
    have R5 := R4.setNe (g' := w.heap.size) (j := 4) (y := .slice m1 m3 m2) (by omega)
    have C5 := C4.setHi (G := w.heap.size) (j := 4) (y := .slice m1 m3 m2) (by have := HX.out; omega) (by have := HX.out; omega)
    have G5 := grown_setHi (G := w.heap.size) (j := 4) (y := .slice m1 m3 m2) G4 (Nat.le_refl _)
    have I5 : OwnI _ _ _ _ := row_setE (j := 4) (y := .slice m1 m3 m2) I4 ⟨_, Q4⟩ (by decide)
    have J5 : OwnB _ _ _ _ := row_setE (j := 4) (y := .slice m1 m3 m2) J4 ⟨_, Q4⟩ (by decide)
    obtain ⟨v5, hv5⟩ : ∃ v5, v5 = t4.setCell ⟨w.heap.size, 4, none⟩ (.slice m1 m3 m2) := ⟨_, rfl⟩
    rw [← hv5] at Q5 R5 C5 G5 I5 J5 ⊢
    clear hv5 qc qf C4 G4 R4 Q4 I4 J4
    obtain ⟨q0, q1, q2, q3, q4, q5⟩ := Q5.six
    obtain ⟨y0, y1, y2, y3, y4, y5⟩ := R5.six
    have fy := R5.fro
    have HH : Hid (OwnI v5 base (.slice a1 l1 c1) ws ∧ OwnB v5 base (.slice m1 m3 m2) ([] ++ bs ++ [true]) ∧ Cur w0 a cap zs v5 g ∧ w.grownBy v5 (some g) ∧ Blk v5 (w.heap.size + 1) 46 #[.int .i64 0, .int .i64 0, .int .i64 0, .slice none 0 0, .slice none 0 0, .int .i64 0]) := ⟨I5, J5, C5, G5, R5⟩
    clear C5 G5 R5 Q5 I5 J5
    go_wp2
    refine bodyPost_ret (v := rq (kd) (pl) (nn) (wa) a1 m1 l1 m3 c1 m2) (by simp [results, Try.results56, go_sem, y0, y1, y2, y3, y4, y5]) rfl ?_
    obtain ⟨OI, OB, CE, GE, RE⟩ := HH.out
    have hgR : g ≠ w.heap.size + 1 := by have := HX.out; omega
    have hwR : w0.heap.size ≤ w.heap.size + 1 := by have := HX.out; omega
    have hn1 : l1 ≤ l1 + 1 := by omega
    have hn2 : m3 ≤ l2 + 1 := by have h := HM3.out; have := HL.out; simp at h; omega
    exact ⟨_, _, _, _, _, _, _, _, _, _, ws, ([] ++ bs ++ [true]), rfl, HL.out.1, HM3.out, hn1, hn2, rowp_set6 OI ⟨_, RE⟩ (by decide), rowp_set6 OB ⟨_, RE⟩ (by decide), (((((CE.setHi hgR hwR).setHi hgR hwR).setHi hgR hwR).setHi hgR hwR).setHi hgR hwR).setHi hgR hwR, grown_setHi (grown_setHi (grown_setHi (grown_setHi (grown_setHi (grown_setHi GE (Nat.le_succ _)) (Nat.le_succ _)) (Nat.le_succ _)) (Nat.le_succ _)) (Nat.le_succ _)) (Nat.le_succ _)⟩
  · clear hx
    go_upto_region 13 with fail
    have IL := ints_lit u1 [1, 65535, 65536] 3
    have hne : u1.heap.size ≠ g := by have := C1.hi; omega
    have b' := bel_alloc u1 (.cells ([1, 65535, 65536].map (Value.int .i64)).toArray 3)
    have C2 := C1.alloc (.cells ([1, 65535, 65536].map (Value.int .i64)).toArray 3)
    have G2 := grown_trans G1 (grown_below b' (some g))
    have R2 := R1.below b'
    have Q2 := Q1.below b'
    have I2 := OwnI.below I1 b'
    have J2 := OwnB.below J1 b'
    clear b' C1 G1 R1 Q1 I1 J1
    go_wp2_with fail
    refine (l1Int_any w0 a cap zs _ g ⟨u1.heap.size, 0, none⟩ 3 3 [1, 65535, 65536] rfl (by omega) (by omega) IL hne C2).mono ?_
    rintro e t3 ⟨y, rfl, _, C3, gg⟩
    have G3 := grown_trans G2 gg
    have R3 := R2.grown gg (by have := HX.out; simp; omega)
    have Q3 := Q2.grown gg (by have := HX.out; simp; omega)
    have I3 := OwnI.kept I2 gg (row_ne_g I2 HX.out.1)
    have J3 := OwnB.kept J2 gg (row_ne_g J2 HX.out.1)
    clear gg C2 G2 R2 Q2 I2 J2
    clear IL hne
    have qc := Q3.cell 5 rfl
    have qf := Q3.fro 5
    have Q4 := Q3.set 5 (.int .i64 y)
    have R4 := R3.setNe (g' := w.heap.size) (j := 5) (y := .int .i64 y) (by omega)
    have C4 := C3.setHi (G := w.heap.size) (j := 5) (y := .int .i64 y) (by have := HX.out; omega) (by have := HX.out; omega)
    have G4 := grown_setHi (G := w.heap.size) (j := 5) (y := .int .i64 y) G3 (Nat.le_refl _)
    have I4 : OwnI _ _ _ _ := row_setE (j := 5) (y := .int .i64 y) I3 ⟨_, Q3⟩ (by decide)
    have J4 : OwnB _ _ _ _ := row_setE (j := 5) (y := .int .i64 y) J3 ⟨_, Q3⟩ (by decide)
    go_upto_region 14 with fail
    obtain ⟨v4, hv4⟩ : ∃ v4, v4 = t3.setCell ⟨w.heap.size, 5, none⟩ (.int .i64 y) := ⟨_, rfl⟩
    rw [← hv4] at Q4 R4 C4 G4 I4 J4 ⊢
    clear hv4 qc qf C3 G3 R3 Q3 I3 J3
    obtain ⟨q0, q1, q2, q3, q4, q5⟩ := Q4.six
    obtain ⟨y0, y1, y2, y3, y4, y5⟩ := R4.six
    have fy := R4.fro
    have HH : Hid (OwnI v4 base (.slice a1 l1 c1) ws ∧ OwnB v4 base (.slice a2 l2 c2) bs ∧ Cur w0 a cap zs v4 g ∧ w.grownBy v4 (some g) ∧ Blk v4 (w.heap.size + 1) 46 #[.int .i64 0, .int .i64 0, .int .i64 0, .slice none 0 0, .slice none 0 0, .int .i64 0]) := ⟨I4, J4, C4, G4, R4⟩
    clear C4 G4 R4 Q4 I4 J4
    go_wp2
    refine bodyPost_ret (v := rq (kd) (pl) (nn) (y) a1 a2 l1 l2 c1 c2) (by simp [results, Try.results56, go_sem, y0, y1, y2, y3, y4, y5]) rfl ?_
    obtain ⟨OI, OB, CE, GE, RE⟩ := HH.out
    have hgR : g ≠ w.heap.size + 1 := by have := HX.out; omega
    have hwR : w0.heap.size ≤ w.heap.size + 1 := by have := HX.out; omega
    have hn1 : l1 ≤ l1 + 1 := by omega
    have hn2 : l2 ≤ l2 + 1 := by omega
    exact ⟨_, _, _, _, _, _, _, _, _, _, ws, bs, rfl, HL.out.1, HL.out.2, hn1, hn2, rowp_set6 OI ⟨_, RE⟩ (by decide), rowp_set6 OB ⟨_, RE⟩ (by decide), (((((CE.setHi hgR hwR).setHi hgR hwR).setHi hgR hwR).setHi hgR hwR).setHi hgR hwR).setHi hgR hwR, grown_setHi (grown_setHi (grown_setHi (grown_setHi (grown_setHi (grown_setHi GE (Nat.le_succ _)) (Nat.le_succ _)) (Nat.le_succ _)) (Nat.le_succ _)) (Nat.le_succ _)) (Nat.le_succ _)⟩
  · clear hx
    obtain ⟨q0, q1, q2, q3, q4, q5⟩ := Q1.six
    obtain ⟨y0, y1, y2, y3, y4, y5⟩ := R1.six
    have fy := R1.fro
    have HH : Hid (OwnI u1 base (.slice a1 l1 c1) ws ∧ OwnB u1 base (.slice a2 l2 c2) bs ∧ Cur w0 a cap zs u1 g ∧ w.grownBy u1 (some g) ∧ Blk u1 (w.heap.size + 1) 46 #[.int .i64 0, .int .i64 0, .int .i64 0, .slice none 0 0, .slice none 0 0, .int .i64 0]) := ⟨I1, J1, C1, G1, R1⟩
    clear C1 G1 R1 Q1 I1 J1
    go_wp2
    refine bodyPost_ret (v := rq (kd) (pl) (nn) (wa) a1 a2 l1 l2 c1 c2) (by simp [results, Try.results56, go_sem, y0, y1, y2, y3, y4, y5]) rfl ?_
    obtain ⟨OI, OB, CE, GE, RE⟩ := HH.out
    have hgR : g ≠ w.heap.size + 1 := by have := HX.out; omega
    have hwR : w0.heap.size ≤ w.heap.size + 1 := by have := HX.out; omega
    have hn1 : l1 ≤ l1 + 1 := by omega
    have hn2 : l2 ≤ l2 + 1 := by omega
    exact ⟨_, _, _, _, _, _, _, _, _, _, ws, bs, rfl, HL.out.1, HL.out.2, hn1, hn2, rowp_set6 OI ⟨_, RE⟩ (by decide), rowp_set6 OB ⟨_, RE⟩ (by decide), (((((CE.setHi hgR hwR).setHi hgR hwR).setHi hgR hwR).setHi hgR hwR).setHi hgR hwR).setHi hgR hwR, grown_setHi (grown_setHi (grown_setHi (grown_setHi (grown_setHi (grown_setHi GE (Nat.le_succ _)) (Nat.le_succ _)) (Nat.le_succ _)) (Nat.le_succ _)) (Nat.le_succ _)) (Nat.le_succ _)⟩

end Go.Proofs.Ytcnbbknmofonkaa

namespace Go.Proofs.Ytcnbbknmofonkaa
open Go.RowKit

set_option linter.unusedVariables false

set_option linter.unusedSimpArgs false

/-- What drawing words ends with: words. -/
def DrawnIntsR (w0 : World) (a : Option Addr) (cap : Nat) (zs : List Int) (w : World) (g n : Nat) (e : Ending) (w' : World) : Prop :=
  ∃ (ad : Option Addr) (c : Nat) (ws : List Int), e = .returned (.slice ad n c) ∧ n = ws.length ∧ (∀ z ∈ ws, 0 ≤ z ∧ z ≤ 65535) ∧ OwnI w' w.heap.size (.slice ad n c) ws ∧ Cur w0 a cap zs w' g ∧ w.grownBy w' (some g)

set_option maxHeartbeats 4000000 in
theorem l3ListR_any (w0 : World) (a : Option Addr) (cap : Nat) (zs : List Int) (w : World) (g : Nat) (n : Nat) (hn : n ≤ 1000) (hC : Cur w0 a cap zs w g) :
    Calls Try.prog 87 #[.pointer (some ⟨g, 0, none⟩), .int .i64 n] w fun e w' => DrawnIntsR w0 a cap zs w g n e w' := by
  have o0 : OwnI (w.alloc (.cells #[] 3)) w.heap.size (.slice (some ⟨w.heap.size, 0, none⟩) 0 0) [] := ⟨rfl, .inr ⟨w.heap.size, 0, #[], rfl, Nat.le_refl _, Blk.new w #[] 3, by simp, by simp, rfl, rfl⟩⟩
  have hg := hC.hi
  have hlo := hC.lo
  have C0 := hC.alloc (.cells #[] 3)
  have G0 : w.grownBy (w.alloc (.cells #[] 3)) (some g) := World.grownBy_alloc _ _ _
  clear hC
  go_enter Try.func87, Try.ntmps87
  go_wp2
  go_loopw [5, 6] (fun v i wr => ∃ (k : Nat) (ad : Option Addr) (c : Nat) (ws : List Int), k ≤ n ∧ i = .int .i64 k ∧ v = .slice ad k c ∧ ws.length = k ∧ (∀ z ∈ ws, 0 ≤ z ∧ z ≤ 65535) ∧ OwnI wr w.heap.size v ws ∧ Cur w0 a cap zs wr g ∧ w.grownBy wr (some g)) (fun _ i _ => n - (intOf i).toNat)
  case atStart => exact ⟨0, _, _, [], Nat.zero_le _, rfl, rfl, rfl, (fun z hz => by cases hz), o0, C0, G0⟩
  case round =>
    obtain ⟨k, ad, c, ws, hk, rfl, rfl, hb, hrg, ho, C, G⟩ := hrel
    have HRg : Hid (∀ z ∈ ws, 0 ≤ z ∧ z ≤ 65535) := hrg
    clear hrg
    by_cases hlt : k < n
    · have hi' : (k : Int) < (n : Int) := by omega
      have HB : Hid (ws.length = k) := hb
      clear o0 C0 G0 hb
      go_wp2_with fail
      refine (l1Below_any w0 a cap zs _ g _ (by decide) C).mono ?_
      rintro e w1 ⟨x, rfl, hx, C1, g1⟩
      have HX : Hid (0 ≤ x ∧ x < 65536) := hx
      clear hx
      have I1 := ints_lit w1 [0, 1, 65535, 256, x] 3
      have C1' := C1.alloc (.cells ([0, 1, 65535, 256, x].map (Value.int .i64)).toArray 3)
      have g1' : wr.grownBy (w1.alloc (.cells ([0, 1, 65535, 256, x].map (Value.int .i64)).toArray 3)) (some g) := grown_trans g1 (World.grownBy_alloc _ _ _)
      have hneg : w1.heap.size ≠ g := by have := C1.hi; omega
      clear C1 g1
      go_wp2_with fail
      refine (l1Int_any w0 a cap zs _ g ⟨w1.heap.size, 0, none⟩ 5 5 [0, 1, 65535, 256, x] rfl (by omega) (by omega) I1 hneg C1').mono ?_
      rintro e w2 ⟨y, rfl, hy, C2, g2⟩
      have HY : Hid (0 ≤ y ∧ y ≤ 65535) := by show _ ∧ _; have := HX.out; simp at hy; omega
      clear hy
      have gg := grown_trans g1' g2
      have ho1 : OwnI w2 w.heap.size (.slice ad k c) ws := ho.kept gg (.inr (fun e => by have := (World.ownsRow.lt ho g e).1; omega))
      have HLn : Hid (ws.length + 1 ≤ 4000000) := by show ws.length + 1 ≤ 4000000; rw [HB.out]; omega
      have hsz : w.heap.size ≤ w2.heap.size := Nat.le_trans G.size gg.size
      clear I1 C1' g1' g2
      go_wp2_with (at_builtin; refine wpList_appI rfl (.tmp 13) (.tmp 19) rfl w.heap.size (.slice ad k c) ws rfl (ho1.below (bel_alloc _ _)) ⟨w2.heap.size, 0, none⟩ 1 1 [y] rfl rfl (lit_slI1' _ _ rfl) HLn.out (by simp; omega) ?_; intro v' w3 o3 g3)
      obtain ⟨R1, R2, R3⟩ := ints_step hg G ho C2 gg o3 g3 hlo
      obtain ⟨ad', c', n', hv, hn'⟩ := ownI_shape R1
      have en : n' = k + 1 := by rw [hn', List.length_append, HB.out]; rfl
      subst en
      subst hv
      clear o3 g3 ho1 ho C2 gg
      go_roundw
      case rel => exact ⟨k + 1, ad', c', ws ++ [y], by omega, by go_num, rfl, by rw [List.length_append, HB.out]; rfl, (fun z hz => by rcases List.mem_append.1 hz with h | h; exact HRg.out z h; simp at h; subst h; exact HY.out), R1, R2, R3⟩
      case measure => simp [intOf]; omega
    · obtain rfl : k = n := by omega
      clear o0 C0 G0
      go_wp2
      go_ret
      exact ⟨ad, c, ws, rfl, hb.symm, HRg.out, ho, C, G⟩

theorem allW_of {ws : List Int} (h : ∀ z ∈ ws, 0 ≤ z ∧ z ≤ 65535) : allW ws = true := by
  unfold allW
  refine decide_eq_true (fun k hk => ?_)
  rw [List.getD_eq_getElem?_getD, List.getElem?_eq_getElem hk]
  exact h _ (List.getElem_mem hk)

theorem l3ListR_at (w0 : World) (a : Option Addr) (cap : Nat) (zs : List Int) (w : World) (g : Nat) (x : Int) (n : Nat) (hx : x = (n : Int)) (hn : n ≤ 1000) (hC : Cur w0 a cap zs w g) :
    Calls Try.prog 87 #[.pointer (some ⟨g, 0, none⟩), .int .i64 x] w fun e w' => DrawnIntsR w0 a cap zs w g n e w' := by
  subst hx
  exact l3ListR_any w0 a cap zs w g n hn hC

/-- What drawing a question ends with. -/
def DrawnReqR (w0 : World) (a : Option Addr) (cap : Nat) (zs : List Int) (w : World) (g : Nat) (e : Ending) (w' : World) : Prop :=
  ∃ (kd pl nn wa : Int) (a1 a2 : Option Addr) (l1 l2 c1 c2 : Nat) (ws : List Int) (bs : List Bool), e = .returned (rq kd pl nn wa a1 a2 l1 l2 c1 c2) ∧ l1 = ws.length ∧ l2 = bs.length ∧ l1 ≤ 6 ∧ l2 ≤ 20 ∧ okR kd pl nn wa ws l1 l2 = true ∧ OwnI w' w.heap.size (.slice a1 l1 c1) ws ∧ OwnB w' w.heap.size (.slice a2 l2 c2) bs ∧ Cur w0 a cap zs w' g ∧ w.grownBy w' (some g)

/-- As DrawnReqR, its numbers small. -/
def DrawnReqN (w0 : World) (a : Option Addr) (cap : Nat) (zs : List Int) (w : World) (g : Nat) (e : Ending) (w' : World) : Prop :=
  ∃ (kd pl nn wa : Int) (a1 a2 : Option Addr) (l1 l2 c1 c2 : Nat) (ws : List Int) (bs : List Bool), e = .returned (rq kd pl nn wa a1 a2 l1 l2 c1 c2) ∧ l1 = ws.length ∧ l2 = bs.length ∧ l1 ≤ 6 ∧ l2 ≤ 20 ∧ okR kd pl nn wa ws l1 l2 = true ∧ OwnI w' w.heap.size (.slice a1 l1 c1) ws ∧ OwnB w' w.heap.size (.slice a2 l2 c2) bs ∧ Cur w0 a cap zs w' g ∧ w.grownBy w' (some g) ∧ (0 ≤ pl ∧ pl ≤ 100 ∧ 0 ≤ nn ∧ nn ≤ 100)

set_option maxRecDepth 20000 in
set_option maxHeartbeats 16000000 in
theorem l3DrawN_any (w0 : World) (a : Option Addr) (cap : Nat) (zs : List Int) (w : World) (g : Nat) (hC : Cur w0 a cap zs w g) :
    Calls Try.prog 52 #[.pointer (some ⟨g, 0, none⟩), .int .i64 0] w fun e w' => DrawnReqN w0 a cap zs w g e w' := by
  obtain ⟨W0, hW0⟩ : ∃ W0, W0 = w.alloc (.cells #[.int .i64 0, .int .i64 0, .int .i64 0, .slice none 0 0, .slice none 0 0, .int .i64 0] 46) := ⟨_, rfl⟩
  have HW : Hid (W0 = _) := hW0
  have hg := hC.hi
  have hlo := hC.lo
  have C0 : Cur w0 a cap zs W0 g := by rw [hW0]; exact hC.alloc _
  have G0 : w.grownBy W0 (some g) := by rw [hW0]; exact World.grownBy_alloc _ _ _
  have R0 : Blk W0 w.heap.size 46 #[.int .i64 0, .int .i64 0, .int .i64 0, .slice none 0 0, .slice none 0 0, .int .i64 0] := by rw [hW0]; exact Blk.new _ _ _
  have I1 := ints_lit W0 [1, 2, 3, 4, 5, 6, 15, 16, 22, 23, 3, 16] 3
  have C1 := C0.alloc (.cells ([1, 2, 3, 4, 5, 6, 15, 16, 22, 23, 3, 16].map (Value.int .i64)).toArray 3)
  have G1 : w.grownBy (W0.alloc (.cells ([1, 2, 3, 4, 5, 6, 15, 16, 22, 23, 3, 16].map (Value.int .i64)).toArray 3)) (some g) := grown_trans G0 (World.grownBy_alloc _ _ _)
  have R1 := R0.below (bel_alloc W0 (.cells ([1, 2, 3, 4, 5, 6, 15, 16, 22, 23, 3, 16].map (Value.int .i64)).toArray 3))
  have hne1 : W0.heap.size ≠ g := by have := C0.hi; omega
  have HGR : Hid (g < w.heap.size ∧ w0.heap.size ≤ g) := ⟨hg, hlo⟩
  clear hC hW0 C0 G0 R0 hlo
  go_enter Try.func52, Try.ntmps52
  go_upto_region 1 with fail
  rw [← HW.out]
  go_wp2_with fail
  refine (l1Int_any w0 a cap zs _ g ⟨W0.heap.size, 0, none⟩ 12 12 [1, 2, 3, 4, 5, 6, 15, 16, 22, 23, 3, 16] rfl (by omega) (by omega) I1 hne1 C1).mono ?_
  rintro e u1 ⟨kd, rfl, hkd, C2, g2⟩
  have G2 := grown_trans G1 g2
  have R2 := R1.grown g2 (by simp; omega)
  have hk : kd = 1 ∨ kd = 2 ∨ kd = 3 ∨ kd = 4 ∨ kd = 5 ∨ kd = 6 ∨ kd = 15 ∨ kd = 16 ∨ kd = 22 ∨ kd = 23 := by simp at hkd; omega
  clear I1 C1 G1 R1 g2 hne1 hkd
  go_wp2_with fail
  refine (l1Below_any w0 a cap zs _ g _ (by decide) C2).mono ?_
  rintro e u2 ⟨p, rfl, hp, C3, g3⟩
  have G3 := grown_trans G2 g3
  have R3 := R2.grown g3 (by simp; omega)
  clear C2 G2 R2 g3
  obtain rfl | rfl | rfl | rfl | rfl | rfl | rfl | rfl | rfl | rfl := hk
  · skip
    obtain ⟨u3, hu3⟩ : ∃ u3, u3 = u2.alloc (.cells #[.int .i64 1, .int .i64 p, .int .i64 0, .slice none 0 0, .slice none 0 0, .int .i64 0] 46) := ⟨_, rfl⟩
    have HU : Hid (u3 = _) := hu3
    obtain ⟨B, hB⟩ : ∃ B, B = u2.heap.size := ⟨_, rfl⟩
    have HBe : Hid (B = u2.heap.size) := hB
    have HB : Hid (w.heap.size < B) := by show w.heap.size < B; have := R3.lt; omega
    have C4 : Cur w0 a cap zs u3 g := by rw [hu3]; exact C3.alloc _
    have G4 : w.grownBy u3 (some g) := by rw [hu3]; exact grown_trans G3 (World.grownBy_alloc _ _ _)
    have R4 : Blk u3 w.heap.size 46 #[.int .i64 0, .int .i64 0, .int .i64 0, .slice none 0 0, .slice none 0 0, .int .i64 0] := by rw [hu3]; exact R3.below (bel_alloc _ _)
    have Q4 : Blk u3 B 46 #[.int .i64 1, .int .i64 p, .int .i64 0, .slice none 0 0, .slice none 0 0, .int .i64 0] := by rw [hu3, hB]; exact Blk.new _ _ _
    clear C3 G3 R3 hu3 hB
    go_upto_region 2 with fail
    rw [← HU.out]
    simp only [← HBe.out]
    go_wp2_with fail
    refine (l1Below_any w0 a cap zs _ g _ (by decide) C4).mono ?_
    rintro e t5 ⟨x, rfl, hx, C5, gg⟩
    have G5 := grown_trans G4 gg
    have R5 := R4.grown gg (by have := HGR.out; simp; omega)
    have Q5 := Q4.grown gg (by have := HGR.out; have := HB.out; simp; omega)
    clear C4 R4 Q4 gg 
    clear G4
    have k0 := Q5.cell 0 rfl
    go_upto_region 4 with fail
    have qc := Q5.cell 2 rfl
    have qf := Q5.fro 2
    have Q6 := Q5.set 2 (.int .i64 (1 + x))
    have R6 := R5.setNe (g' := B) (j := 2) (y := .int .i64 (1 + x)) (by have := HB.out; omega)
    have C6 := C5.setHi (G := B) (j := 2) (y := .int .i64 (1 + x)) (by have := HB.out; have := HGR.out; omega) (by have := HB.out; have := HGR.out; omega)
    have G6 := grown_setHi (G := B) (j := 2) (y := .int .i64 (1 + x)) G5 (by have := HB.out; omega)
    go_upto_region 19 with fail
    obtain ⟨v6, hv6⟩ : ∃ v6, v6 = t5.setCell ⟨B, 2, none⟩ (.int .i64 (1 + x)) := ⟨_, rfl⟩
    rw [← hv6] at Q6 R6 C6 G6 ⊢
    clear hv6 qc qf Q5 R5 C5 G5 
    obtain ⟨q0, q1, q2, q3, q4, q5⟩ := Q6.six
    obtain ⟨y0, y1, y2, y3, y4, y5⟩ := R6.six
    have fy := R6.fro
    have OI : OwnI v6 w.heap.size (.slice none 0 0) [] := (ownI_nil _ _)
    have OB : OwnB v6 w.heap.size (.slice none 0 0) [] := (ownB_nil _ _)
    have HH : Hid (OwnI v6 w.heap.size (.slice none 0 0) [] ∧ OwnB v6 w.heap.size (.slice none 0 0) [] ∧ Cur w0 a cap zs v6 g ∧ w.grownBy v6 (some g) ∧ Blk v6 w.heap.size 46 #[.int .i64 0, .int .i64 0, .int .i64 0, .slice none 0 0, .slice none 0 0, .int .i64 0]) := ⟨OI, OB, C6, G6, R6⟩
    clear OI OB C6 G6 R6 Q6 
    go_wp2
    refine bodyPost_ret (v := rq 1 (p) ((1 + x)) (0) none none 0 0 0 0) (by simp [results, Try.results52, go_sem, y0, y1, y2, y3, y4, y5]) rfl ?_
    obtain ⟨OI, OB, CE, GE, RE⟩ := HH.out
    have hA0 : allW ([] : List Int) = true := by decide
    have hOK : okR 1 (p) ((1 + x)) (0) [] 0 0 = true := by first | (simp [okR, okK, zrB, inB, fitB, hA0]; omega) | (have h6 := HM.out; simp [okR, okK, zrB, inB, fitB, hA0]; omega) | (have h5 := HAW.out; have h6 := HM.out; simp [okR, okK, zrB, inB, fitB, h5]; omega) | (have h5 := HAW.out; simp [okR, okK, zrB, inB, fitB, h5]; omega)
    have hgR : g ≠ w.heap.size := by have := HGR.out; omega
    have hwR : w0.heap.size ≤ w.heap.size := by have := HGR.out; omega
    exact ⟨_, _, _, _, _, _, _, _, _, _, [], [], rfl, rfl, rfl, by first | omega | (have := HM.out; omega), by first | omega | (have := HM.out; omega), hOK, rowp_set6 OI ⟨_, RE⟩ (by decide), rowp_set6 OB ⟨_, RE⟩ (by decide), (((((CE.setHi hgR hwR).setHi hgR hwR).setHi hgR hwR).setHi hgR hwR).setHi hgR hwR).setHi hgR hwR, grown_setHi (grown_setHi (grown_setHi (grown_setHi (grown_setHi (grown_setHi GE (Nat.le_refl _)) (Nat.le_refl _)) (Nat.le_refl _)) (Nat.le_refl _)) (Nat.le_refl _)) (Nat.le_refl _), ⟨by first | omega | (have := HM.out; omega), by first | omega | (have := HM.out; omega), by first | omega | (have := HM.out; omega), by first | omega | (have := HM.out; omega)⟩⟩
  · skip
    obtain ⟨u3, hu3⟩ : ∃ u3, u3 = u2.alloc (.cells #[.int .i64 2, .int .i64 p, .int .i64 0, .slice none 0 0, .slice none 0 0, .int .i64 0] 46) := ⟨_, rfl⟩
    have HU : Hid (u3 = _) := hu3
    obtain ⟨B, hB⟩ : ∃ B, B = u2.heap.size := ⟨_, rfl⟩
    have HBe : Hid (B = u2.heap.size) := hB
    have HB : Hid (w.heap.size < B) := by show w.heap.size < B; have := R3.lt; omega
    have C4 : Cur w0 a cap zs u3 g := by rw [hu3]; exact C3.alloc _
    have G4 : w.grownBy u3 (some g) := by rw [hu3]; exact grown_trans G3 (World.grownBy_alloc _ _ _)
    have R4 : Blk u3 w.heap.size 46 #[.int .i64 0, .int .i64 0, .int .i64 0, .slice none 0 0, .slice none 0 0, .int .i64 0] := by rw [hu3]; exact R3.below (bel_alloc _ _)
    have Q4 : Blk u3 B 46 #[.int .i64 2, .int .i64 p, .int .i64 0, .slice none 0 0, .slice none 0 0, .int .i64 0] := by rw [hu3, hB]; exact Blk.new _ _ _
    clear C3 G3 R3 hu3 hB
    go_upto_region 2 with fail
    rw [← HU.out]
    simp only [← HBe.out]
    go_wp2_with fail
    refine (l1Below_any w0 a cap zs _ g _ (by decide) C4).mono ?_
    rintro e t5 ⟨x, rfl, hx, C5, gg⟩
    have G5 := grown_trans G4 gg
    have R5 := R4.grown gg (by have := HGR.out; simp; omega)
    have Q5 := Q4.grown gg (by have := HGR.out; have := HB.out; simp; omega)
    clear C4 R4 Q4 gg 
    clear G4
    have k0 := Q5.cell 0 rfl
    go_upto_region 4 with fail
    have qc := Q5.cell 2 rfl
    have qf := Q5.fro 2
    have Q6 := Q5.set 2 (.int .i64 (1 + x))
    have R6 := R5.setNe (g' := B) (j := 2) (y := .int .i64 (1 + x)) (by have := HB.out; omega)
    have C6 := C5.setHi (G := B) (j := 2) (y := .int .i64 (1 + x)) (by have := HB.out; have := HGR.out; omega) (by have := HB.out; have := HGR.out; omega)
    have G6 := grown_setHi (G := B) (j := 2) (y := .int .i64 (1 + x)) G5 (by have := HB.out; omega)
    go_upto_region 19 with fail
    obtain ⟨v6, hv6⟩ : ∃ v6, v6 = t5.setCell ⟨B, 2, none⟩ (.int .i64 (1 + x)) := ⟨_, rfl⟩
    rw [← hv6] at Q6 R6 C6 G6 ⊢
    clear hv6 qc qf Q5 R5 C5 G5 
    obtain ⟨q0, q1, q2, q3, q4, q5⟩ := Q6.six
    obtain ⟨y0, y1, y2, y3, y4, y5⟩ := R6.six
    have fy := R6.fro
    have OI : OwnI v6 w.heap.size (.slice none 0 0) [] := (ownI_nil _ _)
    have OB : OwnB v6 w.heap.size (.slice none 0 0) [] := (ownB_nil _ _)
    have HH : Hid (OwnI v6 w.heap.size (.slice none 0 0) [] ∧ OwnB v6 w.heap.size (.slice none 0 0) [] ∧ Cur w0 a cap zs v6 g ∧ w.grownBy v6 (some g) ∧ Blk v6 w.heap.size 46 #[.int .i64 0, .int .i64 0, .int .i64 0, .slice none 0 0, .slice none 0 0, .int .i64 0]) := ⟨OI, OB, C6, G6, R6⟩
    clear OI OB C6 G6 R6 Q6 
    go_wp2
    refine bodyPost_ret (v := rq 2 (p) ((1 + x)) (0) none none 0 0 0 0) (by simp [results, Try.results52, go_sem, y0, y1, y2, y3, y4, y5]) rfl ?_
    obtain ⟨OI, OB, CE, GE, RE⟩ := HH.out
    have hA0 : allW ([] : List Int) = true := by decide
    have hOK : okR 2 (p) ((1 + x)) (0) [] 0 0 = true := by first | (simp [okR, okK, zrB, inB, fitB, hA0]; omega) | (have h6 := HM.out; simp [okR, okK, zrB, inB, fitB, hA0]; omega) | (have h5 := HAW.out; have h6 := HM.out; simp [okR, okK, zrB, inB, fitB, h5]; omega) | (have h5 := HAW.out; simp [okR, okK, zrB, inB, fitB, h5]; omega)
    have hgR : g ≠ w.heap.size := by have := HGR.out; omega
    have hwR : w0.heap.size ≤ w.heap.size := by have := HGR.out; omega
    exact ⟨_, _, _, _, _, _, _, _, _, _, [], [], rfl, rfl, rfl, by first | omega | (have := HM.out; omega), by first | omega | (have := HM.out; omega), hOK, rowp_set6 OI ⟨_, RE⟩ (by decide), rowp_set6 OB ⟨_, RE⟩ (by decide), (((((CE.setHi hgR hwR).setHi hgR hwR).setHi hgR hwR).setHi hgR hwR).setHi hgR hwR).setHi hgR hwR, grown_setHi (grown_setHi (grown_setHi (grown_setHi (grown_setHi (grown_setHi GE (Nat.le_refl _)) (Nat.le_refl _)) (Nat.le_refl _)) (Nat.le_refl _)) (Nat.le_refl _)) (Nat.le_refl _), ⟨by first | omega | (have := HM.out; omega), by first | omega | (have := HM.out; omega), by first | omega | (have := HM.out; omega), by first | omega | (have := HM.out; omega)⟩⟩
  · skip
    obtain ⟨u3, hu3⟩ : ∃ u3, u3 = u2.alloc (.cells #[.int .i64 3, .int .i64 p, .int .i64 0, .slice none 0 0, .slice none 0 0, .int .i64 0] 46) := ⟨_, rfl⟩
    have HU : Hid (u3 = _) := hu3
    obtain ⟨B, hB⟩ : ∃ B, B = u2.heap.size := ⟨_, rfl⟩
    have HBe : Hid (B = u2.heap.size) := hB
    have HB : Hid (w.heap.size < B) := by show w.heap.size < B; have := R3.lt; omega
    have C4 : Cur w0 a cap zs u3 g := by rw [hu3]; exact C3.alloc _
    have G4 : w.grownBy u3 (some g) := by rw [hu3]; exact grown_trans G3 (World.grownBy_alloc _ _ _)
    have R4 : Blk u3 w.heap.size 46 #[.int .i64 0, .int .i64 0, .int .i64 0, .slice none 0 0, .slice none 0 0, .int .i64 0] := by rw [hu3]; exact R3.below (bel_alloc _ _)
    have Q4 : Blk u3 B 46 #[.int .i64 3, .int .i64 p, .int .i64 0, .slice none 0 0, .slice none 0 0, .int .i64 0] := by rw [hu3, hB]; exact Blk.new _ _ _
    clear C3 G3 R3 hu3 hB
    go_upto_region 2 with fail
    rw [← HU.out]
    simp only [← HBe.out]
    go_wp2_with fail
    refine (l1Below_any w0 a cap zs _ g _ (by decide) C4).mono ?_
    rintro e t5 ⟨x, rfl, hx, C5, gg⟩
    have G5 := grown_trans G4 gg
    have R5 := R4.grown gg (by have := HGR.out; simp; omega)
    have Q5 := Q4.grown gg (by have := HGR.out; have := HB.out; simp; omega)
    clear C4 R4 Q4 gg 
    clear G4
    have k0 := Q5.cell 0 rfl
    go_upto_region 4 with fail
    have qc := Q5.cell 2 rfl
    have qf := Q5.fro 2
    have Q6 := Q5.set 2 (.int .i64 (1 + x))
    have R6 := R5.setNe (g' := B) (j := 2) (y := .int .i64 (1 + x)) (by have := HB.out; omega)
    have C6 := C5.setHi (G := B) (j := 2) (y := .int .i64 (1 + x)) (by have := HB.out; have := HGR.out; omega) (by have := HB.out; have := HGR.out; omega)
    have G6 := grown_setHi (G := B) (j := 2) (y := .int .i64 (1 + x)) G5 (by have := HB.out; omega)
    go_upto_region 19 with fail
    obtain ⟨v6, hv6⟩ : ∃ v6, v6 = t5.setCell ⟨B, 2, none⟩ (.int .i64 (1 + x)) := ⟨_, rfl⟩
    rw [← hv6] at Q6 R6 C6 G6 ⊢
    clear hv6 qc qf Q5 R5 C5 G5 
    obtain ⟨q0, q1, q2, q3, q4, q5⟩ := Q6.six
    obtain ⟨y0, y1, y2, y3, y4, y5⟩ := R6.six
    have fy := R6.fro
    have OI : OwnI v6 w.heap.size (.slice none 0 0) [] := (ownI_nil _ _)
    have OB : OwnB v6 w.heap.size (.slice none 0 0) [] := (ownB_nil _ _)
    have HH : Hid (OwnI v6 w.heap.size (.slice none 0 0) [] ∧ OwnB v6 w.heap.size (.slice none 0 0) [] ∧ Cur w0 a cap zs v6 g ∧ w.grownBy v6 (some g) ∧ Blk v6 w.heap.size 46 #[.int .i64 0, .int .i64 0, .int .i64 0, .slice none 0 0, .slice none 0 0, .int .i64 0]) := ⟨OI, OB, C6, G6, R6⟩
    clear OI OB C6 G6 R6 Q6 
    go_wp2
    refine bodyPost_ret (v := rq 3 (p) ((1 + x)) (0) none none 0 0 0 0) (by simp [results, Try.results52, go_sem, y0, y1, y2, y3, y4, y5]) rfl ?_
    obtain ⟨OI, OB, CE, GE, RE⟩ := HH.out
    have hA0 : allW ([] : List Int) = true := by decide
    have hOK : okR 3 (p) ((1 + x)) (0) [] 0 0 = true := by first | (simp [okR, okK, zrB, inB, fitB, hA0]; omega) | (have h6 := HM.out; simp [okR, okK, zrB, inB, fitB, hA0]; omega) | (have h5 := HAW.out; have h6 := HM.out; simp [okR, okK, zrB, inB, fitB, h5]; omega) | (have h5 := HAW.out; simp [okR, okK, zrB, inB, fitB, h5]; omega)
    have hgR : g ≠ w.heap.size := by have := HGR.out; omega
    have hwR : w0.heap.size ≤ w.heap.size := by have := HGR.out; omega
    exact ⟨_, _, _, _, _, _, _, _, _, _, [], [], rfl, rfl, rfl, by first | omega | (have := HM.out; omega), by first | omega | (have := HM.out; omega), hOK, rowp_set6 OI ⟨_, RE⟩ (by decide), rowp_set6 OB ⟨_, RE⟩ (by decide), (((((CE.setHi hgR hwR).setHi hgR hwR).setHi hgR hwR).setHi hgR hwR).setHi hgR hwR).setHi hgR hwR, grown_setHi (grown_setHi (grown_setHi (grown_setHi (grown_setHi (grown_setHi GE (Nat.le_refl _)) (Nat.le_refl _)) (Nat.le_refl _)) (Nat.le_refl _)) (Nat.le_refl _)) (Nat.le_refl _), ⟨by first | omega | (have := HM.out; omega), by first | omega | (have := HM.out; omega), by first | omega | (have := HM.out; omega), by first | omega | (have := HM.out; omega)⟩⟩
  · skip
    obtain ⟨u3, hu3⟩ : ∃ u3, u3 = u2.alloc (.cells #[.int .i64 4, .int .i64 p, .int .i64 0, .slice none 0 0, .slice none 0 0, .int .i64 0] 46) := ⟨_, rfl⟩
    have HU : Hid (u3 = _) := hu3
    obtain ⟨B, hB⟩ : ∃ B, B = u2.heap.size := ⟨_, rfl⟩
    have HBe : Hid (B = u2.heap.size) := hB
    have HB : Hid (w.heap.size < B) := by show w.heap.size < B; have := R3.lt; omega
    have C4 : Cur w0 a cap zs u3 g := by rw [hu3]; exact C3.alloc _
    have G4 : w.grownBy u3 (some g) := by rw [hu3]; exact grown_trans G3 (World.grownBy_alloc _ _ _)
    have R4 : Blk u3 w.heap.size 46 #[.int .i64 0, .int .i64 0, .int .i64 0, .slice none 0 0, .slice none 0 0, .int .i64 0] := by rw [hu3]; exact R3.below (bel_alloc _ _)
    have Q4 : Blk u3 B 46 #[.int .i64 4, .int .i64 p, .int .i64 0, .slice none 0 0, .slice none 0 0, .int .i64 0] := by rw [hu3, hB]; exact Blk.new _ _ _
    clear C3 G3 R3 hu3 hB
    go_upto_region 2 with fail
    rw [← HU.out]
    simp only [← HBe.out]
    go_wp2_with fail
    refine (l1Below_any w0 a cap zs _ g _ (by decide) C4).mono ?_
    rintro e t5 ⟨x, rfl, hx, C5, gg⟩
    have G5 := grown_trans G4 gg
    have R5 := R4.grown gg (by have := HGR.out; simp; omega)
    have Q5 := Q4.grown gg (by have := HGR.out; have := HB.out; simp; omega)
    clear C4 R4 Q4 gg 
    clear G4
    have k0 := Q5.cell 0 rfl
    go_upto_region 4 with fail
    have qc := Q5.cell 2 rfl
    have qf := Q5.fro 2
    have Q6 := Q5.set 2 (.int .i64 (1 + x))
    have R6 := R5.setNe (g' := B) (j := 2) (y := .int .i64 (1 + x)) (by have := HB.out; omega)
    have C6 := C5.setHi (G := B) (j := 2) (y := .int .i64 (1 + x)) (by have := HB.out; have := HGR.out; omega) (by have := HB.out; have := HGR.out; omega)
    have G6 := grown_setHi (G := B) (j := 2) (y := .int .i64 (1 + x)) G5 (by have := HB.out; omega)
    go_upto_region 19 with fail
    obtain ⟨v6, hv6⟩ : ∃ v6, v6 = t5.setCell ⟨B, 2, none⟩ (.int .i64 (1 + x)) := ⟨_, rfl⟩
    rw [← hv6] at Q6 R6 C6 G6 ⊢
    clear hv6 qc qf Q5 R5 C5 G5 
    obtain ⟨q0, q1, q2, q3, q4, q5⟩ := Q6.six
    obtain ⟨y0, y1, y2, y3, y4, y5⟩ := R6.six
    have fy := R6.fro
    have OI : OwnI v6 w.heap.size (.slice none 0 0) [] := (ownI_nil _ _)
    have OB : OwnB v6 w.heap.size (.slice none 0 0) [] := (ownB_nil _ _)
    have HH : Hid (OwnI v6 w.heap.size (.slice none 0 0) [] ∧ OwnB v6 w.heap.size (.slice none 0 0) [] ∧ Cur w0 a cap zs v6 g ∧ w.grownBy v6 (some g) ∧ Blk v6 w.heap.size 46 #[.int .i64 0, .int .i64 0, .int .i64 0, .slice none 0 0, .slice none 0 0, .int .i64 0]) := ⟨OI, OB, C6, G6, R6⟩
    clear OI OB C6 G6 R6 Q6 
    go_wp2
    refine bodyPost_ret (v := rq 4 (p) ((1 + x)) (0) none none 0 0 0 0) (by simp [results, Try.results52, go_sem, y0, y1, y2, y3, y4, y5]) rfl ?_
    obtain ⟨OI, OB, CE, GE, RE⟩ := HH.out
    have hA0 : allW ([] : List Int) = true := by decide
    have hOK : okR 4 (p) ((1 + x)) (0) [] 0 0 = true := by first | (simp [okR, okK, zrB, inB, fitB, hA0]; omega) | (have h6 := HM.out; simp [okR, okK, zrB, inB, fitB, hA0]; omega) | (have h5 := HAW.out; have h6 := HM.out; simp [okR, okK, zrB, inB, fitB, h5]; omega) | (have h5 := HAW.out; simp [okR, okK, zrB, inB, fitB, h5]; omega)
    have hgR : g ≠ w.heap.size := by have := HGR.out; omega
    have hwR : w0.heap.size ≤ w.heap.size := by have := HGR.out; omega
    exact ⟨_, _, _, _, _, _, _, _, _, _, [], [], rfl, rfl, rfl, by first | omega | (have := HM.out; omega), by first | omega | (have := HM.out; omega), hOK, rowp_set6 OI ⟨_, RE⟩ (by decide), rowp_set6 OB ⟨_, RE⟩ (by decide), (((((CE.setHi hgR hwR).setHi hgR hwR).setHi hgR hwR).setHi hgR hwR).setHi hgR hwR).setHi hgR hwR, grown_setHi (grown_setHi (grown_setHi (grown_setHi (grown_setHi (grown_setHi GE (Nat.le_refl _)) (Nat.le_refl _)) (Nat.le_refl _)) (Nat.le_refl _)) (Nat.le_refl _)) (Nat.le_refl _), ⟨by first | omega | (have := HM.out; omega), by first | omega | (have := HM.out; omega), by first | omega | (have := HM.out; omega), by first | omega | (have := HM.out; omega)⟩⟩
  · skip
    obtain ⟨u3, hu3⟩ : ∃ u3, u3 = u2.alloc (.cells #[.int .i64 5, .int .i64 p, .int .i64 0, .slice none 0 0, .slice none 0 0, .int .i64 0] 46) := ⟨_, rfl⟩
    have HU : Hid (u3 = _) := hu3
    obtain ⟨B, hB⟩ : ∃ B, B = u2.heap.size := ⟨_, rfl⟩
    have HBe : Hid (B = u2.heap.size) := hB
    have HB : Hid (w.heap.size < B) := by show w.heap.size < B; have := R3.lt; omega
    have C4 : Cur w0 a cap zs u3 g := by rw [hu3]; exact C3.alloc _
    have G4 : w.grownBy u3 (some g) := by rw [hu3]; exact grown_trans G3 (World.grownBy_alloc _ _ _)
    have R4 : Blk u3 w.heap.size 46 #[.int .i64 0, .int .i64 0, .int .i64 0, .slice none 0 0, .slice none 0 0, .int .i64 0] := by rw [hu3]; exact R3.below (bel_alloc _ _)
    have Q4 : Blk u3 B 46 #[.int .i64 5, .int .i64 p, .int .i64 0, .slice none 0 0, .slice none 0 0, .int .i64 0] := by rw [hu3, hB]; exact Blk.new _ _ _
    clear C3 G3 R3 hu3 hB
    go_upto_region 2 with fail
    rw [← HU.out]
    simp only [← HBe.out]
    go_wp2_with fail
    refine (l1Below_any w0 a cap zs _ g _ (by decide) C4).mono ?_
    rintro e t5 ⟨x, rfl, hx, C5, gg⟩
    have G5 := grown_trans G4 gg
    have R5 := R4.grown gg (by have := HGR.out; simp; omega)
    have Q5 := Q4.grown gg (by have := HGR.out; have := HB.out; simp; omega)
    clear C4 R4 Q4 gg 
    clear G4
    have k0 := Q5.cell 0 rfl
    go_upto_region 6 with fail
    go_wp2_with fail
    refine (l2Bits_at w0 a cap zs _ g _ 1 rfl (by omega) C5).mono ?_
    rintro e t6 ⟨a', c', bs, rfl, hbs, oj, C6, gg⟩
    have G6 := grown_trans G5 gg
    have R6 := R5.grown gg (by have := HGR.out; simp; omega)
    have Q6 := Q5.grown gg (by have := HGR.out; have := HB.out; simp; omega)
    clear C5 R5 Q5 gg 
    have J6 := OwnB.mono oj G5.size
    have HBs : Hid (_ = bs.length) := hbs
    clear oj hbs G5
    have qc := Q6.cell 4 rfl
    have qf := Q6.fro 4
    have Q7 := Q6.set 4 (.slice (some a') 1 c')
    have R7 := R6.setNe (g' := B) (j := 4) (y := .slice (some a') 1 c') (by have := HB.out; omega)
    have C7 := C6.setHi (G := B) (j := 4) (y := .slice (some a') 1 c') (by have := HB.out; have := HGR.out; omega) (by have := HB.out; have := HGR.out; omega)
    have G7 := grown_setHi (G := B) (j := 4) (y := .slice (some a') 1 c') G6 (by have := HB.out; omega)
    have J7 := row_setE (j := 4) (y := .slice (some a') 1 c') J6 ⟨_, Q6⟩ (by decide)
    go_upto_region 19 with fail
    obtain ⟨v7, hv7⟩ : ∃ v7, v7 = t6.setCell ⟨B, 4, none⟩ (.slice (some a') 1 c') := ⟨_, rfl⟩
    rw [← hv7] at Q7 R7 C7 G7 J7 ⊢
    clear hv7 qc qf Q6 R6 C6 G6 J6
    obtain ⟨q0, q1, q2, q3, q4, q5⟩ := Q7.six
    obtain ⟨y0, y1, y2, y3, y4, y5⟩ := R7.six
    have fy := R7.fro
    have OI : OwnI v7 w.heap.size (.slice none 0 0) [] := (ownI_nil _ _)
    have OB : OwnB v7 w.heap.size (.slice (some a') 1 c') bs := J7
    have HH : Hid (OwnI v7 w.heap.size (.slice none 0 0) [] ∧ OwnB v7 w.heap.size (.slice (some a') 1 c') bs ∧ Cur w0 a cap zs v7 g ∧ w.grownBy v7 (some g) ∧ Blk v7 w.heap.size 46 #[.int .i64 0, .int .i64 0, .int .i64 0, .slice none 0 0, .slice none 0 0, .int .i64 0]) := ⟨OI, OB, C7, G7, R7⟩
    clear OI OB C7 G7 R7 Q7 J7
    go_wp2
    refine bodyPost_ret (v := rq 5 (p) (0) (0) none (some a') 0 1 0 c') (by simp [results, Try.results52, go_sem, y0, y1, y2, y3, y4, y5]) rfl ?_
    obtain ⟨OI, OB, CE, GE, RE⟩ := HH.out
    have hA0 : allW ([] : List Int) = true := by decide
    have hOK : okR 5 (p) (0) (0) [] 0 1 = true := by first | (simp [okR, okK, zrB, inB, fitB, hA0]; omega) | (have h6 := HM.out; simp [okR, okK, zrB, inB, fitB, hA0]; omega) | (have h5 := HAW.out; have h6 := HM.out; simp [okR, okK, zrB, inB, fitB, h5]; omega) | (have h5 := HAW.out; simp [okR, okK, zrB, inB, fitB, h5]; omega)
    have hgR : g ≠ w.heap.size := by have := HGR.out; omega
    have hwR : w0.heap.size ≤ w.heap.size := by have := HGR.out; omega
    exact ⟨_, _, _, _, _, _, _, _, _, _, [], bs, rfl, rfl, HBs.out, by first | omega | (have := HM.out; omega), by first | omega | (have := HM.out; omega), hOK, rowp_set6 OI ⟨_, RE⟩ (by decide), rowp_set6 OB ⟨_, RE⟩ (by decide), (((((CE.setHi hgR hwR).setHi hgR hwR).setHi hgR hwR).setHi hgR hwR).setHi hgR hwR).setHi hgR hwR, grown_setHi (grown_setHi (grown_setHi (grown_setHi (grown_setHi (grown_setHi GE (Nat.le_refl _)) (Nat.le_refl _)) (Nat.le_refl _)) (Nat.le_refl _)) (Nat.le_refl _)) (Nat.le_refl _), ⟨by first | omega | (have := HM.out; omega), by first | omega | (have := HM.out; omega), by first | omega | (have := HM.out; omega), by first | omega | (have := HM.out; omega)⟩⟩
  · skip
    obtain ⟨u3, hu3⟩ : ∃ u3, u3 = u2.alloc (.cells #[.int .i64 6, .int .i64 p, .int .i64 0, .slice none 0 0, .slice none 0 0, .int .i64 0] 46) := ⟨_, rfl⟩
    have HU : Hid (u3 = _) := hu3
    obtain ⟨B, hB⟩ : ∃ B, B = u2.heap.size := ⟨_, rfl⟩
    have HBe : Hid (B = u2.heap.size) := hB
    have HB : Hid (w.heap.size < B) := by show w.heap.size < B; have := R3.lt; omega
    have C4 : Cur w0 a cap zs u3 g := by rw [hu3]; exact C3.alloc _
    have G4 : w.grownBy u3 (some g) := by rw [hu3]; exact grown_trans G3 (World.grownBy_alloc _ _ _)
    have R4 : Blk u3 w.heap.size 46 #[.int .i64 0, .int .i64 0, .int .i64 0, .slice none 0 0, .slice none 0 0, .int .i64 0] := by rw [hu3]; exact R3.below (bel_alloc _ _)
    have Q4 : Blk u3 B 46 #[.int .i64 6, .int .i64 p, .int .i64 0, .slice none 0 0, .slice none 0 0, .int .i64 0] := by rw [hu3, hB]; exact Blk.new _ _ _
    clear C3 G3 R3 hu3 hB
    go_upto_region 2 with fail
    rw [← HU.out]
    simp only [← HBe.out]
    go_wp2_with fail
    refine (l1Below_any w0 a cap zs _ g _ (by decide) C4).mono ?_
    rintro e t5 ⟨x, rfl, hx, C5, gg⟩
    have G5 := grown_trans G4 gg
    have R5 := R4.grown gg (by have := HGR.out; simp; omega)
    have Q5 := Q4.grown gg (by have := HGR.out; have := HB.out; simp; omega)
    clear C4 R4 Q4 gg 
    clear G4
    have k0 := Q5.cell 0 rfl
    go_upto_region 8 with fail
    go_wp2_with fail
    refine (l3ListR_at w0 a cap zs _ g _ 1 rfl (by omega) C5).mono ?_
    rintro e t6 ⟨a', c', ws, rfl, hws, hrg, oi, C6, gg⟩
    have G6 := grown_trans G5 gg
    have R6 := R5.grown gg (by have := HGR.out; simp; omega)
    have Q6 := Q5.grown gg (by have := HGR.out; have := HB.out; simp; omega)
    clear C5 R5 Q5 gg 
    have I6 := OwnI.mono oi G5.size
    have HWs : Hid (_ = ws.length) := hws
    have HAW : Hid (allW ws = true) := allW_of hrg
    clear oi hws hrg G5
    have qc := Q6.cell 3 rfl
    have qf := Q6.fro 3
    have Q7 := Q6.set 3 (.slice a' 1 c')
    have R7 := R6.setNe (g' := B) (j := 3) (y := .slice a' 1 c') (by have := HB.out; omega)
    have C7 := C6.setHi (G := B) (j := 3) (y := .slice a' 1 c') (by have := HB.out; have := HGR.out; omega) (by have := HB.out; have := HGR.out; omega)
    have G7 := grown_setHi (G := B) (j := 3) (y := .slice a' 1 c') G6 (by have := HB.out; omega)
    have I7 := row_setE (j := 3) (y := .slice a' 1 c') I6 ⟨_, Q6⟩ (by decide)
    go_upto_region 19 with fail
    obtain ⟨v7, hv7⟩ : ∃ v7, v7 = t6.setCell ⟨B, 3, none⟩ (.slice a' 1 c') := ⟨_, rfl⟩
    rw [← hv7] at Q7 R7 C7 G7 I7 ⊢
    clear hv7 qc qf Q6 R6 C6 G6 I6
    obtain ⟨q0, q1, q2, q3, q4, q5⟩ := Q7.six
    obtain ⟨y0, y1, y2, y3, y4, y5⟩ := R7.six
    have fy := R7.fro
    have OI : OwnI v7 w.heap.size (.slice a' 1 c') ws := I7
    have OB : OwnB v7 w.heap.size (.slice none 0 0) [] := (ownB_nil _ _)
    have HH : Hid (OwnI v7 w.heap.size (.slice a' 1 c') ws ∧ OwnB v7 w.heap.size (.slice none 0 0) [] ∧ Cur w0 a cap zs v7 g ∧ w.grownBy v7 (some g) ∧ Blk v7 w.heap.size 46 #[.int .i64 0, .int .i64 0, .int .i64 0, .slice none 0 0, .slice none 0 0, .int .i64 0]) := ⟨OI, OB, C7, G7, R7⟩
    clear OI OB C7 G7 R7 Q7 I7
    go_wp2
    refine bodyPost_ret (v := rq 6 (p) (0) (0) a' none 1 0 c' 0) (by simp [results, Try.results52, go_sem, y0, y1, y2, y3, y4, y5]) rfl ?_
    obtain ⟨OI, OB, CE, GE, RE⟩ := HH.out
    have hA0 : allW ([] : List Int) = true := by decide
    have hOK : okR 6 (p) (0) (0) ws 1 0 = true := by first | (simp [okR, okK, zrB, inB, fitB, hA0]; omega) | (have h6 := HM.out; simp [okR, okK, zrB, inB, fitB, hA0]; omega) | (have h5 := HAW.out; have h6 := HM.out; simp [okR, okK, zrB, inB, fitB, h5]; omega) | (have h5 := HAW.out; simp [okR, okK, zrB, inB, fitB, h5]; omega)
    have hgR : g ≠ w.heap.size := by have := HGR.out; omega
    have hwR : w0.heap.size ≤ w.heap.size := by have := HGR.out; omega
    exact ⟨_, _, _, _, _, _, _, _, _, _, ws, [], rfl, HWs.out, rfl, by first | omega | (have := HM.out; omega), by first | omega | (have := HM.out; omega), hOK, rowp_set6 OI ⟨_, RE⟩ (by decide), rowp_set6 OB ⟨_, RE⟩ (by decide), (((((CE.setHi hgR hwR).setHi hgR hwR).setHi hgR hwR).setHi hgR hwR).setHi hgR hwR).setHi hgR hwR, grown_setHi (grown_setHi (grown_setHi (grown_setHi (grown_setHi (grown_setHi GE (Nat.le_refl _)) (Nat.le_refl _)) (Nat.le_refl _)) (Nat.le_refl _)) (Nat.le_refl _)) (Nat.le_refl _), ⟨by first | omega | (have := HM.out; omega), by first | omega | (have := HM.out; omega), by first | omega | (have := HM.out; omega), by first | omega | (have := HM.out; omega)⟩⟩
  · skip
    obtain ⟨u3, hu3⟩ : ∃ u3, u3 = u2.alloc (.cells #[.int .i64 15, .int .i64 p, .int .i64 0, .slice none 0 0, .slice none 0 0, .int .i64 0] 46) := ⟨_, rfl⟩
    have HU : Hid (u3 = _) := hu3
    obtain ⟨B, hB⟩ : ∃ B, B = u2.heap.size := ⟨_, rfl⟩
    have HBe : Hid (B = u2.heap.size) := hB
    have HB : Hid (w.heap.size < B) := by show w.heap.size < B; have := R3.lt; omega
    have C4 : Cur w0 a cap zs u3 g := by rw [hu3]; exact C3.alloc _
    have G4 : w.grownBy u3 (some g) := by rw [hu3]; exact grown_trans G3 (World.grownBy_alloc _ _ _)
    have R4 : Blk u3 w.heap.size 46 #[.int .i64 0, .int .i64 0, .int .i64 0, .slice none 0 0, .slice none 0 0, .int .i64 0] := by rw [hu3]; exact R3.below (bel_alloc _ _)
    have Q4 : Blk u3 B 46 #[.int .i64 15, .int .i64 p, .int .i64 0, .slice none 0 0, .slice none 0 0, .int .i64 0] := by rw [hu3, hB]; exact Blk.new _ _ _
    clear C3 G3 R3 hu3 hB
    go_upto_region 2 with fail
    rw [← HU.out]
    simp only [← HBe.out]
    go_wp2_with fail
    refine (l1Below_any w0 a cap zs _ g _ (by decide) C4).mono ?_
    rintro e t5 ⟨x, rfl, hx, C5, gg⟩
    have G5 := grown_trans G4 gg
    have R5 := R4.grown gg (by have := HGR.out; simp; omega)
    have Q5 := Q4.grown gg (by have := HGR.out; have := HB.out; simp; omega)
    clear C4 R4 Q4 gg 
    clear G4
    have k0 := Q5.cell 0 rfl
    go_upto_region 12 with fail
    go_wp2_with fail
    refine (l1Below_any w0 a cap zs _ g _ (by decide) C5).mono ?_
    rintro e t6 ⟨y, rfl, hy, C6, gg⟩
    have G6 := grown_trans G5 gg
    have R6 := R5.grown gg (by have := HGR.out; simp; omega)
    have Q6 := Q5.grown gg (by have := HGR.out; have := HB.out; simp; omega)
    clear C5 R5 Q5 gg 
    clear G5
    obtain ⟨m, hm⟩ : ∃ m : Nat, 1 + x + y = (m : Int) := ⟨(1 + x + y).toNat, by omega⟩
    have HM : Hid (1 + x + y = (m : Int) ∧ m ≤ 100) := ⟨hm, by omega⟩
    clear hm
    go_wp2_with fail
    refine (l2Bits_at w0 a cap zs _ g _ m HM.out.1 (by have := HM.out; omega) C6).mono ?_
    rintro e t7 ⟨a', c', bs, rfl, hbs, oj, C7, gg⟩
    have G7 := grown_trans G6 gg
    have R7 := R6.grown gg (by have := HGR.out; simp; omega)
    have Q7 := Q6.grown gg (by have := HGR.out; have := HB.out; simp; omega)
    clear C6 R6 Q6 gg 
    have J7 := OwnB.mono oj G6.size
    have HBs : Hid (_ = bs.length) := hbs
    clear oj hbs G6
    have qc := Q7.cell 4 rfl
    have qf := Q7.fro 4
    have Q8 := Q7.set 4 (.slice (some a') m c')
    have R8 := R7.setNe (g' := B) (j := 4) (y := .slice (some a') m c') (by have := HB.out; omega)
    have C8 := C7.setHi (G := B) (j := 4) (y := .slice (some a') m c') (by have := HB.out; have := HGR.out; omega) (by have := HB.out; have := HGR.out; omega)
    have G8 := grown_setHi (G := B) (j := 4) (y := .slice (some a') m c') G7 (by have := HB.out; omega)
    have J8 := row_setE (j := 4) (y := .slice (some a') m c') J7 ⟨_, Q7⟩ (by decide)
    go_upto_region 19 with fail
    obtain ⟨v8, hv8⟩ : ∃ v8, v8 = t7.setCell ⟨B, 4, none⟩ (.slice (some a') m c') := ⟨_, rfl⟩
    rw [← hv8] at Q8 R8 C8 G8 J8 ⊢
    clear hv8 qc qf Q7 R7 C7 G7 J7
    obtain ⟨q0, q1, q2, q3, q4, q5⟩ := Q8.six
    obtain ⟨y0, y1, y2, y3, y4, y5⟩ := R8.six
    have fy := R8.fro
    have OI : OwnI v8 w.heap.size (.slice none 0 0) [] := (ownI_nil _ _)
    have OB : OwnB v8 w.heap.size (.slice (some a') m c') bs := J8
    have HH : Hid (OwnI v8 w.heap.size (.slice none 0 0) [] ∧ OwnB v8 w.heap.size (.slice (some a') m c') bs ∧ Cur w0 a cap zs v8 g ∧ w.grownBy v8 (some g) ∧ Blk v8 w.heap.size 46 #[.int .i64 0, .int .i64 0, .int .i64 0, .slice none 0 0, .slice none 0 0, .int .i64 0]) := ⟨OI, OB, C8, G8, R8⟩
    clear OI OB C8 G8 R8 Q8 J8
    go_wp2
    refine bodyPost_ret (v := rq 15 (p) (0) (0) none (some a') 0 m 0 c') (by simp [results, Try.results52, go_sem, y0, y1, y2, y3, y4, y5]) rfl ?_
    obtain ⟨OI, OB, CE, GE, RE⟩ := HH.out
    have hA0 : allW ([] : List Int) = true := by decide
    have hOK : okR 15 (p) (0) (0) [] 0 m = true := by first | (simp [okR, okK, zrB, inB, fitB, hA0]; omega) | (have h6 := HM.out; simp [okR, okK, zrB, inB, fitB, hA0]; omega) | (have h5 := HAW.out; have h6 := HM.out; simp [okR, okK, zrB, inB, fitB, h5]; omega) | (have h5 := HAW.out; simp [okR, okK, zrB, inB, fitB, h5]; omega)
    have hgR : g ≠ w.heap.size := by have := HGR.out; omega
    have hwR : w0.heap.size ≤ w.heap.size := by have := HGR.out; omega
    exact ⟨_, _, _, _, _, _, _, _, _, _, [], bs, rfl, rfl, HBs.out, by first | omega | (have := HM.out; omega), by first | omega | (have := HM.out; omega), hOK, rowp_set6 OI ⟨_, RE⟩ (by decide), rowp_set6 OB ⟨_, RE⟩ (by decide), (((((CE.setHi hgR hwR).setHi hgR hwR).setHi hgR hwR).setHi hgR hwR).setHi hgR hwR).setHi hgR hwR, grown_setHi (grown_setHi (grown_setHi (grown_setHi (grown_setHi (grown_setHi GE (Nat.le_refl _)) (Nat.le_refl _)) (Nat.le_refl _)) (Nat.le_refl _)) (Nat.le_refl _)) (Nat.le_refl _), ⟨by first | omega | (have := HM.out; omega), by first | omega | (have := HM.out; omega), by first | omega | (have := HM.out; omega), by first | omega | (have := HM.out; omega)⟩⟩
  · skip
    obtain ⟨u3, hu3⟩ : ∃ u3, u3 = u2.alloc (.cells #[.int .i64 16, .int .i64 p, .int .i64 0, .slice none 0 0, .slice none 0 0, .int .i64 0] 46) := ⟨_, rfl⟩
    have HU : Hid (u3 = _) := hu3
    obtain ⟨B, hB⟩ : ∃ B, B = u2.heap.size := ⟨_, rfl⟩
    have HBe : Hid (B = u2.heap.size) := hB
    have HB : Hid (w.heap.size < B) := by show w.heap.size < B; have := R3.lt; omega
    have C4 : Cur w0 a cap zs u3 g := by rw [hu3]; exact C3.alloc _
    have G4 : w.grownBy u3 (some g) := by rw [hu3]; exact grown_trans G3 (World.grownBy_alloc _ _ _)
    have R4 : Blk u3 w.heap.size 46 #[.int .i64 0, .int .i64 0, .int .i64 0, .slice none 0 0, .slice none 0 0, .int .i64 0] := by rw [hu3]; exact R3.below (bel_alloc _ _)
    have Q4 : Blk u3 B 46 #[.int .i64 16, .int .i64 p, .int .i64 0, .slice none 0 0, .slice none 0 0, .int .i64 0] := by rw [hu3, hB]; exact Blk.new _ _ _
    clear C3 G3 R3 hu3 hB
    go_upto_region 2 with fail
    rw [← HU.out]
    simp only [← HBe.out]
    go_wp2_with fail
    refine (l1Below_any w0 a cap zs _ g _ (by decide) C4).mono ?_
    rintro e t5 ⟨x, rfl, hx, C5, gg⟩
    have G5 := grown_trans G4 gg
    have R5 := R4.grown gg (by have := HGR.out; simp; omega)
    have Q5 := Q4.grown gg (by have := HGR.out; have := HB.out; simp; omega)
    clear C4 R4 Q4 gg 
    clear G4
    have k0 := Q5.cell 0 rfl
    go_upto_region 14 with fail
    obtain ⟨m, hm⟩ : ∃ m : Nat, 1 + x = (m : Int) := ⟨(1 + x).toNat, by omega⟩
    have HM : Hid (1 + x = (m : Int) ∧ m ≤ 100) := ⟨hm, by omega⟩
    clear hm
    go_wp2_with fail
    refine (l3ListR_at w0 a cap zs _ g _ m HM.out.1 (by have := HM.out; omega) C5).mono ?_
    rintro e t6 ⟨a', c', ws, rfl, hws, hrg, oi, C6, gg⟩
    have G6 := grown_trans G5 gg
    have R6 := R5.grown gg (by have := HGR.out; simp; omega)
    have Q6 := Q5.grown gg (by have := HGR.out; have := HB.out; simp; omega)
    clear C5 R5 Q5 gg 
    have I6 := OwnI.mono oi G5.size
    have HWs : Hid (_ = ws.length) := hws
    have HAW : Hid (allW ws = true) := allW_of hrg
    clear oi hws hrg G5
    have qc := Q6.cell 3 rfl
    have qf := Q6.fro 3
    have Q7 := Q6.set 3 (.slice a' m c')
    have R7 := R6.setNe (g' := B) (j := 3) (y := .slice a' m c') (by have := HB.out; omega)
    have C7 := C6.setHi (G := B) (j := 3) (y := .slice a' m c') (by have := HB.out; have := HGR.out; omega) (by have := HB.out; have := HGR.out; omega)
    have G7 := grown_setHi (G := B) (j := 3) (y := .slice a' m c') G6 (by have := HB.out; omega)
    have I7 := row_setE (j := 3) (y := .slice a' m c') I6 ⟨_, Q6⟩ (by decide)
    go_upto_region 19 with fail
    obtain ⟨v7, hv7⟩ : ∃ v7, v7 = t6.setCell ⟨B, 3, none⟩ (.slice a' m c') := ⟨_, rfl⟩
    rw [← hv7] at Q7 R7 C7 G7 I7 ⊢
    clear hv7 qc qf Q6 R6 C6 G6 I6
    obtain ⟨q0, q1, q2, q3, q4, q5⟩ := Q7.six
    obtain ⟨y0, y1, y2, y3, y4, y5⟩ := R7.six
    have fy := R7.fro
    have OI : OwnI v7 w.heap.size (.slice a' m c') ws := I7
    have OB : OwnB v7 w.heap.size (.slice none 0 0) [] := (ownB_nil _ _)
    have HH : Hid (OwnI v7 w.heap.size (.slice a' m c') ws ∧ OwnB v7 w.heap.size (.slice none 0 0) [] ∧ Cur w0 a cap zs v7 g ∧ w.grownBy v7 (some g) ∧ Blk v7 w.heap.size 46 #[.int .i64 0, .int .i64 0, .int .i64 0, .slice none 0 0, .slice none 0 0, .int .i64 0]) := ⟨OI, OB, C7, G7, R7⟩
    clear OI OB C7 G7 R7 Q7 I7
    go_wp2
    refine bodyPost_ret (v := rq 16 (p) (0) (0) a' none m 0 c' 0) (by simp [results, Try.results52, go_sem, y0, y1, y2, y3, y4, y5]) rfl ?_
    obtain ⟨OI, OB, CE, GE, RE⟩ := HH.out
    have hA0 : allW ([] : List Int) = true := by decide
    have hOK : okR 16 (p) (0) (0) ws m 0 = true := by first | (simp [okR, okK, zrB, inB, fitB, hA0]; omega) | (have h6 := HM.out; simp [okR, okK, zrB, inB, fitB, hA0]; omega) | (have h5 := HAW.out; have h6 := HM.out; simp [okR, okK, zrB, inB, fitB, h5]; omega) | (have h5 := HAW.out; simp [okR, okK, zrB, inB, fitB, h5]; omega)
    have hgR : g ≠ w.heap.size := by have := HGR.out; omega
    have hwR : w0.heap.size ≤ w.heap.size := by have := HGR.out; omega
    exact ⟨_, _, _, _, _, _, _, _, _, _, ws, [], rfl, HWs.out, rfl, by first | omega | (have := HM.out; omega), by first | omega | (have := HM.out; omega), hOK, rowp_set6 OI ⟨_, RE⟩ (by decide), rowp_set6 OB ⟨_, RE⟩ (by decide), (((((CE.setHi hgR hwR).setHi hgR hwR).setHi hgR hwR).setHi hgR hwR).setHi hgR hwR).setHi hgR hwR, grown_setHi (grown_setHi (grown_setHi (grown_setHi (grown_setHi (grown_setHi GE (Nat.le_refl _)) (Nat.le_refl _)) (Nat.le_refl _)) (Nat.le_refl _)) (Nat.le_refl _)) (Nat.le_refl _), ⟨by first | omega | (have := HM.out; omega), by first | omega | (have := HM.out; omega), by first | omega | (have := HM.out; omega), by first | omega | (have := HM.out; omega)⟩⟩
  · skip
    obtain ⟨u3, hu3⟩ : ∃ u3, u3 = u2.alloc (.cells #[.int .i64 22, .int .i64 p, .int .i64 0, .slice none 0 0, .slice none 0 0, .int .i64 0] 46) := ⟨_, rfl⟩
    have HU : Hid (u3 = _) := hu3
    obtain ⟨B, hB⟩ : ∃ B, B = u2.heap.size := ⟨_, rfl⟩
    have HBe : Hid (B = u2.heap.size) := hB
    have HB : Hid (w.heap.size < B) := by show w.heap.size < B; have := R3.lt; omega
    have C4 : Cur w0 a cap zs u3 g := by rw [hu3]; exact C3.alloc _
    have G4 : w.grownBy u3 (some g) := by rw [hu3]; exact grown_trans G3 (World.grownBy_alloc _ _ _)
    have R4 : Blk u3 w.heap.size 46 #[.int .i64 0, .int .i64 0, .int .i64 0, .slice none 0 0, .slice none 0 0, .int .i64 0] := by rw [hu3]; exact R3.below (bel_alloc _ _)
    have Q4 : Blk u3 B 46 #[.int .i64 22, .int .i64 p, .int .i64 0, .slice none 0 0, .slice none 0 0, .int .i64 0] := by rw [hu3, hB]; exact Blk.new _ _ _
    clear C3 G3 R3 hu3 hB
    go_upto_region 2 with fail
    rw [← HU.out]
    simp only [← HBe.out]
    go_wp2_with fail
    refine (l1Below_any w0 a cap zs _ g _ (by decide) C4).mono ?_
    rintro e t5 ⟨x, rfl, hx, C5, gg⟩
    have G5 := grown_trans G4 gg
    have R5 := R4.grown gg (by have := HGR.out; simp; omega)
    have Q5 := Q4.grown gg (by have := HGR.out; have := HB.out; simp; omega)
    clear C4 R4 Q4 gg 
    clear G4
    have k0 := Q5.cell 0 rfl
    go_upto_region 10 with fail
    go_wp2_with fail
    refine (l3ListR_at w0 a cap zs _ g _ 2 rfl (by omega) C5).mono ?_
    rintro e t6 ⟨a', c', ws, rfl, hws, hrg, oi, C6, gg⟩
    have G6 := grown_trans G5 gg
    have R6 := R5.grown gg (by have := HGR.out; simp; omega)
    have Q6 := Q5.grown gg (by have := HGR.out; have := HB.out; simp; omega)
    clear C5 R5 Q5 gg 
    have I6 := OwnI.mono oi G5.size
    have HWs : Hid (_ = ws.length) := hws
    have HAW : Hid (allW ws = true) := allW_of hrg
    clear oi hws hrg G5
    have qc := Q6.cell 3 rfl
    have qf := Q6.fro 3
    have Q7 := Q6.set 3 (.slice a' 2 c')
    have R7 := R6.setNe (g' := B) (j := 3) (y := .slice a' 2 c') (by have := HB.out; omega)
    have C7 := C6.setHi (G := B) (j := 3) (y := .slice a' 2 c') (by have := HB.out; have := HGR.out; omega) (by have := HB.out; have := HGR.out; omega)
    have G7 := grown_setHi (G := B) (j := 3) (y := .slice a' 2 c') G6 (by have := HB.out; omega)
    have I7 := row_setE (j := 3) (y := .slice a' 2 c') I6 ⟨_, Q6⟩ (by decide)
    go_upto_region 19 with fail
    obtain ⟨v7, hv7⟩ : ∃ v7, v7 = t6.setCell ⟨B, 3, none⟩ (.slice a' 2 c') := ⟨_, rfl⟩
    rw [← hv7] at Q7 R7 C7 G7 I7 ⊢
    clear hv7 qc qf Q6 R6 C6 G6 I6
    obtain ⟨q0, q1, q2, q3, q4, q5⟩ := Q7.six
    obtain ⟨y0, y1, y2, y3, y4, y5⟩ := R7.six
    have fy := R7.fro
    have OI : OwnI v7 w.heap.size (.slice a' 2 c') ws := I7
    have OB : OwnB v7 w.heap.size (.slice none 0 0) [] := (ownB_nil _ _)
    have HH : Hid (OwnI v7 w.heap.size (.slice a' 2 c') ws ∧ OwnB v7 w.heap.size (.slice none 0 0) [] ∧ Cur w0 a cap zs v7 g ∧ w.grownBy v7 (some g) ∧ Blk v7 w.heap.size 46 #[.int .i64 0, .int .i64 0, .int .i64 0, .slice none 0 0, .slice none 0 0, .int .i64 0]) := ⟨OI, OB, C7, G7, R7⟩
    clear OI OB C7 G7 R7 Q7 I7
    go_wp2
    refine bodyPost_ret (v := rq 22 (p) (0) (0) a' none 2 0 c' 0) (by simp [results, Try.results52, go_sem, y0, y1, y2, y3, y4, y5]) rfl ?_
    obtain ⟨OI, OB, CE, GE, RE⟩ := HH.out
    have hA0 : allW ([] : List Int) = true := by decide
    have hOK : okR 22 (p) (0) (0) ws 2 0 = true := by first | (simp [okR, okK, zrB, inB, fitB, hA0]; omega) | (have h6 := HM.out; simp [okR, okK, zrB, inB, fitB, hA0]; omega) | (have h5 := HAW.out; have h6 := HM.out; simp [okR, okK, zrB, inB, fitB, h5]; omega) | (have h5 := HAW.out; simp [okR, okK, zrB, inB, fitB, h5]; omega)
    have hgR : g ≠ w.heap.size := by have := HGR.out; omega
    have hwR : w0.heap.size ≤ w.heap.size := by have := HGR.out; omega
    exact ⟨_, _, _, _, _, _, _, _, _, _, ws, [], rfl, HWs.out, rfl, by first | omega | (have := HM.out; omega), by first | omega | (have := HM.out; omega), hOK, rowp_set6 OI ⟨_, RE⟩ (by decide), rowp_set6 OB ⟨_, RE⟩ (by decide), (((((CE.setHi hgR hwR).setHi hgR hwR).setHi hgR hwR).setHi hgR hwR).setHi hgR hwR).setHi hgR hwR, grown_setHi (grown_setHi (grown_setHi (grown_setHi (grown_setHi (grown_setHi GE (Nat.le_refl _)) (Nat.le_refl _)) (Nat.le_refl _)) (Nat.le_refl _)) (Nat.le_refl _)) (Nat.le_refl _), ⟨by first | omega | (have := HM.out; omega), by first | omega | (have := HM.out; omega), by first | omega | (have := HM.out; omega), by first | omega | (have := HM.out; omega)⟩⟩
  · skip
    obtain ⟨u3, hu3⟩ : ∃ u3, u3 = u2.alloc (.cells #[.int .i64 23, .int .i64 p, .int .i64 0, .slice none 0 0, .slice none 0 0, .int .i64 0] 46) := ⟨_, rfl⟩
    have HU : Hid (u3 = _) := hu3
    obtain ⟨B, hB⟩ : ∃ B, B = u2.heap.size := ⟨_, rfl⟩
    have HBe : Hid (B = u2.heap.size) := hB
    have HB : Hid (w.heap.size < B) := by show w.heap.size < B; have := R3.lt; omega
    have C4 : Cur w0 a cap zs u3 g := by rw [hu3]; exact C3.alloc _
    have G4 : w.grownBy u3 (some g) := by rw [hu3]; exact grown_trans G3 (World.grownBy_alloc _ _ _)
    have R4 : Blk u3 w.heap.size 46 #[.int .i64 0, .int .i64 0, .int .i64 0, .slice none 0 0, .slice none 0 0, .int .i64 0] := by rw [hu3]; exact R3.below (bel_alloc _ _)
    have Q4 : Blk u3 B 46 #[.int .i64 23, .int .i64 p, .int .i64 0, .slice none 0 0, .slice none 0 0, .int .i64 0] := by rw [hu3, hB]; exact Blk.new _ _ _
    clear C3 G3 R3 hu3 hB
    go_upto_region 2 with fail
    rw [← HU.out]
    simp only [← HBe.out]
    go_wp2_with fail
    refine (l1Below_any w0 a cap zs _ g _ (by decide) C4).mono ?_
    rintro e t5 ⟨x, rfl, hx, C5, gg⟩
    have G5 := grown_trans G4 gg
    have R5 := R4.grown gg (by have := HGR.out; simp; omega)
    have Q5 := Q4.grown gg (by have := HGR.out; have := HB.out; simp; omega)
    clear C4 R4 Q4 gg 
    clear G4
    have k0 := Q5.cell 0 rfl
    go_upto_region 16 with fail
    have qc := Q5.cell 2 rfl
    have qf := Q5.fro 2
    have Q6 := Q5.set 2 (.int .i64 (1 + x))
    have R6 := R5.setNe (g' := B) (j := 2) (y := .int .i64 (1 + x)) (by have := HB.out; omega)
    have C6 := C5.setHi (G := B) (j := 2) (y := .int .i64 (1 + x)) (by have := HB.out; have := HGR.out; omega) (by have := HB.out; have := HGR.out; omega)
    have G6 := grown_setHi (G := B) (j := 2) (y := .int .i64 (1 + x)) G5 (by have := HB.out; omega)
    go_upto_region 17 with fail
    obtain ⟨v6, hv6⟩ : ∃ v6, v6 = t5.setCell ⟨B, 2, none⟩ (.int .i64 (1 + x)) := ⟨_, rfl⟩
    rw [← hv6] at Q6 R6 C6 G6 ⊢
    clear hv6 qc qf Q5 R5 C5 G5 
    go_wp2_with fail
    refine (l1Below_any w0 a cap zs _ g _ (by decide) C6).mono ?_
    rintro e t7 ⟨y, rfl, hy, C7, gg⟩
    have G7 := grown_trans G6 gg
    have R7 := R6.grown gg (by have := HGR.out; simp; omega)
    have Q7 := Q6.grown gg (by have := HGR.out; have := HB.out; simp; omega)
    clear C6 R6 Q6 gg 
    clear G6
    have qc := Q7.cell 5 rfl
    have qf := Q7.fro 5
    have Q8 := Q7.set 5 (.int .i64 y)
    have R8 := R7.setNe (g' := B) (j := 5) (y := .int .i64 y) (by have := HB.out; omega)
    have C8 := C7.setHi (G := B) (j := 5) (y := .int .i64 y) (by have := HB.out; have := HGR.out; omega) (by have := HB.out; have := HGR.out; omega)
    have G8 := grown_setHi (G := B) (j := 5) (y := .int .i64 y) G7 (by have := HB.out; omega)
    go_upto_region 18 with fail
    obtain ⟨v8, hv8⟩ : ∃ v8, v8 = t7.setCell ⟨B, 5, none⟩ (.int .i64 y) := ⟨_, rfl⟩
    rw [← hv8] at Q8 R8 C8 G8 ⊢
    clear hv8 qc qf Q7 R7 C7 G7 
    go_wp2_with fail
    refine (l1Below_any w0 a cap zs _ g _ (by decide) C8).mono ?_
    rintro e t9 ⟨z, rfl, hz, C9, gg⟩
    have G9 := grown_trans G8 gg
    have R9 := R8.grown gg (by have := HGR.out; simp; omega)
    have Q9 := Q8.grown gg (by have := HGR.out; have := HB.out; simp; omega)
    clear C8 R8 Q8 gg 
    clear G8
    obtain ⟨m, hm⟩ : ∃ m : Nat, 1 + z = (m : Int) := ⟨(1 + z).toNat, by omega⟩
    have HM : Hid (1 + z = (m : Int) ∧ m ≤ 100) := ⟨hm, by omega⟩
    clear hm
    go_wp2_with fail
    refine (l3ListR_at w0 a cap zs _ g _ m HM.out.1 (by have := HM.out; omega) C9).mono ?_
    rintro e t10 ⟨a', c', ws, rfl, hws, hrg, oi, C10, gg⟩
    have G10 := grown_trans G9 gg
    have R10 := R9.grown gg (by have := HGR.out; simp; omega)
    have Q10 := Q9.grown gg (by have := HGR.out; have := HB.out; simp; omega)
    clear C9 R9 Q9 gg 
    have I10 := OwnI.mono oi G9.size
    have HWs : Hid (_ = ws.length) := hws
    have HAW : Hid (allW ws = true) := allW_of hrg
    clear oi hws hrg G9
    have qc := Q10.cell 3 rfl
    have qf := Q10.fro 3
    have Q11 := Q10.set 3 (.slice a' m c')
    have R11 := R10.setNe (g' := B) (j := 3) (y := .slice a' m c') (by have := HB.out; omega)
    have C11 := C10.setHi (G := B) (j := 3) (y := .slice a' m c') (by have := HB.out; have := HGR.out; omega) (by have := HB.out; have := HGR.out; omega)
    have G11 := grown_setHi (G := B) (j := 3) (y := .slice a' m c') G10 (by have := HB.out; omega)
    have I11 := row_setE (j := 3) (y := .slice a' m c') I10 ⟨_, Q10⟩ (by decide)
    go_upto_region 19 with fail
    obtain ⟨v11, hv11⟩ : ∃ v11, v11 = t10.setCell ⟨B, 3, none⟩ (.slice a' m c') := ⟨_, rfl⟩
    rw [← hv11] at Q11 R11 C11 G11 I11 ⊢
    clear hv11 qc qf Q10 R10 C10 G10 I10
    obtain ⟨q0, q1, q2, q3, q4, q5⟩ := Q11.six
    obtain ⟨y0, y1, y2, y3, y4, y5⟩ := R11.six
    have fy := R11.fro
    have OI : OwnI v11 w.heap.size (.slice a' m c') ws := I11
    have OB : OwnB v11 w.heap.size (.slice none 0 0) [] := (ownB_nil _ _)
    have HH : Hid (OwnI v11 w.heap.size (.slice a' m c') ws ∧ OwnB v11 w.heap.size (.slice none 0 0) [] ∧ Cur w0 a cap zs v11 g ∧ w.grownBy v11 (some g) ∧ Blk v11 w.heap.size 46 #[.int .i64 0, .int .i64 0, .int .i64 0, .slice none 0 0, .slice none 0 0, .int .i64 0]) := ⟨OI, OB, C11, G11, R11⟩
    clear OI OB C11 G11 R11 Q11 I11
    go_wp2
    refine bodyPost_ret (v := rq 23 (p) ((1 + x)) (y) a' none m 0 c' 0) (by simp [results, Try.results52, go_sem, y0, y1, y2, y3, y4, y5]) rfl ?_
    obtain ⟨OI, OB, CE, GE, RE⟩ := HH.out
    have hA0 : allW ([] : List Int) = true := by decide
    have hOK : okR 23 (p) ((1 + x)) (y) ws m 0 = true := by first | (simp [okR, okK, zrB, inB, fitB, hA0]; omega) | (have h6 := HM.out; simp [okR, okK, zrB, inB, fitB, hA0]; omega) | (have h5 := HAW.out; have h6 := HM.out; simp [okR, okK, zrB, inB, fitB, h5]; omega) | (have h5 := HAW.out; simp [okR, okK, zrB, inB, fitB, h5]; omega)
    have hgR : g ≠ w.heap.size := by have := HGR.out; omega
    have hwR : w0.heap.size ≤ w.heap.size := by have := HGR.out; omega
    exact ⟨_, _, _, _, _, _, _, _, _, _, ws, [], rfl, HWs.out, rfl, by first | omega | (have := HM.out; omega), by first | omega | (have := HM.out; omega), hOK, rowp_set6 OI ⟨_, RE⟩ (by decide), rowp_set6 OB ⟨_, RE⟩ (by decide), (((((CE.setHi hgR hwR).setHi hgR hwR).setHi hgR hwR).setHi hgR hwR).setHi hgR hwR).setHi hgR hwR, grown_setHi (grown_setHi (grown_setHi (grown_setHi (grown_setHi (grown_setHi GE (Nat.le_refl _)) (Nat.le_refl _)) (Nat.le_refl _)) (Nat.le_refl _)) (Nat.le_refl _)) (Nat.le_refl _), ⟨by first | omega | (have := HM.out; omega), by first | omega | (have := HM.out; omega), by first | omega | (have := HM.out; omega), by first | omega | (have := HM.out; omega)⟩⟩

theorem l3DrawR_any (w0 : World) (a : Option Addr) (cap : Nat) (zs : List Int) (w : World) (g : Nat) (hC : Cur w0 a cap zs w g) :
    Calls Try.prog 52 #[.pointer (some ⟨g, 0, none⟩), .int .i64 0] w fun e w' => DrawnReqR w0 a cap zs w g e w' :=
  (l3DrawN_any w0 a cap zs w g hC).mono (fun e w' h => by
    obtain ⟨kd, pl, nn, wa, a1, a2, l1, l2, c1, c2, ws, bs, h1, h2, h3, h4, h5, h6, h7, h8, h9, h10, _⟩ := h
    exact ⟨kd, pl, nn, wa, a1, a2, l1, l2, c1, c2, ws, bs, h1, h2, h3, h4, h5, h6, h7, h8, h9, h10⟩)

end Go.Proofs.Ytcnbbknmofonkaa

namespace Go.Proofs.Ytcnbbknmofonkaa
open Go.RowKit

set_option linter.unusedVariables false

set_option linter.unusedSimpArgs false

theorem Cur.belowU {w0 u u' : World} {a : Option Addr} {cap g : Nat} {zs : List Int} (h : Cur w0 a cap zs u g) (hb : Below u.heap.size u u') : Cur w0 a cap zs u' g :=
  h.grown (grown_below hb (some u.heap.size)) (by have := h.hi; simp; omega) (fun k hk => by simp at hk; subst hk; have := h.hi; have := h.lo; omega)

theorem Blk.set6 {u : World} {B : Nat} {t : TypeId} {x0 x1 x2 x3 x4 x5 v0 v1 v2 v3 v4 v5 : Value} (h : Blk u B t #[x0, x1, x2, x3, x4, x5]) : Blk ((((((u.setCell ⟨B, 0, none⟩ v0).setCell ⟨B, 1, none⟩ v1).setCell ⟨B, 2, none⟩ v2).setCell ⟨B, 3, none⟩ v3).setCell ⟨B, 4, none⟩ v4).setCell ⟨B, 5, none⟩ v5) B t #[v0, v1, v2, v3, v4, v5] := by
  have := (((((h.set 0 v0).set 1 v1).set 2 v2).set 3 v3).set 4 v4).set 5 v5
  simpa using this

/-- What drawing an answer ends with. -/
def RespAt (w0 : World) (a : Option Addr) (cap : Nat) (zs : List Int) (base m1 m2 : Nat) (w : World) (g : Nat) (e : Ending) (w' : World) : Prop :=
  ∃ (kd fl pl nn : Int) (a1 a2 : Option Addr) (l1 l2 c1 c2 : Nat) (ws : List Int) (bs : List Bool), e = .returned (rp kd fl pl nn a1 a2 l1 l2 c1 c2) ∧ l1 = ws.length ∧ l2 = bs.length ∧ l1 ≤ m1 ∧ l2 ≤ m2 ∧ OwnI w' base (.slice a1 l1 c1) ws ∧ OwnB w' base (.slice a2 l2 c2) bs ∧ Cur w0 a cap zs w' g ∧ w.grownBy w' (some g)

/-- As RespAt, its numbers small. -/
def RespIn (w0 : World) (a : Option Addr) (cap : Nat) (zs : List Int) (base m1 m2 : Nat) (w : World) (g : Nat) (e : Ending) (w' : World) : Prop :=
  ∃ (kd fl pl nn : Int) (a1 a2 : Option Addr) (l1 l2 c1 c2 : Nat) (ws : List Int) (bs : List Bool), e = .returned (rp kd fl pl nn a1 a2 l1 l2 c1 c2) ∧ l1 = ws.length ∧ l2 = bs.length ∧ l1 ≤ m1 ∧ l2 ≤ m2 ∧ OwnI w' base (.slice a1 l1 c1) ws ∧ OwnB w' base (.slice a2 l2 c2) bs ∧ Cur w0 a cap zs w' g ∧ w.grownBy w' (some g) ∧ (0 ≤ pl ∧ pl ≤ 65535 ∧ 0 ≤ nn ∧ nn ≤ 2900)

theorem st6_cur {w0 u : World} {a : Option Addr} {cap g B : Nat} {zs : List Int} {v0 v1 v2 v3 v4 v5 : Value} (h : Cur w0 a cap zs u g) (h1 : g ≠ B) (h2 : w0.heap.size ≤ B) : Cur w0 a cap zs ((((((u.setCell ⟨B, 0, none⟩ v0).setCell ⟨B, 1, none⟩ v1).setCell ⟨B, 2, none⟩ v2).setCell ⟨B, 3, none⟩ v3).setCell ⟨B, 4, none⟩ v4).setCell ⟨B, 5, none⟩ v5) g :=
  (((((h.setHi h1 h2).setHi h1 h2).setHi h1 h2).setHi h1 h2).setHi h1 h2).setHi h1 h2

theorem st6_grown {w u : World} {g B : Nat} {v0 v1 v2 v3 v4 v5 : Value} (h : w.grownBy u (some g)) (hB : w.heap.size ≤ B) : w.grownBy ((((((u.setCell ⟨B, 0, none⟩ v0).setCell ⟨B, 1, none⟩ v1).setCell ⟨B, 2, none⟩ v2).setCell ⟨B, 3, none⟩ v3).setCell ⟨B, 4, none⟩ v4).setCell ⟨B, 5, none⟩ v5) (some g) :=
  grown_setHi (grown_setHi (grown_setHi (grown_setHi (grown_setHi (grown_setHi h hB) hB) hB) hB) hB) hB

def lenAt (w : World) (B : Nat) : Nat := match w.cell? ⟨B, 5, none⟩ with | some (.slice _ n _) => n | _ => 0

set_option maxRecDepth 20000 in
set_option maxHeartbeats 16000000 in
theorem l4Draw_any (w0 : World) (a : Option Addr) (cap : Nat) (zs : List Int) (w : World) (g : Nat) (kd pl nn wa : Int) (a1 a2 : Option Addr) (l1 l2 c1 c2 : Nat) (ws : List Int) (bs : List Bool) (h1 : l1 = ws.length) (h2 : l2 = bs.length) (hl1 : l1 ≤ 200) (hl2 : l2 ≤ 2000) (hnn : 0 ≤ nn ∧ nn ≤ 900) (hpl : 0 ≤ pl ∧ pl ≤ 65535) (base : Nat) (hgb : g < base) (s1 : OwnI w base (.slice a1 l1 c1) ws) (s2 : OwnB w base (.slice a2 l2 c2) bs) (hC : Cur w0 a cap zs w g) :
    Calls Try.prog 53 #[.pointer (some ⟨g, 0, none⟩), rq kd pl nn wa a1 a2 l1 l2 c1 c2] w fun e w' => RespIn w0 a cap zs w.heap.size 900 2900 w g e w' := by
  have HE : Hid (l1 = ws.length ∧ l2 = bs.length ∧ l1 ≤ 200 ∧ l2 ≤ 2000 ∧ 0 ≤ nn ∧ nn ≤ 900 ∧ 0 ≤ pl ∧ pl ≤ 65535) := ⟨h1, h2, hl1, hl2, hnn.1, hnn.2, hpl.1, hpl.2⟩
  have hg := hC.hi
  have hlo := hC.lo
  have HGR : Hid (g < w.heap.size ∧ w0.heap.size ≤ g) := ⟨hg, hlo⟩
  have HS : Hid (OwnI w base (.slice a1 l1 c1) ws ∧ OwnB w base (.slice a2 l2 c2) bs ∧ g < base) := ⟨s1, s2, hgb⟩
  obtain ⟨W0, hW0⟩ : ∃ W0, W0 = (w.alloc (.cells #[.int .i64 kd, .int .i64 pl, .int .i64 nn, .slice a1 l1 c1, .slice a2 l2 c2, .int .i64 wa] 46)).alloc (.cells #[.int .i64 0, .int .i64 0, .int .i64 0, .int .i64 0, .slice none 0 0, .slice none 0 0] 48) := ⟨_, rfl⟩
  have HW : Hid (W0 = _) := hW0
  have C0 : Cur w0 a cap zs W0 g := by rw [hW0]; exact (hC.alloc _).alloc _
  have G0 : w.grownBy W0 (some g) := by rw [hW0]; exact grown_trans (World.grownBy_alloc _ _ _) (World.grownBy_alloc _ _ _)
  have X0 : Blk W0 w.heap.size 46 #[.int .i64 kd, .int .i64 pl, .int .i64 nn, .slice a1 l1 c1, .slice a2 l2 c2, .int .i64 wa] := by rw [hW0]; exact (Blk.new _ _ _).below (bel_alloc _ _)
  have R0 : Blk W0 (w.heap.size + 1) 48 #[.int .i64 0, .int .i64 0, .int .i64 0, .int .i64 0, .slice none 0 0, .slice none 0 0] := by rw [hW0]; have := Blk.new (w.alloc (.cells #[.int .i64 kd, .int .i64 pl, .int .i64 nn, .slice a1 l1 c1, .slice a2 l2 c2, .int .i64 wa] 46)) #[.int .i64 0, .int .i64 0, .int .i64 0, .int .i64 0, .slice none 0 0, .slice none 0 0] 48; simpa using this
  clear hC hW0 hg hlo h1 h2 hl1 hl2 hnn s1 s2 hgb hpl
  go_enter Try.func53, Try.ntmps53
  go_wp2_with fail
  rw [← HW.out]
  refine (l1Once_any w0 a cap zs _ g _ (by decide) C0).mono ?_
  rintro e u1 ⟨t, rfl, C1, gg⟩
  have G1 := grown_trans G0 gg
  have X1 := X0.grown gg (by have := HGR.out; simp; omega)
  have R1 := R0.grown gg (by have := HGR.out; simp; omega)
  clear C0 G0 X0 R0 gg
  obtain ⟨x0, x1, x2, x3, x4, x5⟩ := X1.six
  cases t
  case true =>
    obtain ⟨r0, r1, r2, r3, r4, r5⟩ := R1.six
    have fr := R1.fro
    have Cd : Cur w0 a cap zs u1.drew g := C1.belowU (Below.refl _ _).drew
    have Gd : w.grownBy u1.drew (some g) := grown_trans G1 (grown_below (Below.refl _ _).drew (some g))
    have Xd := X1.below (Below.refl _ _).drew
    have Rd := R1.below (Below.refl _ _).drew
    go_wp2_with fail
    go_cut [] (fun wc => ∃ x : Int, Cur w0 a cap zs wc g ∧ w.grownBy wc (some g) ∧ Blk wc (w.heap.size + 1) 48 #[.int .i64 kd, .int .i64 (1 + x), .int .i64 0, .int .i64 0, .slice none 0 0, .slice none 0 0])
    case first =>
      refine wp_region_any (by kernel_rfl) ?_
      (try (change wpAny _ _ _ _ _ _ _ (World.drew _)))
      refine wpAny_take (i := 0) (v := ?v0) rfl (by kernel_rfl) (by kernel_rfl) (by kernel_rfl) (fun _ _ _ h => h) (Or.inl ⟨by rfl, ?h0⟩) ?_
      case h0 => intro w; go_simp; try (with_reducible rfl)
      refine wpAny_take (i := 2) (v := ?v2) rfl (by kernel_rfl) (by kernel_rfl) (by kernel_rfl) (fun _ _ _ h => h) (Or.inl ⟨by rfl, ?h2⟩) ?_
      case h2 => intro w; go_simp; try (with_reducible rfl)
      refine wpAny_ready (rs := [1, 3]) (by kernel_rfl) (by simp) ?_
      refine AllReady.cons rfl (fun K hK => ?_) ?_
      · skip
        go_simp
        refine hK _ _ ?_
        clear hK K
        refine wpAny_ready (rs := [3]) (by kernel_rfl) (by simp) ?_
        refine AllReady.cons rfl (fun K hK => ?_) AllReady.nil
        go_simp
        go_wp2_with (go_at_call 54; refine (l1Below_any w0 a cap zs _ g _ (by decide) Cd).mono ?_; rintro e u2 ⟨x, rfl, hx, C2, gg⟩; have hwx : IntKind.i64.wrap (1 + x) = 1 + x := (by rw [IntKind.wrap_i64]; omega); have G2 := grown_trans Gd gg; have X2 := Xd.grown gg (by have := HGR.out; simp; omega); have R2 := Rd.grown gg (by have := HGR.out; simp; omega); clear gg; obtain ⟨z0, z1, z2, z3, z4, z5⟩ := X2.six; obtain ⟨s0, s1, s2, s3, s4, s5⟩ := R2.six; have fs := R2.fro)
        try (refine hK _ _ ?_; clear hK K)
        refine wpAny_ready (rs := [4]) (by kernel_rfl) (by simp) ?_
        refine AllReady.cons rfl (fun K hK => ?_) AllReady.nil
        go_simp
        refine hK _ _ ?_
        clear hK K
        refine wpAny_ready (rs := [5]) (by kernel_rfl) (by simp) ?_
        refine AllReady.cons rfl (fun K hK => ?_) AllReady.nil
        go_simp
        refine hK _ _ ?_
        clear hK K
        refine wpAny_ready (rs := [6]) (by kernel_rfl) (by simp) ?_
        refine AllReady.cons rfl (fun K hK => ?_) AllReady.nil
        go_simp
        refine hK _ _ ?_
        clear hK K
        refine wpAny_done (by kernel_rfl) ?_ _
        (go_wp2_with fail; go_meet; exact ⟨x, st6_cur C2 (by have := HGR.out; omega) (by have := HGR.out; omega), st6_grown G2 (by omega), Blk.set6 R2⟩)
      refine AllReady.cons rfl (fun K hK => ?_) AllReady.nil
      go_simp
      go_wp2_with (go_at_call 54; refine (l1Below_any w0 a cap zs _ g _ (by decide) Cd).mono ?_; rintro e u2 ⟨x, rfl, hx, C2, gg⟩; have hwx : IntKind.i64.wrap (1 + x) = 1 + x := (by rw [IntKind.wrap_i64]; omega); have G2 := grown_trans Gd gg; have X2 := Xd.grown gg (by have := HGR.out; simp; omega); have R2 := Rd.grown gg (by have := HGR.out; simp; omega); clear gg; obtain ⟨z0, z1, z2, z3, z4, z5⟩ := X2.six; obtain ⟨s0, s1, s2, s3, s4, s5⟩ := R2.six; have fs := R2.fro)
      try (refine hK _ _ ?_; clear hK K)
      refine wpAny_take (i := 4) (v := ?v4) rfl (by kernel_rfl) (by kernel_rfl) (by kernel_rfl) (fun _ _ _ h => h) (Or.inl ⟨by rfl, ?h4⟩) ?_
      case h4 => intro w; go_simp; try (with_reducible rfl)
      refine wpAny_ready (rs := [1]) (by kernel_rfl) (by simp) ?_
      refine AllReady.cons rfl (fun K hK => ?_) AllReady.nil
      go_simp
      refine hK _ _ ?_
      clear hK K
      refine wpAny_ready (rs := [5]) (by kernel_rfl) (by simp) ?_
      refine AllReady.cons rfl (fun K hK => ?_) AllReady.nil
      go_simp
      refine hK _ _ ?_
      clear hK K
      refine wpAny_ready (rs := [6]) (by kernel_rfl) (by simp) ?_
      refine AllReady.cons rfl (fun K hK => ?_) AllReady.nil
      go_simp
      refine hK _ _ ?_
      clear hK K
      refine wpAny_done (by kernel_rfl) ?_ _
      (go_wp2_with fail; go_meet; exact ⟨x, st6_cur C2 (by have := HGR.out; omega) (by have := HGR.out; omega), st6_grown G2 (by omega), Blk.set6 R2⟩)
    case rest =>
      obtain ⟨x, C2, G2, R2⟩ := hcut
      obtain ⟨r0, r1, r2, r3, r4, r5⟩ := R2.six
      go_wp2
      refine bodyPost_ret (v := rp kd (1 + x) 0 0 none none 0 0 0 0) (by simp [results, Try.results53, go_sem, r0, r1, r2, r3, r4, r5]) rfl ?_
      exact ⟨_, _, _, _, _, _, _, _, _, _, [], [], rfl, rfl, rfl, by omega, by omega, ownI_nil _ _, ownB_nil _ _, C2, G2, ⟨by first | omega | (have := HE.out; omega), by first | omega | (have := HE.out; omega), by first | omega | (have := HE.out; omega), by first | omega | (have := HE.out; omega)⟩⟩
  by_cases hk1 : kd = 1
  case pos =>
    subst hk1
    obtain ⟨u3, hu3⟩ : ∃ u3, u3 = u1.alloc (.cells #[.int .i64 1, .int .i64 0, .int .i64 0, .int .i64 0, .slice none 0 0, .slice none 0 0] 48) := ⟨_, rfl⟩
    have HU : Hid (u3 = _) := hu3
    obtain ⟨B, hB⟩ : ∃ B, B = u1.heap.size := ⟨_, rfl⟩
    have HBe : Hid (B = u1.heap.size) := hB
    have HB : Hid (w.heap.size + 1 < B) := by show w.heap.size + 1 < B; have := R1.lt; omega
    have C4 : Cur w0 a cap zs u3 g := by rw [hu3]; exact C1.alloc _
    have G4 : w.grownBy u3 (some g) := by rw [hu3]; exact grown_trans G1 (World.grownBy_alloc _ _ _)
    have X4 : Blk u3 w.heap.size 46 #[.int .i64 1, .int .i64 pl, .int .i64 nn, .slice a1 l1 c1, .slice a2 l2 c2, .int .i64 wa] := by rw [hu3]; exact X1.below (bel_alloc _ _)
    have R4 : Blk u3 (w.heap.size + 1) 48 #[.int .i64 0, .int .i64 0, .int .i64 0, .int .i64 0, .slice none 0 0, .slice none 0 0] := by rw [hu3]; exact R1.below (bel_alloc _ _)
    have Q4 : Blk u3 B 48 #[.int .i64 1, .int .i64 0, .int .i64 0, .int .i64 0, .slice none 0 0, .slice none 0 0] := by rw [hu3, hB]; exact Blk.new _ _ _
    clear hu3 hB
    go_upto_region 4 with fail
    rw [← HU.out]
    simp only [← HBe.out]
    clear C1 G1 X1 R1 x0 x1 x2 x3 x4 x5
    obtain ⟨x0, x1, x2, x3, x4, x5⟩ := X4.six
    obtain ⟨m, hm⟩ : ∃ m : Nat, nn = (m : Int) := ⟨nn.toNat, by have := HE.out; omega⟩
    have HM : Hid (nn = (m : Int) ∧ m ≤ 900) := ⟨hm, by have := HE.out; omega⟩
    clear hm
    go_wp2_with fail
    refine (l2Bits_at w0 a cap zs _ g _ m HM.out.1 (by have := HM.out; omega) C4).mono ?_
    rintro e t5 ⟨a', c', us, rfl, hus, oj, C5, gg⟩
    have G5 := grown_trans G4 gg
    have R5 := R4.grown gg (by have := HGR.out; simp; omega)
    have X5 := X4.grown gg (by have := HGR.out; simp; omega)
    have Q5 := Q4.grown gg (by have := HGR.out; have := HB.out; simp; omega)
    clear C4 R4 Q4 X4 gg
    have J5 := OwnB.mono oj G4.size
    have HWs : Hid (m = us.length) := hus
    clear oj hus G4 x0 x1 x2 x3 x4 x5
    have qc := Q5.cell 5 rfl
    have qf := Q5.fro 5
    have Q6 := Q5.set 5 (.slice (some a') m c')
    have R6 := R5.setNe (g' := B) (j := 5) (y := .slice (some a') m c') (by have := HB.out; omega)
    have C6 := C5.setHi (G := B) (j := 5) (y := .slice (some a') m c') (by have := HB.out; have := HGR.out; omega) (by have := HB.out; have := HGR.out; omega)
    have G6 := grown_setHi (G := B) (j := 5) (y := .slice (some a') m c') G5 (by have := HB.out; omega)
    have J6 := row_setE (j := 5) (y := .slice (some a') m c') J5 ⟨_, Q5⟩ (by decide)
    go_wp2_with fail
    obtain ⟨v6, hv6⟩ : ∃ v6, v6 = t5.setCell ⟨B, 5, none⟩ (.slice (some a') m c') := ⟨_, rfl⟩
    rw [← hv6] at Q6 R6 C6 G6 J6 ⊢
    clear hv6 qc qf Q5 R5 X5 C5 G5 J5
    go_loopw [] (fun wr => ∃ (ad : Option Addr) (n' c' : Nat) (vs : List Bool), n' = vs.length ∧ n' ≤ 8 * ((m + 7) / 8) ∧ Blk wr B 48 #[.int .i64 1, .int .i64 0, .int .i64 0, .int .i64 0, .slice none 0 0, .slice ad n' c'] ∧ OwnB wr w.heap.size (.slice ad n' c') vs ∧ Cur w0 a cap zs wr g ∧ w.grownBy wr (some g) ∧ Blk wr (w.heap.size + 1) 48 #[.int .i64 0, .int .i64 0, .int .i64 0, .int .i64 0, .slice none 0 0, .slice none 0 0]) (fun wr => (8 - lenAt wr B % 8) % 8)
    case atStart => exact ⟨some a', m, c', us, HWs.out, by omega, Q6, J6, C6, G6, R6⟩
    case round =>
      obtain ⟨ad, n', c'', vs, hn', hb, Qr, Jr, Cr, Gr, Rr⟩ := hrel
      have HV : Hid (n' = vs.length ∧ n' ≤ 8 * ((m + 7) / 8)) := ⟨hn', hb⟩
      obtain ⟨q0, q1, q2, q3, q4, q5⟩ := Qr.six
      have hnb : (n' : Int) ≤ 908 := by have := HM.out; omega
      by_cases h8 : n' % 8 = 0
      · have h8b : ((n' : Int) % 8 != 0) = false := by simp; omega
        obtain ⟨y0, y1, y2, y3, y4, y5⟩ := Rr.six
        have fy := Rr.fro
        have HH : Hid (OwnB wr w.heap.size (.slice ad n' c'') vs ∧ Cur w0 a cap zs wr g ∧ w.grownBy wr (some g) ∧ Blk wr (w.heap.size + 1) 48 #[.int .i64 0, .int .i64 0, .int .i64 0, .int .i64 0, .slice none 0 0, .slice none 0 0]) := ⟨Jr, Cr, Gr, Rr⟩
        clear Jr Cr Gr Rr Qr hn' hb Q6 R6 C6 G6 J6
        go_wp2
        refine bodyPost_ret (v := rp 1 0 0 0 none ad 0 n' 0 c'') (by simp [results, Try.results53, go_sem, y0, y1, y2, y3, y4, y5]) rfl ?_
        obtain ⟨OB, CE, GE, RE⟩ := HH.out
        have hgR : g ≠ w.heap.size + 1 := by have := HGR.out; omega
        have hwR : w0.heap.size ≤ w.heap.size + 1 := by have := HGR.out; omega
        exact ⟨_, _, _, _, _, _, _, _, _, _, [], vs, rfl, rfl, HV.out.1, by omega, by omega, rowp_set6 (ownI_nil _ _) ⟨_, RE⟩ (by decide), rowp_set6 OB ⟨_, RE⟩ (by decide), st6_cur CE hgR hwR, st6_grown GE (by omega), ⟨by first | omega | (have := HE.out; omega), by first | omega | (have := HE.out; omega), by first | omega | (have := HE.out; omega), by first | omega | (have := HE.out; omega)⟩⟩
      · have h8b : ((n' : Int) % 8 != 0) = true := by simp; omega
        have q := bel_alloc wr (.cells #[.bool false] 4)
        have Q7 := Qr.below q
        have R7 := Rr.below q
        have J7 := Jr.below q
        have C7 := Cr.alloc (.cells #[.bool false] 4)
        have G7 : w.grownBy (wr.alloc (.cells #[.bool false] 4)) (some g) := grown_trans Gr (World.grownBy_alloc _ _ _)
        have SL : Hid (SlB (wr.alloc (.cells #[.bool false] 4)) (some ⟨wr.heap.size, 0, none⟩) [false]) := .inr ⟨wr.heap.size, 0, rfl, by simp, fun i hi => by match i, hi with | 0, _ => simp⟩
        have HLQ : Hid (vs.length + [false].length ≤ 4000000) := by show vs.length + [false].length ≤ 4000000; have := HV.out; simp; omega
        have hl0 : Hid (lenAt wr B = n') := by show lenAt wr B = n'; unfold lenAt; rw [q5]
        clear q Qr Rr Jr Cr Gr hn' hb Q6 R6 C6 G6 J6
        obtain ⟨k0, k1, k2, k3, k4, k5⟩ := Q7.six
        go_wp2_with (at_builtin; refine wpList_appBO rfl (.tmp 40) (.tmp 41) rfl w.heap.size (.slice ad n' c'') vs rfl J7 (some ⟨wr.heap.size, 0, none⟩) 1 1 [false] rfl rfl SL.out HLQ.out G7.size ?_; intro v' w' o8 gq; have Q8 := Q7.grown gq (row_noBlk J7 Q7 (by decide)); have R8 := R7.grown gq (row_noBlk J7 R7 (by decide)); have C8 := C7.rowG J7 gq HGR.out.1; have G8 := grown_rowG G7 J7 gq; obtain ⟨ad9, c9, n9, rfl, hn9⟩ := ownB_shape o8; have HN9 : Hid (n9 = (vs ++ [false]).length) := hn9; clear hn9 gq Q7 R7 C7 G7 J7 SL k0 k1 k2 k3 k4 k5 q0 q1 q2 q3 q4 q5; have qc := Q8.cell 5 rfl; have qf := Q8.fro 5)
        go_roundw
        case rel =>
          have Q9 := Q8.set 5 (.slice ad9 n9 c9)
          refine ⟨ad9, n9, c9, vs ++ [false], HN9.out, ?_, by simpa using Q9, row_setE o8 ⟨_, Q8⟩ (by decide), C8.setHi (by have := HB.out; have := HGR.out; omega) (by have := HB.out; have := HGR.out; omega), grown_setHi G8 (by have := HB.out; omega), R8.setNe (by have := HB.out; omega)⟩
          have h9 : n9 = vs.length + 1 := by have := HN9.out; simpa using this
          have := HV.out
          omega
        case measure =>
          have Q9 : (w'.setCell ⟨B, 5, none⟩ (.slice ad9 n9 c9)).cell? ⟨B, 5, none⟩ = some (.slice ad9 n9 c9) := (Q8.set 5 (.slice ad9 n9 c9)).cell 5 (by simp)
          have e : lenAt (w'.setCell ⟨B, 5, none⟩ (.slice ad9 n9 c9)) B = n9 := by unfold lenAt; rw [Q9]
          rw [e, hl0.out]
          have h9 : n9 = vs.length + 1 := by have := HN9.out; simpa using this
          have := HV.out
          omega
  by_cases hk2 : kd = 2
  case pos =>
    subst hk2
    obtain ⟨u3, hu3⟩ : ∃ u3, u3 = u1.alloc (.cells #[.int .i64 2, .int .i64 0, .int .i64 0, .int .i64 0, .slice none 0 0, .slice none 0 0] 48) := ⟨_, rfl⟩
    have HU : Hid (u3 = _) := hu3
    obtain ⟨B, hB⟩ : ∃ B, B = u1.heap.size := ⟨_, rfl⟩
    have HBe : Hid (B = u1.heap.size) := hB
    have HB : Hid (w.heap.size + 1 < B) := by show w.heap.size + 1 < B; have := R1.lt; omega
    have C4 : Cur w0 a cap zs u3 g := by rw [hu3]; exact C1.alloc _
    have G4 : w.grownBy u3 (some g) := by rw [hu3]; exact grown_trans G1 (World.grownBy_alloc _ _ _)
    have X4 : Blk u3 w.heap.size 46 #[.int .i64 2, .int .i64 pl, .int .i64 nn, .slice a1 l1 c1, .slice a2 l2 c2, .int .i64 wa] := by rw [hu3]; exact X1.below (bel_alloc _ _)
    have R4 : Blk u3 (w.heap.size + 1) 48 #[.int .i64 0, .int .i64 0, .int .i64 0, .int .i64 0, .slice none 0 0, .slice none 0 0] := by rw [hu3]; exact R1.below (bel_alloc _ _)
    have Q4 : Blk u3 B 48 #[.int .i64 2, .int .i64 0, .int .i64 0, .int .i64 0, .slice none 0 0, .slice none 0 0] := by rw [hu3, hB]; exact Blk.new _ _ _
    clear hu3 hB
    go_upto_region 4 with fail
    rw [← HU.out]
    simp only [← HBe.out]
    clear C1 G1 X1 R1 x0 x1 x2 x3 x4 x5
    obtain ⟨x0, x1, x2, x3, x4, x5⟩ := X4.six
    obtain ⟨m, hm⟩ : ∃ m : Nat, nn = (m : Int) := ⟨nn.toNat, by have := HE.out; omega⟩
    have HM : Hid (nn = (m : Int) ∧ m ≤ 900) := ⟨hm, by have := HE.out; omega⟩
    clear hm
    go_wp2_with fail
    refine (l2Bits_at w0 a cap zs _ g _ m HM.out.1 (by have := HM.out; omega) C4).mono ?_
    rintro e t5 ⟨a', c', us, rfl, hus, oj, C5, gg⟩
    have G5 := grown_trans G4 gg
    have R5 := R4.grown gg (by have := HGR.out; simp; omega)
    have X5 := X4.grown gg (by have := HGR.out; simp; omega)
    have Q5 := Q4.grown gg (by have := HGR.out; have := HB.out; simp; omega)
    clear C4 R4 Q4 X4 gg
    have J5 := OwnB.mono oj G4.size
    have HWs : Hid (m = us.length) := hus
    clear oj hus G4 x0 x1 x2 x3 x4 x5
    have qc := Q5.cell 5 rfl
    have qf := Q5.fro 5
    have Q6 := Q5.set 5 (.slice (some a') m c')
    have R6 := R5.setNe (g' := B) (j := 5) (y := .slice (some a') m c') (by have := HB.out; omega)
    have C6 := C5.setHi (G := B) (j := 5) (y := .slice (some a') m c') (by have := HB.out; have := HGR.out; omega) (by have := HB.out; have := HGR.out; omega)
    have G6 := grown_setHi (G := B) (j := 5) (y := .slice (some a') m c') G5 (by have := HB.out; omega)
    have J6 := row_setE (j := 5) (y := .slice (some a') m c') J5 ⟨_, Q5⟩ (by decide)
    go_wp2_with fail
    obtain ⟨v6, hv6⟩ : ∃ v6, v6 = t5.setCell ⟨B, 5, none⟩ (.slice (some a') m c') := ⟨_, rfl⟩
    rw [← hv6] at Q6 R6 C6 G6 J6 ⊢
    clear hv6 qc qf Q5 R5 X5 C5 G5 J5
    go_loopw [] (fun wr => ∃ (ad : Option Addr) (n' c' : Nat) (vs : List Bool), n' = vs.length ∧ n' ≤ 8 * ((m + 7) / 8) ∧ Blk wr B 48 #[.int .i64 2, .int .i64 0, .int .i64 0, .int .i64 0, .slice none 0 0, .slice ad n' c'] ∧ OwnB wr w.heap.size (.slice ad n' c') vs ∧ Cur w0 a cap zs wr g ∧ w.grownBy wr (some g) ∧ Blk wr (w.heap.size + 1) 48 #[.int .i64 0, .int .i64 0, .int .i64 0, .int .i64 0, .slice none 0 0, .slice none 0 0]) (fun wr => (8 - lenAt wr B % 8) % 8)
    case atStart => exact ⟨some a', m, c', us, HWs.out, by omega, Q6, J6, C6, G6, R6⟩
    case round =>
      obtain ⟨ad, n', c'', vs, hn', hb, Qr, Jr, Cr, Gr, Rr⟩ := hrel
      have HV : Hid (n' = vs.length ∧ n' ≤ 8 * ((m + 7) / 8)) := ⟨hn', hb⟩
      obtain ⟨q0, q1, q2, q3, q4, q5⟩ := Qr.six
      have hnb : (n' : Int) ≤ 908 := by have := HM.out; omega
      by_cases h8 : n' % 8 = 0
      · have h8b : ((n' : Int) % 8 != 0) = false := by simp; omega
        obtain ⟨y0, y1, y2, y3, y4, y5⟩ := Rr.six
        have fy := Rr.fro
        have HH : Hid (OwnB wr w.heap.size (.slice ad n' c'') vs ∧ Cur w0 a cap zs wr g ∧ w.grownBy wr (some g) ∧ Blk wr (w.heap.size + 1) 48 #[.int .i64 0, .int .i64 0, .int .i64 0, .int .i64 0, .slice none 0 0, .slice none 0 0]) := ⟨Jr, Cr, Gr, Rr⟩
        clear Jr Cr Gr Rr Qr hn' hb Q6 R6 C6 G6 J6
        go_wp2
        refine bodyPost_ret (v := rp 2 0 0 0 none ad 0 n' 0 c'') (by simp [results, Try.results53, go_sem, y0, y1, y2, y3, y4, y5]) rfl ?_
        obtain ⟨OB, CE, GE, RE⟩ := HH.out
        have hgR : g ≠ w.heap.size + 1 := by have := HGR.out; omega
        have hwR : w0.heap.size ≤ w.heap.size + 1 := by have := HGR.out; omega
        exact ⟨_, _, _, _, _, _, _, _, _, _, [], vs, rfl, rfl, HV.out.1, by omega, by omega, rowp_set6 (ownI_nil _ _) ⟨_, RE⟩ (by decide), rowp_set6 OB ⟨_, RE⟩ (by decide), st6_cur CE hgR hwR, st6_grown GE (by omega), ⟨by first | omega | (have := HE.out; omega), by first | omega | (have := HE.out; omega), by first | omega | (have := HE.out; omega), by first | omega | (have := HE.out; omega)⟩⟩
      · have h8b : ((n' : Int) % 8 != 0) = true := by simp; omega
        have q := bel_alloc wr (.cells #[.bool false] 4)
        have Q7 := Qr.below q
        have R7 := Rr.below q
        have J7 := Jr.below q
        have C7 := Cr.alloc (.cells #[.bool false] 4)
        have G7 : w.grownBy (wr.alloc (.cells #[.bool false] 4)) (some g) := grown_trans Gr (World.grownBy_alloc _ _ _)
        have SL : Hid (SlB (wr.alloc (.cells #[.bool false] 4)) (some ⟨wr.heap.size, 0, none⟩) [false]) := .inr ⟨wr.heap.size, 0, rfl, by simp, fun i hi => by match i, hi with | 0, _ => simp⟩
        have HLQ : Hid (vs.length + [false].length ≤ 4000000) := by show vs.length + [false].length ≤ 4000000; have := HV.out; simp; omega
        have hl0 : Hid (lenAt wr B = n') := by show lenAt wr B = n'; unfold lenAt; rw [q5]
        clear q Qr Rr Jr Cr Gr hn' hb Q6 R6 C6 G6 J6
        obtain ⟨k0, k1, k2, k3, k4, k5⟩ := Q7.six
        go_wp2_with (at_builtin; refine wpList_appBO rfl (.tmp 40) (.tmp 41) rfl w.heap.size (.slice ad n' c'') vs rfl J7 (some ⟨wr.heap.size, 0, none⟩) 1 1 [false] rfl rfl SL.out HLQ.out G7.size ?_; intro v' w' o8 gq; have Q8 := Q7.grown gq (row_noBlk J7 Q7 (by decide)); have R8 := R7.grown gq (row_noBlk J7 R7 (by decide)); have C8 := C7.rowG J7 gq HGR.out.1; have G8 := grown_rowG G7 J7 gq; obtain ⟨ad9, c9, n9, rfl, hn9⟩ := ownB_shape o8; have HN9 : Hid (n9 = (vs ++ [false]).length) := hn9; clear hn9 gq Q7 R7 C7 G7 J7 SL k0 k1 k2 k3 k4 k5 q0 q1 q2 q3 q4 q5; have qc := Q8.cell 5 rfl; have qf := Q8.fro 5)
        go_roundw
        case rel =>
          have Q9 := Q8.set 5 (.slice ad9 n9 c9)
          refine ⟨ad9, n9, c9, vs ++ [false], HN9.out, ?_, by simpa using Q9, row_setE o8 ⟨_, Q8⟩ (by decide), C8.setHi (by have := HB.out; have := HGR.out; omega) (by have := HB.out; have := HGR.out; omega), grown_setHi G8 (by have := HB.out; omega), R8.setNe (by have := HB.out; omega)⟩
          have h9 : n9 = vs.length + 1 := by have := HN9.out; simpa using this
          have := HV.out
          omega
        case measure =>
          have Q9 : (w'.setCell ⟨B, 5, none⟩ (.slice ad9 n9 c9)).cell? ⟨B, 5, none⟩ = some (.slice ad9 n9 c9) := (Q8.set 5 (.slice ad9 n9 c9)).cell 5 (by simp)
          have e : lenAt (w'.setCell ⟨B, 5, none⟩ (.slice ad9 n9 c9)) B = n9 := by unfold lenAt; rw [Q9]
          rw [e, hl0.out]
          have h9 : n9 = vs.length + 1 := by have := HN9.out; simpa using this
          have := HV.out
          omega
  by_cases hk3 : kd = 3
  case pos =>
    subst hk3
    obtain ⟨u3, hu3⟩ : ∃ u3, u3 = u1.alloc (.cells #[.int .i64 3, .int .i64 0, .int .i64 0, .int .i64 0, .slice none 0 0, .slice none 0 0] 48) := ⟨_, rfl⟩
    have HU : Hid (u3 = _) := hu3
    obtain ⟨B, hB⟩ : ∃ B, B = u1.heap.size := ⟨_, rfl⟩
    have HBe : Hid (B = u1.heap.size) := hB
    have HB : Hid (w.heap.size + 1 < B) := by show w.heap.size + 1 < B; have := R1.lt; omega
    have C4 : Cur w0 a cap zs u3 g := by rw [hu3]; exact C1.alloc _
    have G4 : w.grownBy u3 (some g) := by rw [hu3]; exact grown_trans G1 (World.grownBy_alloc _ _ _)
    have X4 : Blk u3 w.heap.size 46 #[.int .i64 3, .int .i64 pl, .int .i64 nn, .slice a1 l1 c1, .slice a2 l2 c2, .int .i64 wa] := by rw [hu3]; exact X1.below (bel_alloc _ _)
    have R4 : Blk u3 (w.heap.size + 1) 48 #[.int .i64 0, .int .i64 0, .int .i64 0, .int .i64 0, .slice none 0 0, .slice none 0 0] := by rw [hu3]; exact R1.below (bel_alloc _ _)
    have Q4 : Blk u3 B 48 #[.int .i64 3, .int .i64 0, .int .i64 0, .int .i64 0, .slice none 0 0, .slice none 0 0] := by rw [hu3, hB]; exact Blk.new _ _ _
    clear hu3 hB
    go_upto_region 4 with fail
    rw [← HU.out]
    simp only [← HBe.out]
    clear C1 G1 X1 R1 x0 x1 x2 x3 x4 x5
    obtain ⟨x0, x1, x2, x3, x4, x5⟩ := X4.six
    obtain ⟨m, hm⟩ : ∃ m : Nat, nn = (m : Int) := ⟨nn.toNat, by have := HE.out; omega⟩
    have HM : Hid (nn = (m : Int) ∧ m ≤ 900) := ⟨hm, by have := HE.out; omega⟩
    clear hm
    go_wp2_with fail
    refine (l3ListR_at w0 a cap zs _ g _ m HM.out.1 (by have := HM.out; omega) C4).mono ?_
    rintro e t5 ⟨a', c', us, rfl, hus, hrg, oi, C5, gg⟩
    have G5 := grown_trans G4 gg
    have R5 := R4.grown gg (by have := HGR.out; simp; omega)
    have X5 := X4.grown gg (by have := HGR.out; simp; omega)
    have Q5 := Q4.grown gg (by have := HGR.out; have := HB.out; simp; omega)
    clear C4 R4 Q4 X4 gg
    have I5 := OwnI.mono oi G4.size
    have HWs : Hid (m = us.length) := hus
    clear oi hus hrg G4
    have qc := Q5.cell 4 rfl
    have qf := Q5.fro 4
    have Q6 := Q5.set 4 (.slice a' m c')
    have R6 := R5.setNe (g' := B) (j := 4) (y := .slice a' m c') (by have := HB.out; omega)
    have X6 := X5.setNe (g' := B) (j := 4) (y := .slice a' m c') (by have := HB.out; omega)
    have C6 := C5.setHi (G := B) (j := 4) (y := .slice a' m c') (by have := HB.out; have := HGR.out; omega) (by have := HB.out; have := HGR.out; omega)
    have G6 := grown_setHi (G := B) (j := 4) (y := .slice a' m c') G5 (by have := HB.out; omega)
    have I6 := row_setE (j := 4) (y := .slice a' m c') I5 ⟨_, Q5⟩ (by decide)
    go_upto_region 26 with fail
    obtain ⟨v6, hv6⟩ : ∃ v6, v6 = t5.setCell ⟨B, 4, none⟩ (.slice a' m c') := ⟨_, rfl⟩
    rw [← hv6] at Q6 R6 X6 C6 G6 I6 ⊢
    clear hv6 qc qf Q5 R5 X5 C5 G5 I5
    clear x0 x1 x2 x3 x4 x5
    obtain ⟨x0, x1, x2, x3, x4, x5⟩ := X6.six
    obtain ⟨q0, q1, q2, q3, q4, q5⟩ := Q6.six
    obtain ⟨y0, y1, y2, y3, y4, y5⟩ := R6.six
    have fy := R6.fro
    have OI : OwnI v6 w.heap.size (.slice a' m c') us := I6
    have OB : OwnB v6 w.heap.size (.slice none 0 0) [] := (ownB_nil _ _)
    have HH : Hid (OwnI v6 w.heap.size (.slice a' m c') us ∧ OwnB v6 w.heap.size (.slice none 0 0) [] ∧ Cur w0 a cap zs v6 g ∧ w.grownBy v6 (some g) ∧ Blk v6 (w.heap.size + 1) 48 #[.int .i64 0, .int .i64 0, .int .i64 0, .int .i64 0, .slice none 0 0, .slice none 0 0]) := ⟨OI, OB, C6, G6, R6⟩
    clear OI OB C6 G6 R6 Q6 X6 x0 x1 x2 x3 x4 x5 I6
    go_wp2
    refine bodyPost_ret (v := rp (3) (0) (0) (0) a' none m 0 c' 0) (by simp [results, Try.results53, go_sem, y0, y1, y2, y3, y4, y5]) rfl ?_
    obtain ⟨OI, OB, CE, GE, RE⟩ := HH.out
    have hgR : g ≠ w.heap.size + 1 := by have := HGR.out; omega
    have hwR : w0.heap.size ≤ w.heap.size + 1 := by have := HGR.out; omega
    exact ⟨_, _, _, _, _, _, _, _, _, _, us, [], rfl, HWs.out, rfl, by first | omega | (have := HM.out; omega) | (have := HE.out; have := HNN.out; omega) | (have := HE.out; omega), by first | omega | (have := HM.out; omega) | (have := HE.out; have := HNN.out; omega) | (have := HE.out; omega), rowp_set6 OI ⟨_, RE⟩ (by decide), rowp_set6 OB ⟨_, RE⟩ (by decide), st6_cur CE hgR hwR, st6_grown GE (by omega), ⟨by first | omega | (have := HE.out; omega), by first | omega | (have := HE.out; omega), by first | omega | (have := HE.out; omega), by first | omega | (have := HE.out; omega)⟩⟩
  by_cases hk4 : kd = 4
  case pos =>
    subst hk4
    obtain ⟨u3, hu3⟩ : ∃ u3, u3 = u1.alloc (.cells #[.int .i64 4, .int .i64 0, .int .i64 0, .int .i64 0, .slice none 0 0, .slice none 0 0] 48) := ⟨_, rfl⟩
    have HU : Hid (u3 = _) := hu3
    obtain ⟨B, hB⟩ : ∃ B, B = u1.heap.size := ⟨_, rfl⟩
    have HBe : Hid (B = u1.heap.size) := hB
    have HB : Hid (w.heap.size + 1 < B) := by show w.heap.size + 1 < B; have := R1.lt; omega
    have C4 : Cur w0 a cap zs u3 g := by rw [hu3]; exact C1.alloc _
    have G4 : w.grownBy u3 (some g) := by rw [hu3]; exact grown_trans G1 (World.grownBy_alloc _ _ _)
    have X4 : Blk u3 w.heap.size 46 #[.int .i64 4, .int .i64 pl, .int .i64 nn, .slice a1 l1 c1, .slice a2 l2 c2, .int .i64 wa] := by rw [hu3]; exact X1.below (bel_alloc _ _)
    have R4 : Blk u3 (w.heap.size + 1) 48 #[.int .i64 0, .int .i64 0, .int .i64 0, .int .i64 0, .slice none 0 0, .slice none 0 0] := by rw [hu3]; exact R1.below (bel_alloc _ _)
    have Q4 : Blk u3 B 48 #[.int .i64 4, .int .i64 0, .int .i64 0, .int .i64 0, .slice none 0 0, .slice none 0 0] := by rw [hu3, hB]; exact Blk.new _ _ _
    clear hu3 hB
    go_upto_region 4 with fail
    rw [← HU.out]
    simp only [← HBe.out]
    clear C1 G1 X1 R1 x0 x1 x2 x3 x4 x5
    obtain ⟨x0, x1, x2, x3, x4, x5⟩ := X4.six
    obtain ⟨m, hm⟩ : ∃ m : Nat, nn = (m : Int) := ⟨nn.toNat, by have := HE.out; omega⟩
    have HM : Hid (nn = (m : Int) ∧ m ≤ 900) := ⟨hm, by have := HE.out; omega⟩
    clear hm
    go_wp2_with fail
    refine (l3ListR_at w0 a cap zs _ g _ m HM.out.1 (by have := HM.out; omega) C4).mono ?_
    rintro e t5 ⟨a', c', us, rfl, hus, hrg, oi, C5, gg⟩
    have G5 := grown_trans G4 gg
    have R5 := R4.grown gg (by have := HGR.out; simp; omega)
    have X5 := X4.grown gg (by have := HGR.out; simp; omega)
    have Q5 := Q4.grown gg (by have := HGR.out; have := HB.out; simp; omega)
    clear C4 R4 Q4 X4 gg
    have I5 := OwnI.mono oi G4.size
    have HWs : Hid (m = us.length) := hus
    clear oi hus hrg G4
    have qc := Q5.cell 4 rfl
    have qf := Q5.fro 4
    have Q6 := Q5.set 4 (.slice a' m c')
    have R6 := R5.setNe (g' := B) (j := 4) (y := .slice a' m c') (by have := HB.out; omega)
    have X6 := X5.setNe (g' := B) (j := 4) (y := .slice a' m c') (by have := HB.out; omega)
    have C6 := C5.setHi (G := B) (j := 4) (y := .slice a' m c') (by have := HB.out; have := HGR.out; omega) (by have := HB.out; have := HGR.out; omega)
    have G6 := grown_setHi (G := B) (j := 4) (y := .slice a' m c') G5 (by have := HB.out; omega)
    have I6 := row_setE (j := 4) (y := .slice a' m c') I5 ⟨_, Q5⟩ (by decide)
    go_upto_region 26 with fail
    obtain ⟨v6, hv6⟩ : ∃ v6, v6 = t5.setCell ⟨B, 4, none⟩ (.slice a' m c') := ⟨_, rfl⟩
    rw [← hv6] at Q6 R6 X6 C6 G6 I6 ⊢
    clear hv6 qc qf Q5 R5 X5 C5 G5 I5
    clear x0 x1 x2 x3 x4 x5
    obtain ⟨x0, x1, x2, x3, x4, x5⟩ := X6.six
    obtain ⟨q0, q1, q2, q3, q4, q5⟩ := Q6.six
    obtain ⟨y0, y1, y2, y3, y4, y5⟩ := R6.six
    have fy := R6.fro
    have OI : OwnI v6 w.heap.size (.slice a' m c') us := I6
    have OB : OwnB v6 w.heap.size (.slice none 0 0) [] := (ownB_nil _ _)
    have HH : Hid (OwnI v6 w.heap.size (.slice a' m c') us ∧ OwnB v6 w.heap.size (.slice none 0 0) [] ∧ Cur w0 a cap zs v6 g ∧ w.grownBy v6 (some g) ∧ Blk v6 (w.heap.size + 1) 48 #[.int .i64 0, .int .i64 0, .int .i64 0, .int .i64 0, .slice none 0 0, .slice none 0 0]) := ⟨OI, OB, C6, G6, R6⟩
    clear OI OB C6 G6 R6 Q6 X6 x0 x1 x2 x3 x4 x5 I6
    go_wp2
    refine bodyPost_ret (v := rp (4) (0) (0) (0) a' none m 0 c' 0) (by simp [results, Try.results53, go_sem, y0, y1, y2, y3, y4, y5]) rfl ?_
    obtain ⟨OI, OB, CE, GE, RE⟩ := HH.out
    have hgR : g ≠ w.heap.size + 1 := by have := HGR.out; omega
    have hwR : w0.heap.size ≤ w.heap.size + 1 := by have := HGR.out; omega
    exact ⟨_, _, _, _, _, _, _, _, _, _, us, [], rfl, HWs.out, rfl, by first | omega | (have := HM.out; omega) | (have := HE.out; have := HNN.out; omega) | (have := HE.out; omega), by first | omega | (have := HM.out; omega) | (have := HE.out; have := HNN.out; omega) | (have := HE.out; omega), rowp_set6 OI ⟨_, RE⟩ (by decide), rowp_set6 OB ⟨_, RE⟩ (by decide), st6_cur CE hgR hwR, st6_grown GE (by omega), ⟨by first | omega | (have := HE.out; omega), by first | omega | (have := HE.out; omega), by first | omega | (have := HE.out; omega), by first | omega | (have := HE.out; omega)⟩⟩
  by_cases hk23 : kd = 23
  case pos =>
    subst hk23
    obtain ⟨u3, hu3⟩ : ∃ u3, u3 = u1.alloc (.cells #[.int .i64 23, .int .i64 0, .int .i64 0, .int .i64 0, .slice none 0 0, .slice none 0 0] 48) := ⟨_, rfl⟩
    have HU : Hid (u3 = _) := hu3
    obtain ⟨B, hB⟩ : ∃ B, B = u1.heap.size := ⟨_, rfl⟩
    have HBe : Hid (B = u1.heap.size) := hB
    have HB : Hid (w.heap.size + 1 < B) := by show w.heap.size + 1 < B; have := R1.lt; omega
    have C4 : Cur w0 a cap zs u3 g := by rw [hu3]; exact C1.alloc _
    have G4 : w.grownBy u3 (some g) := by rw [hu3]; exact grown_trans G1 (World.grownBy_alloc _ _ _)
    have X4 : Blk u3 w.heap.size 46 #[.int .i64 23, .int .i64 pl, .int .i64 nn, .slice a1 l1 c1, .slice a2 l2 c2, .int .i64 wa] := by rw [hu3]; exact X1.below (bel_alloc _ _)
    have R4 : Blk u3 (w.heap.size + 1) 48 #[.int .i64 0, .int .i64 0, .int .i64 0, .int .i64 0, .slice none 0 0, .slice none 0 0] := by rw [hu3]; exact R1.below (bel_alloc _ _)
    have Q4 : Blk u3 B 48 #[.int .i64 23, .int .i64 0, .int .i64 0, .int .i64 0, .slice none 0 0, .slice none 0 0] := by rw [hu3, hB]; exact Blk.new _ _ _
    clear hu3 hB
    go_upto_region 4 with fail
    rw [← HU.out]
    simp only [← HBe.out]
    clear C1 G1 X1 R1 x0 x1 x2 x3 x4 x5
    obtain ⟨x0, x1, x2, x3, x4, x5⟩ := X4.six
    obtain ⟨m, hm⟩ : ∃ m : Nat, nn = (m : Int) := ⟨nn.toNat, by have := HE.out; omega⟩
    have HM : Hid (nn = (m : Int) ∧ m ≤ 900) := ⟨hm, by have := HE.out; omega⟩
    clear hm
    go_wp2_with fail
    refine (l3ListR_at w0 a cap zs _ g _ m HM.out.1 (by have := HM.out; omega) C4).mono ?_
    rintro e t5 ⟨a', c', us, rfl, hus, hrg, oi, C5, gg⟩
    have G5 := grown_trans G4 gg
    have R5 := R4.grown gg (by have := HGR.out; simp; omega)
    have X5 := X4.grown gg (by have := HGR.out; simp; omega)
    have Q5 := Q4.grown gg (by have := HGR.out; have := HB.out; simp; omega)
    clear C4 R4 Q4 X4 gg
    have I5 := OwnI.mono oi G4.size
    have HWs : Hid (m = us.length) := hus
    clear oi hus hrg G4
    have qc := Q5.cell 4 rfl
    have qf := Q5.fro 4
    have Q6 := Q5.set 4 (.slice a' m c')
    have R6 := R5.setNe (g' := B) (j := 4) (y := .slice a' m c') (by have := HB.out; omega)
    have X6 := X5.setNe (g' := B) (j := 4) (y := .slice a' m c') (by have := HB.out; omega)
    have C6 := C5.setHi (G := B) (j := 4) (y := .slice a' m c') (by have := HB.out; have := HGR.out; omega) (by have := HB.out; have := HGR.out; omega)
    have G6 := grown_setHi (G := B) (j := 4) (y := .slice a' m c') G5 (by have := HB.out; omega)
    have I6 := row_setE (j := 4) (y := .slice a' m c') I5 ⟨_, Q5⟩ (by decide)
    go_upto_region 26 with fail
    obtain ⟨v6, hv6⟩ : ∃ v6, v6 = t5.setCell ⟨B, 4, none⟩ (.slice a' m c') := ⟨_, rfl⟩
    rw [← hv6] at Q6 R6 X6 C6 G6 I6 ⊢
    clear hv6 qc qf Q5 R5 X5 C5 G5 I5
    clear x0 x1 x2 x3 x4 x5
    obtain ⟨x0, x1, x2, x3, x4, x5⟩ := X6.six
    obtain ⟨q0, q1, q2, q3, q4, q5⟩ := Q6.six
    obtain ⟨y0, y1, y2, y3, y4, y5⟩ := R6.six
    have fy := R6.fro
    have OI : OwnI v6 w.heap.size (.slice a' m c') us := I6
    have OB : OwnB v6 w.heap.size (.slice none 0 0) [] := (ownB_nil _ _)
    have HH : Hid (OwnI v6 w.heap.size (.slice a' m c') us ∧ OwnB v6 w.heap.size (.slice none 0 0) [] ∧ Cur w0 a cap zs v6 g ∧ w.grownBy v6 (some g) ∧ Blk v6 (w.heap.size + 1) 48 #[.int .i64 0, .int .i64 0, .int .i64 0, .int .i64 0, .slice none 0 0, .slice none 0 0]) := ⟨OI, OB, C6, G6, R6⟩
    clear OI OB C6 G6 R6 Q6 X6 x0 x1 x2 x3 x4 x5 I6
    go_wp2
    refine bodyPost_ret (v := rp (23) (0) (0) (0) a' none m 0 c' 0) (by simp [results, Try.results53, go_sem, y0, y1, y2, y3, y4, y5]) rfl ?_
    obtain ⟨OI, OB, CE, GE, RE⟩ := HH.out
    have hgR : g ≠ w.heap.size + 1 := by have := HGR.out; omega
    have hwR : w0.heap.size ≤ w.heap.size + 1 := by have := HGR.out; omega
    exact ⟨_, _, _, _, _, _, _, _, _, _, us, [], rfl, HWs.out, rfl, by first | omega | (have := HM.out; omega) | (have := HE.out; have := HNN.out; omega) | (have := HE.out; omega), by first | omega | (have := HM.out; omega) | (have := HE.out; have := HNN.out; omega) | (have := HE.out; omega), rowp_set6 OI ⟨_, RE⟩ (by decide), rowp_set6 OB ⟨_, RE⟩ (by decide), st6_cur CE hgR hwR, st6_grown GE (by omega), ⟨by first | omega | (have := HE.out; omega), by first | omega | (have := HE.out; omega), by first | omega | (have := HE.out; omega), by first | omega | (have := HE.out; omega)⟩⟩
  by_cases hk5 : kd = 5
  case pos =>
    subst hk5
    obtain ⟨u3, hu3⟩ : ∃ u3, u3 = u1.alloc (.cells #[.int .i64 5, .int .i64 0, .int .i64 0, .int .i64 0, .slice none 0 0, .slice none 0 0] 48) := ⟨_, rfl⟩
    have HU : Hid (u3 = _) := hu3
    obtain ⟨B, hB⟩ : ∃ B, B = u1.heap.size := ⟨_, rfl⟩
    have HBe : Hid (B = u1.heap.size) := hB
    have HB : Hid (w.heap.size + 1 < B) := by show w.heap.size + 1 < B; have := R1.lt; omega
    have C4 : Cur w0 a cap zs u3 g := by rw [hu3]; exact C1.alloc _
    have G4 : w.grownBy u3 (some g) := by rw [hu3]; exact grown_trans G1 (World.grownBy_alloc _ _ _)
    have X4 : Blk u3 w.heap.size 46 #[.int .i64 5, .int .i64 pl, .int .i64 nn, .slice a1 l1 c1, .slice a2 l2 c2, .int .i64 wa] := by rw [hu3]; exact X1.below (bel_alloc _ _)
    have R4 : Blk u3 (w.heap.size + 1) 48 #[.int .i64 0, .int .i64 0, .int .i64 0, .int .i64 0, .slice none 0 0, .slice none 0 0] := by rw [hu3]; exact R1.below (bel_alloc _ _)
    have Q4 : Blk u3 B 48 #[.int .i64 5, .int .i64 0, .int .i64 0, .int .i64 0, .slice none 0 0, .slice none 0 0] := by rw [hu3, hB]; exact Blk.new _ _ _
    clear hu3 hB
    go_upto_region 4 with fail
    rw [← HU.out]
    simp only [← HBe.out]
    clear C1 G1 X1 R1 x0 x1 x2 x3 x4 x5
    obtain ⟨x0, x1, x2, x3, x4, x5⟩ := X4.six
    have qc := Q4.cell 2 rfl
    have qf := Q4.fro 2
    have Q5 := Q4.set 2 (.int .i64 pl)
    have R5 := R4.setNe (g' := B) (j := 2) (y := .int .i64 pl) (by have := HB.out; omega)
    have X5 := X4.setNe (g' := B) (j := 2) (y := .int .i64 pl) (by have := HB.out; omega)
    have C5 := C4.setHi (G := B) (j := 2) (y := .int .i64 pl) (by have := HB.out; have := HGR.out; omega) (by have := HB.out; have := HGR.out; omega)
    have G5 := grown_setHi (G := B) (j := 2) (y := .int .i64 pl) G4 (by have := HB.out; omega)
    go_upto_region 18 with fail
    obtain ⟨v5, hv5⟩ : ∃ v5, v5 = u3.setCell ⟨B, 2, none⟩ (.int .i64 pl) := ⟨_, rfl⟩
    rw [← hv5] at Q5 R5 X5 C5 G5 ⊢
    clear hv5 qc qf Q4 R4 X4 C4 G4 
    clear x0 x1 x2 x3 x4 x5
    obtain ⟨x0, x1, x2, x3, x4, x5⟩ := X5.six
    have oL := newB v5 w.heap.size G5.size
    have q := bel_alloc v5 (.cells #[] 4)
    have Q20 := Q5.below q
    have R20 := R5.below q
    have X20 := X5.below q
    have C20 := C5.alloc (.cells #[] 4)
    have G20 : w.grownBy (v5.alloc (.cells #[] 4)) (some g) := grown_trans G5 (World.grownBy_alloc _ _ _)
    have oQ : OwnB (v5.alloc (.cells #[] 4)) base (.slice a2 l2 c2) bs := World.ownsRow.kept HS.out.2.1 G20 (row_ne_g HS.out.2.1 HS.out.2.2)
    have SQ := hide oQ.sl.2
    have HLQ : Hid (l2 = bs.length ∧ ([] : List Bool).length + bs.length ≤ 4000000) := by show _ ∧ _; have := HE.out; simp; omega
    have qc := Q20.cell 5 rfl
    have qf := Q20.fro 5
    clear oQ q
    obtain ⟨m0, m1, m2, m3, m4, m5⟩ := X20.six
    have hnX : ¬ w.heap.size = v5.heap.size := by have := X5.lt; omega
    have hnB : ¬ B = v5.heap.size := by have := Q5.lt; omega
    go_upto_region 26 with (at_builtin; refine wpList_appBO rfl (.tmp 58) (.tmp 60) rfl w.heap.size (.slice (some ⟨v5.heap.size, 0, none⟩) 0 0) [] rfl oL a2 l2 c2 bs rfl HLQ.out.1 SQ.out HLQ.out.2 G20.size ?_; intro v' w' o30 gq; rw [List.nil_append] at o30; have Q30 := Q20.grown gq (row_noBlk oL Q20 (by decide)); have R30 := R20.grown gq (row_noBlk oL R20 (by decide)); have X30 := X20.grown gq (row_noBlk oL X20 (by decide)); have C30 := C20.rowG oL gq HGR.out.1; have G30 := grown_rowG G20 oL gq; obtain ⟨a', c', n', rfl, hn'⟩ := ownB_shape o30; have HNN : Hid (n' = bs.length) := hn'; clear hn' gq oL Q20 R20 X20 C20 G20 qc qf SQ x0 x1 x2 x3 x4 x5 m0 m1 m2 m3 m4 m5 hnX hnB; have qc := Q30.cell 5 rfl; have qf := Q30.fro 5)
    have Q31 := Q30.set 5 (.slice a' n' c')
    have R31 := R30.setNe (g' := B) (j := 5) (y := .slice a' n' c') (by have := HB.out; omega)
    have X31 := X30.setNe (g' := B) (j := 5) (y := .slice a' n' c') (by have := HB.out; omega)
    have C31 := C30.setHi (G := B) (j := 5) (y := .slice a' n' c') (by have := HB.out; have := HGR.out; omega) (by have := HB.out; have := HGR.out; omega)
    have G31 := grown_setHi (G := B) (j := 5) (y := .slice a' n' c') G30 (by have := HB.out; omega)
    have J31 := row_setE (j := 5) (y := .slice a' n' c') o30 ⟨_, Q30⟩ (by decide)
    obtain ⟨v31, hv31⟩ : ∃ v31, v31 = w'.setCell ⟨B, 5, none⟩ (.slice a' n' c') := ⟨_, rfl⟩
    rw [← hv31] at Q31 R31 X31 C31 G31 J31 ⊢
    clear hv31 qc qf Q30 R30 X30 C30 G30 o30
    obtain ⟨x0, x1, x2, x3, x4, x5⟩ := X31.six
    obtain ⟨q0, q1, q2, q3, q4, q5⟩ := Q31.six
    obtain ⟨y0, y1, y2, y3, y4, y5⟩ := R31.six
    have fy := R31.fro
    have OI : OwnI v31 w.heap.size (.slice none 0 0) [] := (ownI_nil _ _)
    have OB : OwnB v31 w.heap.size (.slice a' n' c') bs := J31
    have HH : Hid (OwnI v31 w.heap.size (.slice none 0 0) [] ∧ OwnB v31 w.heap.size (.slice a' n' c') bs ∧ Cur w0 a cap zs v31 g ∧ w.grownBy v31 (some g) ∧ Blk v31 (w.heap.size + 1) 48 #[.int .i64 0, .int .i64 0, .int .i64 0, .int .i64 0, .slice none 0 0, .slice none 0 0]) := ⟨OI, OB, C31, G31, R31⟩
    clear OI OB C31 G31 R31 Q31 X31 x0 x1 x2 x3 x4 x5 J31
    go_wp2
    refine bodyPost_ret (v := rp (5) (0) (pl) (0) none a' 0 n' 0 c') (by simp [results, Try.results53, go_sem, y0, y1, y2, y3, y4, y5]) rfl ?_
    obtain ⟨OI, OB, CE, GE, RE⟩ := HH.out
    have hgR : g ≠ w.heap.size + 1 := by have := HGR.out; omega
    have hwR : w0.heap.size ≤ w.heap.size + 1 := by have := HGR.out; omega
    exact ⟨_, _, _, _, _, _, _, _, _, _, [], bs, rfl, rfl, HNN.out, by first | omega | (have := HM.out; omega) | (have := HE.out; have := HNN.out; omega) | (have := HE.out; omega), by first | omega | (have := HM.out; omega) | (have := HE.out; have := HNN.out; omega) | (have := HE.out; omega), rowp_set6 OI ⟨_, RE⟩ (by decide), rowp_set6 OB ⟨_, RE⟩ (by decide), st6_cur CE hgR hwR, st6_grown GE (by omega), ⟨by first | omega | (have := HE.out; omega), by first | omega | (have := HE.out; omega), by first | omega | (have := HE.out; omega), by first | omega | (have := HE.out; omega)⟩⟩
  by_cases hk6 : kd = 6
  case pos =>
    subst hk6
    obtain ⟨u3, hu3⟩ : ∃ u3, u3 = u1.alloc (.cells #[.int .i64 6, .int .i64 0, .int .i64 0, .int .i64 0, .slice none 0 0, .slice none 0 0] 48) := ⟨_, rfl⟩
    have HU : Hid (u3 = _) := hu3
    obtain ⟨B, hB⟩ : ∃ B, B = u1.heap.size := ⟨_, rfl⟩
    have HBe : Hid (B = u1.heap.size) := hB
    have HB : Hid (w.heap.size + 1 < B) := by show w.heap.size + 1 < B; have := R1.lt; omega
    have C4 : Cur w0 a cap zs u3 g := by rw [hu3]; exact C1.alloc _
    have G4 : w.grownBy u3 (some g) := by rw [hu3]; exact grown_trans G1 (World.grownBy_alloc _ _ _)
    have X4 : Blk u3 w.heap.size 46 #[.int .i64 6, .int .i64 pl, .int .i64 nn, .slice a1 l1 c1, .slice a2 l2 c2, .int .i64 wa] := by rw [hu3]; exact X1.below (bel_alloc _ _)
    have R4 : Blk u3 (w.heap.size + 1) 48 #[.int .i64 0, .int .i64 0, .int .i64 0, .int .i64 0, .slice none 0 0, .slice none 0 0] := by rw [hu3]; exact R1.below (bel_alloc _ _)
    have Q4 : Blk u3 B 48 #[.int .i64 6, .int .i64 0, .int .i64 0, .int .i64 0, .slice none 0 0, .slice none 0 0] := by rw [hu3, hB]; exact Blk.new _ _ _
    clear hu3 hB
    go_upto_region 4 with fail
    rw [← HU.out]
    simp only [← HBe.out]
    clear C1 G1 X1 R1 x0 x1 x2 x3 x4 x5
    obtain ⟨x0, x1, x2, x3, x4, x5⟩ := X4.six
    have qc := Q4.cell 2 rfl
    have qf := Q4.fro 2
    have Q5 := Q4.set 2 (.int .i64 pl)
    have R5 := R4.setNe (g' := B) (j := 2) (y := .int .i64 pl) (by have := HB.out; omega)
    have X5 := X4.setNe (g' := B) (j := 2) (y := .int .i64 pl) (by have := HB.out; omega)
    have C5 := C4.setHi (G := B) (j := 2) (y := .int .i64 pl) (by have := HB.out; have := HGR.out; omega) (by have := HB.out; have := HGR.out; omega)
    have G5 := grown_setHi (G := B) (j := 2) (y := .int .i64 pl) G4 (by have := HB.out; omega)
    go_upto_region 22 with fail
    obtain ⟨v5, hv5⟩ : ∃ v5, v5 = u3.setCell ⟨B, 2, none⟩ (.int .i64 pl) := ⟨_, rfl⟩
    rw [← hv5] at Q5 R5 X5 C5 G5 ⊢
    clear hv5 qc qf Q4 R4 X4 C4 G4 
    clear x0 x1 x2 x3 x4 x5
    obtain ⟨x0, x1, x2, x3, x4, x5⟩ := X5.six
    have oL := newI v5 w.heap.size G5.size
    have q := bel_alloc v5 (.cells #[] 3)
    have Q20 := Q5.below q
    have R20 := R5.below q
    have X20 := X5.below q
    have C20 := C5.alloc (.cells #[] 3)
    have G20 : w.grownBy (v5.alloc (.cells #[] 3)) (some g) := grown_trans G5 (World.grownBy_alloc _ _ _)
    have oQ : OwnI (v5.alloc (.cells #[] 3)) base (.slice a1 l1 c1) ws := World.ownsRow.kept HS.out.1 G20 (row_ne_g HS.out.1 HS.out.2.2)
    have SQ := hide oQ.sl.2
    have HLQ : Hid (l1 = ws.length ∧ ([] : List Int).length + ws.length ≤ 4000000) := by show _ ∧ _; have := HE.out; simp; omega
    have qc := Q20.cell 4 rfl
    have qf := Q20.fro 4
    clear oQ q
    obtain ⟨m0, m1, m2, m3, m4, m5⟩ := X20.six
    have hnX : ¬ w.heap.size = v5.heap.size := by have := X5.lt; omega
    have hnB : ¬ B = v5.heap.size := by have := Q5.lt; omega
    go_upto_region 26 with (at_builtin; refine wpList_appIO rfl (.tmp 69) (.tmp 71) rfl w.heap.size (.slice (some ⟨v5.heap.size, 0, none⟩) 0 0) [] rfl oL a1 l1 c1 ws rfl HLQ.out.1 SQ.out HLQ.out.2 G20.size ?_; intro v' w' o30 gq; rw [List.nil_append] at o30; have Q30 := Q20.grown gq (row_noBlk oL Q20 (by decide)); have R30 := R20.grown gq (row_noBlk oL R20 (by decide)); have X30 := X20.grown gq (row_noBlk oL X20 (by decide)); have C30 := C20.rowG oL gq HGR.out.1; have G30 := grown_rowG G20 oL gq; obtain ⟨a', c', n', rfl, hn'⟩ := ownI_shape o30; have HNN : Hid (n' = ws.length) := hn'; clear hn' gq oL Q20 R20 X20 C20 G20 qc qf SQ x0 x1 x2 x3 x4 x5 m0 m1 m2 m3 m4 m5 hnX hnB; have qc := Q30.cell 4 rfl; have qf := Q30.fro 4)
    have Q31 := Q30.set 4 (.slice a' n' c')
    have R31 := R30.setNe (g' := B) (j := 4) (y := .slice a' n' c') (by have := HB.out; omega)
    have X31 := X30.setNe (g' := B) (j := 4) (y := .slice a' n' c') (by have := HB.out; omega)
    have C31 := C30.setHi (G := B) (j := 4) (y := .slice a' n' c') (by have := HB.out; have := HGR.out; omega) (by have := HB.out; have := HGR.out; omega)
    have G31 := grown_setHi (G := B) (j := 4) (y := .slice a' n' c') G30 (by have := HB.out; omega)
    have I31 := row_setE (j := 4) (y := .slice a' n' c') o30 ⟨_, Q30⟩ (by decide)
    obtain ⟨v31, hv31⟩ : ∃ v31, v31 = w'.setCell ⟨B, 4, none⟩ (.slice a' n' c') := ⟨_, rfl⟩
    rw [← hv31] at Q31 R31 X31 C31 G31 I31 ⊢
    clear hv31 qc qf Q30 R30 X30 C30 G30 o30
    obtain ⟨x0, x1, x2, x3, x4, x5⟩ := X31.six
    obtain ⟨q0, q1, q2, q3, q4, q5⟩ := Q31.six
    obtain ⟨y0, y1, y2, y3, y4, y5⟩ := R31.six
    have fy := R31.fro
    have OI : OwnI v31 w.heap.size (.slice a' n' c') ws := I31
    have OB : OwnB v31 w.heap.size (.slice none 0 0) [] := (ownB_nil _ _)
    have HH : Hid (OwnI v31 w.heap.size (.slice a' n' c') ws ∧ OwnB v31 w.heap.size (.slice none 0 0) [] ∧ Cur w0 a cap zs v31 g ∧ w.grownBy v31 (some g) ∧ Blk v31 (w.heap.size + 1) 48 #[.int .i64 0, .int .i64 0, .int .i64 0, .int .i64 0, .slice none 0 0, .slice none 0 0]) := ⟨OI, OB, C31, G31, R31⟩
    clear OI OB C31 G31 R31 Q31 X31 x0 x1 x2 x3 x4 x5 I31
    go_wp2
    refine bodyPost_ret (v := rp (6) (0) (pl) (0) a' none n' 0 c' 0) (by simp [results, Try.results53, go_sem, y0, y1, y2, y3, y4, y5]) rfl ?_
    obtain ⟨OI, OB, CE, GE, RE⟩ := HH.out
    have hgR : g ≠ w.heap.size + 1 := by have := HGR.out; omega
    have hwR : w0.heap.size ≤ w.heap.size + 1 := by have := HGR.out; omega
    exact ⟨_, _, _, _, _, _, _, _, _, _, ws, [], rfl, HNN.out, rfl, by first | omega | (have := HM.out; omega) | (have := HE.out; have := HNN.out; omega) | (have := HE.out; omega), by first | omega | (have := HM.out; omega) | (have := HE.out; have := HNN.out; omega) | (have := HE.out; omega), rowp_set6 OI ⟨_, RE⟩ (by decide), rowp_set6 OB ⟨_, RE⟩ (by decide), st6_cur CE hgR hwR, st6_grown GE (by omega), ⟨by first | omega | (have := HE.out; omega), by first | omega | (have := HE.out; omega), by first | omega | (have := HE.out; omega), by first | omega | (have := HE.out; omega)⟩⟩
  by_cases hk22 : kd = 22
  case pos =>
    subst hk22
    obtain ⟨u3, hu3⟩ : ∃ u3, u3 = u1.alloc (.cells #[.int .i64 22, .int .i64 0, .int .i64 0, .int .i64 0, .slice none 0 0, .slice none 0 0] 48) := ⟨_, rfl⟩
    have HU : Hid (u3 = _) := hu3
    obtain ⟨B, hB⟩ : ∃ B, B = u1.heap.size := ⟨_, rfl⟩
    have HBe : Hid (B = u1.heap.size) := hB
    have HB : Hid (w.heap.size + 1 < B) := by show w.heap.size + 1 < B; have := R1.lt; omega
    have C4 : Cur w0 a cap zs u3 g := by rw [hu3]; exact C1.alloc _
    have G4 : w.grownBy u3 (some g) := by rw [hu3]; exact grown_trans G1 (World.grownBy_alloc _ _ _)
    have X4 : Blk u3 w.heap.size 46 #[.int .i64 22, .int .i64 pl, .int .i64 nn, .slice a1 l1 c1, .slice a2 l2 c2, .int .i64 wa] := by rw [hu3]; exact X1.below (bel_alloc _ _)
    have R4 : Blk u3 (w.heap.size + 1) 48 #[.int .i64 0, .int .i64 0, .int .i64 0, .int .i64 0, .slice none 0 0, .slice none 0 0] := by rw [hu3]; exact R1.below (bel_alloc _ _)
    have Q4 : Blk u3 B 48 #[.int .i64 22, .int .i64 0, .int .i64 0, .int .i64 0, .slice none 0 0, .slice none 0 0] := by rw [hu3, hB]; exact Blk.new _ _ _
    clear hu3 hB
    go_upto_region 4 with fail
    rw [← HU.out]
    simp only [← HBe.out]
    clear C1 G1 X1 R1 x0 x1 x2 x3 x4 x5
    obtain ⟨x0, x1, x2, x3, x4, x5⟩ := X4.six
    have qc := Q4.cell 2 rfl
    have qf := Q4.fro 2
    have Q5 := Q4.set 2 (.int .i64 pl)
    have R5 := R4.setNe (g' := B) (j := 2) (y := .int .i64 pl) (by have := HB.out; omega)
    have X5 := X4.setNe (g' := B) (j := 2) (y := .int .i64 pl) (by have := HB.out; omega)
    have C5 := C4.setHi (G := B) (j := 2) (y := .int .i64 pl) (by have := HB.out; have := HGR.out; omega) (by have := HB.out; have := HGR.out; omega)
    have G5 := grown_setHi (G := B) (j := 2) (y := .int .i64 pl) G4 (by have := HB.out; omega)
    go_upto_region 22 with fail
    obtain ⟨v5, hv5⟩ : ∃ v5, v5 = u3.setCell ⟨B, 2, none⟩ (.int .i64 pl) := ⟨_, rfl⟩
    rw [← hv5] at Q5 R5 X5 C5 G5 ⊢
    clear hv5 qc qf Q4 R4 X4 C4 G4 
    clear x0 x1 x2 x3 x4 x5
    obtain ⟨x0, x1, x2, x3, x4, x5⟩ := X5.six
    have oL := newI v5 w.heap.size G5.size
    have q := bel_alloc v5 (.cells #[] 3)
    have Q20 := Q5.below q
    have R20 := R5.below q
    have X20 := X5.below q
    have C20 := C5.alloc (.cells #[] 3)
    have G20 : w.grownBy (v5.alloc (.cells #[] 3)) (some g) := grown_trans G5 (World.grownBy_alloc _ _ _)
    have oQ : OwnI (v5.alloc (.cells #[] 3)) base (.slice a1 l1 c1) ws := World.ownsRow.kept HS.out.1 G20 (row_ne_g HS.out.1 HS.out.2.2)
    have SQ := hide oQ.sl.2
    have HLQ : Hid (l1 = ws.length ∧ ([] : List Int).length + ws.length ≤ 4000000) := by show _ ∧ _; have := HE.out; simp; omega
    have qc := Q20.cell 4 rfl
    have qf := Q20.fro 4
    clear oQ q
    obtain ⟨m0, m1, m2, m3, m4, m5⟩ := X20.six
    have hnX : ¬ w.heap.size = v5.heap.size := by have := X5.lt; omega
    have hnB : ¬ B = v5.heap.size := by have := Q5.lt; omega
    go_upto_region 26 with (at_builtin; refine wpList_appIO rfl (.tmp 69) (.tmp 71) rfl w.heap.size (.slice (some ⟨v5.heap.size, 0, none⟩) 0 0) [] rfl oL a1 l1 c1 ws rfl HLQ.out.1 SQ.out HLQ.out.2 G20.size ?_; intro v' w' o30 gq; rw [List.nil_append] at o30; have Q30 := Q20.grown gq (row_noBlk oL Q20 (by decide)); have R30 := R20.grown gq (row_noBlk oL R20 (by decide)); have X30 := X20.grown gq (row_noBlk oL X20 (by decide)); have C30 := C20.rowG oL gq HGR.out.1; have G30 := grown_rowG G20 oL gq; obtain ⟨a', c', n', rfl, hn'⟩ := ownI_shape o30; have HNN : Hid (n' = ws.length) := hn'; clear hn' gq oL Q20 R20 X20 C20 G20 qc qf SQ x0 x1 x2 x3 x4 x5 m0 m1 m2 m3 m4 m5 hnX hnB; have qc := Q30.cell 4 rfl; have qf := Q30.fro 4)
    have Q31 := Q30.set 4 (.slice a' n' c')
    have R31 := R30.setNe (g' := B) (j := 4) (y := .slice a' n' c') (by have := HB.out; omega)
    have X31 := X30.setNe (g' := B) (j := 4) (y := .slice a' n' c') (by have := HB.out; omega)
    have C31 := C30.setHi (G := B) (j := 4) (y := .slice a' n' c') (by have := HB.out; have := HGR.out; omega) (by have := HB.out; have := HGR.out; omega)
    have G31 := grown_setHi (G := B) (j := 4) (y := .slice a' n' c') G30 (by have := HB.out; omega)
    have I31 := row_setE (j := 4) (y := .slice a' n' c') o30 ⟨_, Q30⟩ (by decide)
    obtain ⟨v31, hv31⟩ : ∃ v31, v31 = w'.setCell ⟨B, 4, none⟩ (.slice a' n' c') := ⟨_, rfl⟩
    rw [← hv31] at Q31 R31 X31 C31 G31 I31 ⊢
    clear hv31 qc qf Q30 R30 X30 C30 G30 o30
    obtain ⟨x0, x1, x2, x3, x4, x5⟩ := X31.six
    obtain ⟨q0, q1, q2, q3, q4, q5⟩ := Q31.six
    obtain ⟨y0, y1, y2, y3, y4, y5⟩ := R31.six
    have fy := R31.fro
    have OI : OwnI v31 w.heap.size (.slice a' n' c') ws := I31
    have OB : OwnB v31 w.heap.size (.slice none 0 0) [] := (ownB_nil _ _)
    have HH : Hid (OwnI v31 w.heap.size (.slice a' n' c') ws ∧ OwnB v31 w.heap.size (.slice none 0 0) [] ∧ Cur w0 a cap zs v31 g ∧ w.grownBy v31 (some g) ∧ Blk v31 (w.heap.size + 1) 48 #[.int .i64 0, .int .i64 0, .int .i64 0, .int .i64 0, .slice none 0 0, .slice none 0 0]) := ⟨OI, OB, C31, G31, R31⟩
    clear OI OB C31 G31 R31 Q31 X31 x0 x1 x2 x3 x4 x5 I31
    go_wp2
    refine bodyPost_ret (v := rp (22) (0) (pl) (0) a' none n' 0 c' 0) (by simp [results, Try.results53, go_sem, y0, y1, y2, y3, y4, y5]) rfl ?_
    obtain ⟨OI, OB, CE, GE, RE⟩ := HH.out
    have hgR : g ≠ w.heap.size + 1 := by have := HGR.out; omega
    have hwR : w0.heap.size ≤ w.heap.size + 1 := by have := HGR.out; omega
    exact ⟨_, _, _, _, _, _, _, _, _, _, ws, [], rfl, HNN.out, rfl, by first | omega | (have := HM.out; omega) | (have := HE.out; have := HNN.out; omega) | (have := HE.out; omega), by first | omega | (have := HM.out; omega) | (have := HE.out; have := HNN.out; omega) | (have := HE.out; omega), rowp_set6 OI ⟨_, RE⟩ (by decide), rowp_set6 OB ⟨_, RE⟩ (by decide), st6_cur CE hgR hwR, st6_grown GE (by omega), ⟨by first | omega | (have := HE.out; omega), by first | omega | (have := HE.out; omega), by first | omega | (have := HE.out; omega), by first | omega | (have := HE.out; omega)⟩⟩
  by_cases hk15 : kd = 15
  case pos =>
    subst hk15
    obtain ⟨u3, hu3⟩ : ∃ u3, u3 = u1.alloc (.cells #[.int .i64 15, .int .i64 0, .int .i64 0, .int .i64 0, .slice none 0 0, .slice none 0 0] 48) := ⟨_, rfl⟩
    have HU : Hid (u3 = _) := hu3
    obtain ⟨B, hB⟩ : ∃ B, B = u1.heap.size := ⟨_, rfl⟩
    have HBe : Hid (B = u1.heap.size) := hB
    have HB : Hid (w.heap.size + 1 < B) := by show w.heap.size + 1 < B; have := R1.lt; omega
    have C4 : Cur w0 a cap zs u3 g := by rw [hu3]; exact C1.alloc _
    have G4 : w.grownBy u3 (some g) := by rw [hu3]; exact grown_trans G1 (World.grownBy_alloc _ _ _)
    have X4 : Blk u3 w.heap.size 46 #[.int .i64 15, .int .i64 pl, .int .i64 nn, .slice a1 l1 c1, .slice a2 l2 c2, .int .i64 wa] := by rw [hu3]; exact X1.below (bel_alloc _ _)
    have R4 : Blk u3 (w.heap.size + 1) 48 #[.int .i64 0, .int .i64 0, .int .i64 0, .int .i64 0, .slice none 0 0, .slice none 0 0] := by rw [hu3]; exact R1.below (bel_alloc _ _)
    have Q4 : Blk u3 B 48 #[.int .i64 15, .int .i64 0, .int .i64 0, .int .i64 0, .slice none 0 0, .slice none 0 0] := by rw [hu3, hB]; exact Blk.new _ _ _
    clear hu3 hB
    go_upto_region 4 with fail
    rw [← HU.out]
    simp only [← HBe.out]
    clear C1 G1 X1 R1 x0 x1 x2 x3 x4 x5
    obtain ⟨x0, x1, x2, x3, x4, x5⟩ := X4.six
    have qc := Q4.cell 2 rfl
    have qf := Q4.fro 2
    have Q5 := Q4.set 2 (.int .i64 pl)
    have R5 := R4.setNe (g' := B) (j := 2) (y := .int .i64 pl) (by have := HB.out; omega)
    have X5 := X4.setNe (g' := B) (j := 2) (y := .int .i64 pl) (by have := HB.out; omega)
    have C5 := C4.setHi (G := B) (j := 2) (y := .int .i64 pl) (by have := HB.out; have := HGR.out; omega) (by have := HB.out; have := HGR.out; omega)
    have G5 := grown_setHi (G := B) (j := 2) (y := .int .i64 pl) G4 (by have := HB.out; omega)
    go_upto_region 25 with fail
    obtain ⟨v5, hv5⟩ : ∃ v5, v5 = u3.setCell ⟨B, 2, none⟩ (.int .i64 pl) := ⟨_, rfl⟩
    rw [← hv5] at Q5 R5 X5 C5 G5 ⊢
    clear hv5 qc qf Q4 R4 X4 C4 G4 
    clear x0 x1 x2 x3 x4 x5
    obtain ⟨x0, x1, x2, x3, x4, x5⟩ := X5.six
    have qc := Q5.cell 3 rfl
    have qf := Q5.fro 3
    have Q6 := Q5.set 3 (.int .i64 (l2 : Int))
    have R6 := R5.setNe (g' := B) (j := 3) (y := .int .i64 (l2 : Int)) (by have := HB.out; omega)
    have X6 := X5.setNe (g' := B) (j := 3) (y := .int .i64 (l2 : Int)) (by have := HB.out; omega)
    have C6 := C5.setHi (G := B) (j := 3) (y := .int .i64 (l2 : Int)) (by have := HB.out; have := HGR.out; omega) (by have := HB.out; have := HGR.out; omega)
    have G6 := grown_setHi (G := B) (j := 3) (y := .int .i64 (l2 : Int)) G5 (by have := HB.out; omega)
    go_upto_region 26 with fail
    obtain ⟨v6, hv6⟩ : ∃ v6, v6 = v5.setCell ⟨B, 3, none⟩ (.int .i64 (l2 : Int)) := ⟨_, rfl⟩
    rw [← hv6] at Q6 R6 X6 C6 G6 ⊢
    clear hv6 qc qf Q5 R5 X5 C5 G5 
    clear x0 x1 x2 x3 x4 x5
    obtain ⟨x0, x1, x2, x3, x4, x5⟩ := X6.six
    obtain ⟨q0, q1, q2, q3, q4, q5⟩ := Q6.six
    obtain ⟨y0, y1, y2, y3, y4, y5⟩ := R6.six
    have fy := R6.fro
    have OI : OwnI v6 w.heap.size (.slice none 0 0) [] := (ownI_nil _ _)
    have OB : OwnB v6 w.heap.size (.slice none 0 0) [] := (ownB_nil _ _)
    have HH : Hid (OwnI v6 w.heap.size (.slice none 0 0) [] ∧ OwnB v6 w.heap.size (.slice none 0 0) [] ∧ Cur w0 a cap zs v6 g ∧ w.grownBy v6 (some g) ∧ Blk v6 (w.heap.size + 1) 48 #[.int .i64 0, .int .i64 0, .int .i64 0, .int .i64 0, .slice none 0 0, .slice none 0 0]) := ⟨OI, OB, C6, G6, R6⟩
    clear OI OB C6 G6 R6 Q6 X6 x0 x1 x2 x3 x4 x5 
    go_wp2
    refine bodyPost_ret (v := rp (15) (0) (pl) ((l2 : Int)) none none 0 0 0 0) (by simp [results, Try.results53, go_sem, y0, y1, y2, y3, y4, y5]) rfl ?_
    obtain ⟨OI, OB, CE, GE, RE⟩ := HH.out
    have hgR : g ≠ w.heap.size + 1 := by have := HGR.out; omega
    have hwR : w0.heap.size ≤ w.heap.size + 1 := by have := HGR.out; omega
    exact ⟨_, _, _, _, _, _, _, _, _, _, [], [], rfl, rfl, rfl, by first | omega | (have := HM.out; omega) | (have := HE.out; have := HNN.out; omega) | (have := HE.out; omega), by first | omega | (have := HM.out; omega) | (have := HE.out; have := HNN.out; omega) | (have := HE.out; omega), rowp_set6 OI ⟨_, RE⟩ (by decide), rowp_set6 OB ⟨_, RE⟩ (by decide), st6_cur CE hgR hwR, st6_grown GE (by omega), ⟨by first | omega | (have := HE.out; omega), by first | omega | (have := HE.out; omega), by first | omega | (have := HE.out; omega), by first | omega | (have := HE.out; omega)⟩⟩
  have hb1 : (kd == 1) = false := by simpa using hk1
  have hb2 : (kd == 2) = false := by simpa using hk2
  have hb3 : (kd == 3) = false := by simpa using hk3
  have hb4 : (kd == 4) = false := by simpa using hk4
  have hb23 : (kd == 23) = false := by simpa using hk23
  have hb5 : (kd == 5) = false := by simpa using hk5
  have hb6 : (kd == 6) = false := by simpa using hk6
  have hb22 : (kd == 22) = false := by simpa using hk22
  have hb15 : (kd == 15) = false := by simpa using hk15
  obtain ⟨u3, hu3⟩ : ∃ u3, u3 = u1.alloc (.cells #[.int .i64 kd, .int .i64 0, .int .i64 0, .int .i64 0, .slice none 0 0, .slice none 0 0] 48) := ⟨_, rfl⟩
  have HU : Hid (u3 = _) := hu3
  obtain ⟨B, hB⟩ : ∃ B, B = u1.heap.size := ⟨_, rfl⟩
  have HBe : Hid (B = u1.heap.size) := hB
  have HB : Hid (w.heap.size + 1 < B) := by show w.heap.size + 1 < B; have := R1.lt; omega
  have C4 : Cur w0 a cap zs u3 g := by rw [hu3]; exact C1.alloc _
  have G4 : w.grownBy u3 (some g) := by rw [hu3]; exact grown_trans G1 (World.grownBy_alloc _ _ _)
  have X4 : Blk u3 w.heap.size 46 #[.int .i64 kd, .int .i64 pl, .int .i64 nn, .slice a1 l1 c1, .slice a2 l2 c2, .int .i64 wa] := by rw [hu3]; exact X1.below (bel_alloc _ _)
  have R4 : Blk u3 (w.heap.size + 1) 48 #[.int .i64 0, .int .i64 0, .int .i64 0, .int .i64 0, .slice none 0 0, .slice none 0 0] := by rw [hu3]; exact R1.below (bel_alloc _ _)
  have Q4 : Blk u3 B 48 #[.int .i64 kd, .int .i64 0, .int .i64 0, .int .i64 0, .slice none 0 0, .slice none 0 0] := by rw [hu3, hB]; exact Blk.new _ _ _
  clear hu3 hB
  go_upto_region 4 with fail
  rw [← HU.out]
  simp only [← HBe.out]
  clear C1 G1 X1 R1 x0 x1 x2 x3 x4 x5
  obtain ⟨x0, x1, x2, x3, x4, x5⟩ := X4.six
  have qc := Q4.cell 2 rfl
  have qf := Q4.fro 2
  have Q5 := Q4.set 2 (.int .i64 pl)
  have R5 := R4.setNe (g' := B) (j := 2) (y := .int .i64 pl) (by have := HB.out; omega)
  have X5 := X4.setNe (g' := B) (j := 2) (y := .int .i64 pl) (by have := HB.out; omega)
  have C5 := C4.setHi (G := B) (j := 2) (y := .int .i64 pl) (by have := HB.out; have := HGR.out; omega) (by have := HB.out; have := HGR.out; omega)
  have G5 := grown_setHi (G := B) (j := 2) (y := .int .i64 pl) G4 (by have := HB.out; omega)
  go_upto_region 6 with fail
  obtain ⟨v5, hv5⟩ : ∃ v5, v5 = u3.setCell ⟨B, 2, none⟩ (.int .i64 pl) := ⟨_, rfl⟩
  rw [← hv5] at Q5 R5 X5 C5 G5 ⊢
  clear hv5 qc qf Q4 R4 X4 C4 G4 
  clear x0 x1 x2 x3 x4 x5
  obtain ⟨x0, x1, x2, x3, x4, x5⟩ := X5.six
  have qc := Q5.cell 3 rfl
  have qf := Q5.fro 3
  have Q6 := Q5.set 3 (.int .i64 (l1 : Int))
  have R6 := R5.setNe (g' := B) (j := 3) (y := .int .i64 (l1 : Int)) (by have := HB.out; omega)
  have X6 := X5.setNe (g' := B) (j := 3) (y := .int .i64 (l1 : Int)) (by have := HB.out; omega)
  have C6 := C5.setHi (G := B) (j := 3) (y := .int .i64 (l1 : Int)) (by have := HB.out; have := HGR.out; omega) (by have := HB.out; have := HGR.out; omega)
  have G6 := grown_setHi (G := B) (j := 3) (y := .int .i64 (l1 : Int)) G5 (by have := HB.out; omega)
  go_upto_region 26 with fail
  obtain ⟨v6, hv6⟩ : ∃ v6, v6 = v5.setCell ⟨B, 3, none⟩ (.int .i64 (l1 : Int)) := ⟨_, rfl⟩
  rw [← hv6] at Q6 R6 X6 C6 G6 ⊢
  clear hv6 qc qf Q5 R5 X5 C5 G5 
  clear x0 x1 x2 x3 x4 x5
  obtain ⟨x0, x1, x2, x3, x4, x5⟩ := X6.six
  obtain ⟨q0, q1, q2, q3, q4, q5⟩ := Q6.six
  obtain ⟨y0, y1, y2, y3, y4, y5⟩ := R6.six
  have fy := R6.fro
  have OI : OwnI v6 w.heap.size (.slice none 0 0) [] := (ownI_nil _ _)
  have OB : OwnB v6 w.heap.size (.slice none 0 0) [] := (ownB_nil _ _)
  have HH : Hid (OwnI v6 w.heap.size (.slice none 0 0) [] ∧ OwnB v6 w.heap.size (.slice none 0 0) [] ∧ Cur w0 a cap zs v6 g ∧ w.grownBy v6 (some g) ∧ Blk v6 (w.heap.size + 1) 48 #[.int .i64 0, .int .i64 0, .int .i64 0, .int .i64 0, .slice none 0 0, .slice none 0 0]) := ⟨OI, OB, C6, G6, R6⟩
  clear OI OB C6 G6 R6 Q6 X6 x0 x1 x2 x3 x4 x5 
  go_wp2
  refine bodyPost_ret (v := rp (kd) (0) (pl) ((l1 : Int)) none none 0 0 0 0) (by simp [results, Try.results53, go_sem, y0, y1, y2, y3, y4, y5]) rfl ?_
  obtain ⟨OI, OB, CE, GE, RE⟩ := HH.out
  have hgR : g ≠ w.heap.size + 1 := by have := HGR.out; omega
  have hwR : w0.heap.size ≤ w.heap.size + 1 := by have := HGR.out; omega
  exact ⟨_, _, _, _, _, _, _, _, _, _, [], [], rfl, rfl, rfl, by first | omega | (have := HM.out; omega) | (have := HE.out; have := HNN.out; omega) | (have := HE.out; omega), by first | omega | (have := HM.out; omega) | (have := HE.out; have := HNN.out; omega) | (have := HE.out; omega), rowp_set6 OI ⟨_, RE⟩ (by decide), rowp_set6 OB ⟨_, RE⟩ (by decide), st6_cur CE hgR hwR, st6_grown GE (by omega), ⟨by first | omega | (have := HE.out; omega), by first | omega | (have := HE.out; omega), by first | omega | (have := HE.out; omega), by first | omega | (have := HE.out; omega)⟩⟩

end Go.Proofs.Ytcnbbknmofonkaa
