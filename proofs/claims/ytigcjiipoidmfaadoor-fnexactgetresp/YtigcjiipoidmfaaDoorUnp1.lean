/- UnpackBits of the model. -/
import Derived.Test.YtigcjiipoidmfaaDoorPack1
import Derived.Test.YtigcjiipoidmfaaDoorMarks2
import Derived.Test.YtigcjiipoidmfaaDoorSteps
namespace Go.Proofs.YtigcjiipoidmfaaDoor
open Go.RowKit

/-- Bit k of the bytes. -/
def ub (zs : List Int) (k : Nat) : Bool := zs.getD (k / 8) 0 / ((2 ^ (k % 8) : Nat) : Int) % 2 == 1

theorem and_one : ∀ y : Nat, y < 256 → bits .and .u8 (y : Int) 1 = (y : Int) % 2 := by decide +kernel

theorem pow_cast (k : Nat) : (2 : Int) ^ (k % 8) = ((2 ^ (k % 8) : Nat) : Int) := by simp

theorem ub_eq {zs : List Int} (hr : ∀ z ∈ zs, 0 ≤ z ∧ z ≤ 255) (k : Nat) : (bits BinOp.and IntKind.u8 (zs.getD (k / 8) 0 / 2 ^ (k % 8)) 1 == 1) = ub zs k := by
  have rg := get_range hr (k / 8)
  unfold ub
  rw [pow_cast]
  generalize zs.getD (k / 8) 0 = z at *
  obtain ⟨y, rfl⟩ := Int.eq_ofNat_of_zero_le rg.1
  have e : ((y : Int) / ((2 ^ (k % 8) : Nat) : Int)) = ((y / 2 ^ (k % 8) : Nat) : Int) := by simp
  have hle : y / 2 ^ (k % 8) < 256 := Nat.lt_of_le_of_lt (Nat.div_le_self _ _) (by omega)
  rw [e, and_one _ hle]

def ubs (zs : List Int) (x : Nat) : List Bool := (List.range x).map (ub zs)

theorem ubs_length (zs : List Int) (x : Nat) : (ubs zs x).length = x := by simp [ubs]

theorem ubs_succ (zs : List Int) (x : Nat) : ubs zs (x + 1) = ubs zs x ++ [ub zs x] := by simp [ubs, List.range_succ]

def okU (zs : List Int) (x : Int) : Bool := decide (0 ≤ x ∧ (zs.length : Int) = (x + 7) / 8 ∧ ∀ j, j < 8 * zs.length → x ≤ (j : Int) → ub zs j = false)

def outU (zs : List Int) (x : Int) : List Bool := if okU zs x = true then ubs zs x.toNat else []

/-- What UnpackBits ends with. -/
def UnEnds (zs : List Int) (x : Int) (w : World) (e : Ending) (w' : World) : Prop :=
  ∃ a c, e = .returned (.tuple #[.slice a (outU zs x).length c, .bool (okU zs x)]) ∧ OwnB w' w.heap.size (.slice a (outU zs x).length c) (outU zs x) ∧ Below w.heap.size w w'

theorem okU_no {zs : List Int} {x : Int} (h : ¬ (0 ≤ x ∧ (zs.length : Int) = (x + 7) / 8)) : okU zs x = false ∧ outU zs x = [] := by
  have e : okU zs x = false := by unfold okU; exact decide_eq_false (fun hh => h ⟨hh.1, hh.2.1⟩)
  exact ⟨e, by unfold outU; rw [if_neg (by simp [e])]⟩

theorem okU_bad {zs : List Int} {x : Int} (j : Nat) (h : j < 8 * zs.length) (hx : x ≤ (j : Int)) (hb : ub zs j = true) : okU zs x = false ∧ outU zs x = [] := by
  have e : okU zs x = false := by unfold okU; exact decide_eq_false (fun hh => by have := hh.2.2 j h hx; rw [hb] at this; cases this)
  exact ⟨e, by unfold outU; rw [if_neg (by simp [e])]⟩

theorem okU_yes {zs : List Int} {x : Nat} (h : (zs.length : Int) = ((x : Int) + 7) / 8) (hg : ∀ j, j < 8 * zs.length → x ≤ j → ub zs j = false) : okU zs (x : Int) = true ∧ outU zs (x : Int) = ubs zs x := by
  have e : okU zs (x : Int) = true := by unfold okU; exact decide_eq_true ⟨by omega, h, fun j h1 h2 => hg j h1 (by omega)⟩
  exact ⟨e, by unfold outU; rw [if_pos e]; simp⟩

theorem unEnds_no {zs : List Int} {x : Int} {w w' : World} {a : Option Addr} {c : Nat} (h : okU zs x = false ∧ outU zs x = []) (ho : OwnB w' w.heap.size (.slice a 0 c) []) (hb : Below w.heap.size w w') :
    UnEnds zs x w (.returned (.tuple #[.slice a 0 c, .bool false])) w' := by
  unfold UnEnds
  rw [h.1, h.2]
  exact ⟨a, c, rfl, ho, hb⟩

theorem OwnB.shape {w : World} {base : Nat} {v : Value} {zs : List Bool} (h : OwnB w base v zs) : ∃ a cap, v = .slice a zs.length cap := by
  obtain ⟨_, h2⟩ := h
  rcases h2 with ⟨h2, h3⟩ | ⟨g, cap', cur, hv, _⟩
  · exact ⟨none, 0, by rw [h3]; exact h2⟩
  · exact ⟨_, _, hv⟩

theorem unEnds_yes {zs : List Int} {x : Nat} {w w' : World} {v : Value} (h : okU zs (x : Int) = true ∧ outU zs (x : Int) = ubs zs x) (ho : OwnB w' w.heap.size v (ubs zs x)) (hb : Below w.heap.size w w') :
    UnEnds zs (x : Int) w (.returned (.tuple #[v, .bool true])) w' := by
  unfold UnEnds
  rw [h.1, h.2]
  obtain ⟨a, cap, rfl⟩ := ho.shape
  exact ⟨a, cap, rfl, ho, hb⟩

theorem ownB_empty {w wr : World} (hb : Below w.heap.size w wr) : OwnB (wr.alloc (.cells #[] 4)) w.heap.size (.slice (some ⟨wr.heap.size, 0, none⟩) 0 0) [] ∧ Below w.heap.size w (wr.alloc (.cells #[] 4)) :=
  ⟨World.ownsRow_lit (base := w.heap.size) (e := 4) (size := 1) wr #[] 0 hb.size (by unfold maxLen; omega) rfl, hb.alloc hb.size _⟩

theorem ownB_nil (w : World) (base : Nat) : OwnB w base (.slice none 0 0) [] := ⟨rfl, .inl ⟨rfl, rfl⟩⟩

set_option maxRecDepth 20000 in
set_option maxHeartbeats 2000000 in
theorem specUnpack_no (a : Option Addr) (n cap : Nat) (zs : List Int) (x : Int) (w : World) (hn : n = zs.length) (hl : n ≤ 2000000) (h : x < 0 ∨ 8 * (n : Int) < x ∨ x ≤ 8 * (n : Int) - 8) :
    Calls Tryd.prog 32 #[.slice a n cap, .int .i64 x] w fun e w' => UnEnds zs x w e w' := by
  have HK : Hid (okU zs x = false ∧ outU zs x = []) := okU_no (by rw [← hn]; omega)
  have R := ownB_empty (Below.refl w.heap.size w)
  clear hn
  by_cases h1 : x < 0
  · have e0 : (x == 0) = false := by simp; omega
    go_enter Tryd.func32, Tryd.ntmps32
    go_wp2
    go_ret2
    exact unEnds_no HK.out R.1 R.2
  · by_cases h2 : 8 * (n : Int) < x
    · have e0 : (x == 0) = false := by simp; omega
      go_enter Tryd.func32, Tryd.ntmps32
      go_wp2
      go_ret2
      exact unEnds_no HK.out R.1 R.2
    · have h3 : x ≤ 8 * (n : Int) - 8 := by omega
      have e1 : ((n : Int) == 0) = false := by simp; omega
      clear h
      by_cases hx0 : x = 0
      · subst hx0
        go_enter Tryd.func32, Tryd.ntmps32
        go_wp2
        go_ret2
        exact unEnds_no HK.out R.1 R.2
      · have e0 : (x == 0) = false := by simp; omega
        go_enter Tryd.func32, Tryd.ntmps32
        go_wp2
        go_ret2
        exact unEnds_no HK.out R.1 R.2

theorem one_cellB {w1 : World} {x : Bool} : ∀ j u, ([Value.bool x])[j]? = some u → (w1.alloc (.cells #[.bool x] 4)).cell? ((⟨w1.heap.size, 0, none⟩ : Addr).add j) = some u := by
  intro j u hu
  match j, hu with
  | 0, hu => simp at hu; subst hu; simp [Addr.add]
  | k + 1, hu => simp at hu

theorem one_oneB (x : Bool) : ∀ u ∈ [Value.bool x], u.oneCell' = true := by
  intro u hu; simp at hu; subst hu; rfl

theorem one_stepB {W wr w1 : World} {o1 : Obj} {v v' : Value} {hs hs' : List Bool} {x y : Bool} (e : hs' = hs ++ [y]) (exy : x = y) (ho : OwnB wr W.heap.size v hs) (hb : Below W.heap.size W wr)
    (h1 : w1.ownsRow W.heap.size 4 1 v' (hs.length + 1) (hs.map Value.bool ++ [Value.bool x])) (g1 : (wr.alloc o1).grownBy w1 v.ownBlock) : OwnB w1 W.heap.size v' hs' ∧ Below W.heap.size W w1 := by
  subst exy
  rw [e]
  refine ⟨by simpa [OwnB] using h1, ?_⟩
  exact (hb.alloc hb.size o1).grown g1 (by have := hb.size; simp; omega) (fun k hk => (World.ownsRow.lt ho k hk).1)

set_option maxRecDepth 20000 in
set_option maxHeartbeats 4000000 in
theorem specUnpack_go (a : Option Addr) (n cap : Nat) (zs : List Int) (x : Nat) (w : World) (hn : n = zs.length) (hs : Sl w a zs) (hr : ∀ z ∈ zs, 0 ≤ z ∧ z ≤ 255) (hl : n ≤ 2000000) (h1 : x ≤ 8 * n) (h2 : 8 * n < x + 8) :
    Calls Tryd.prog 32 #[.slice a n cap, .int .i64 (x : Int)] w fun e w' => UnEnds zs (x : Int) w e w' := by
  have g1 : ¬ (8 * (n : Int) < (x : Int)) := by omega
  have g2 : ¬ ((x : Int) ≤ 8 * (n : Int) - 8) := by omega
  have oe := ownB_empty (Below.refl w.heap.size w)
  obtain ⟨i0, hi, hz0, hz1, hz2⟩ := info_parts Tryd.info4
  have HN : Hid (n = zs.length) := hn
  clear hn
  go_enter Tryd.func32, Tryd.ntmps32
  go_wp2
  go_loopw [6, 7] (fun v i wr => ∃ k : Nat, k ≤ 8 * n ∧ i = .int .i64 k ∧ OwnB wr w.heap.size v (ubs zs (min k x)) ∧ Below w.heap.size w wr ∧ ∀ j, j < k → x ≤ j → ub zs j = false) (fun _ i _ => 8 * n - (intOf i).toNat)
  case atStart => exact ⟨0, Nat.zero_le _, rfl, by simpa [ubs] using oe.1, oe.2, fun j hj => absurd hj (Nat.not_lt_zero _)⟩
  case round =>
    obtain ⟨k, hk, rfl, ho, hb, hg⟩ := hrel
    clear oe
    by_cases hlt : k < 8 * n
    · obtain ⟨b, off, rfl, hb0, hc0⟩ := cell_at hs (k := k / 8) (by have := HN.out; omega)
      have hc : wr.cell? ⟨b, off + k / 8, none⟩ = some (.int .u8 (zs.getD (k / 8) 0)) := by rw [hb.cell (p := ⟨b, off + k / 8, none⟩) hb0]; exact hc0
      have hi' : (k : Int) < 8 * (n : Int) := by omega
      have hi2 : (k : Int) / 8 < (n : Int) := by omega
      have hub : Hid ((bits BinOp.and IntKind.u8 (zs.getD (k / 8) 0 / 2 ^ (k % 8)) 1 == 1) = ub zs k) := ub_eq hr k
      have rg := get_range hr (k / 8)
      generalize zs.getD (k / 8) 0 = z at *
      have HS : Hid (Sl w (some ⟨b, off, none⟩) zs) := hs
      clear hs hc0 hr
      by_cases hx : k < x
      · have hx' : (k : Int) < (x : Int) := by omega
        obtain ⟨t, ht⟩ : ∃ t, t = ub zs k := ⟨_, rfl⟩
        have HT : Hid (t = ub zs k) := ht
        have hbit : (bits BinOp.and IntKind.u8 (z / 2 ^ (k % 8)) 1 == 1) = t := by rw [hub.out, ht]
        have hmin : min k x = k := by omega
        rw [hmin] at ho
        have hm1 : (ubs zs k).length + 1 ≤ maxLen := by rw [ubs_length]; unfold maxLen; omega
        have hm2 : ((ubs zs k).length + 1) * 1 ≤ 140737488355328 := by rw [ubs_length]; omega
        have HG : Hid (∀ j, j < k → x ≤ j → ub zs j = false) := hg
        clear hg ht hmin
        go_wp2_with (at_builtin; refine wpList_append_own _ rfl (.tmp 56) (.tmp 58) 25 rfl w.heap.size 4 i0 (.bool false) 1 1 Tryd.underlying25 hi hz0 hz1 hz2 rfl (by decide) u6 (ubs zs k).length ((ubs zs k).map Value.bool) rfl (ho.alloc _) ⟨wr.heap.size, 0, none⟩ 1 1 [.bool t] rfl (by simp) one_cellB (one_oneB _) hm1 hm2 (by have := hb.size; simp; omega) ?_; intro v' w1 o1 g1 _; have R := one_stepB (ubs_succ zs k) HT.out ho hb o1 g1; clear ho hb o1 g1)
        go_roundw
        case rel =>
          refine ⟨k + 1, by omega, by go_num, ?_, R.2, fun j hj hj2 => HG.out j (by omega) hj2⟩
          have e : min (k + 1) x = k + 1 := by omega
          rw [e]; exact R.1
        case measure => simp [intOf]; omega
      · have hx' : ¬ ((k : Int) < (x : Int)) := by omega
        by_cases hu : ub zs k = true
        · have hbit : (bits BinOp.and IntKind.u8 (z / 2 ^ (k % 8)) 1 == 1) = true := by rw [hub.out, hu]
          have HK : Hid (okU zs (x : Int) = false ∧ outU zs (x : Int) = []) := okU_bad k (by rw [← HN.out]; exact hlt) (by omega) hu
          have R := ownB_empty hb
          clear hg ho hb hu
          go_wp2
          go_ret2
          exact unEnds_no HK.out R.1 R.2
        · have hu' : ub zs k = false := by simpa using hu
          have hbit : (bits BinOp.and IntKind.u8 (z / 2 ^ (k % 8)) 1 == 1) = false := by rw [hub.out, hu']
          have e : min k x = min (k + 1) x := by omega
          rw [e] at ho
          have HR : Hid (OwnB wr w.heap.size u6 (ubs zs (min (k + 1) x)) ∧ Below w.heap.size w wr ∧ ∀ j, j < k + 1 → x ≤ j → ub zs j = false) := ⟨ho, hb, fun j hj hj2 => by
            by_cases ej : j = k
            · subst ej; exact hu'
            · exact hg j (by omega) hj2⟩
          clear ho hb hg hu hu' e
          go_wp2
          go_roundw
          case rel => exact ⟨k + 1, by omega, by go_num, HR.out⟩
          case measure => simp [intOf]; omega
    · obtain rfl : k = 8 * n := by omega
      have e : min (8 * n) x = x := by omega
      rw [e] at ho
      have HY : Hid (okU zs (x : Int) = true ∧ outU zs (x : Int) = ubs zs x) := okU_yes (by rw [← HN.out]; omega) (fun j hj hj2 => hg j (by rw [HN.out]; exact hj) hj2)
      have HO : Hid (OwnB wr w.heap.size u6 (ubs zs x)) := ho
      clear hg ho hs hr e
      go_wp2
      go_ret2
      exact unEnds_yes HY.out HO.out hb

theorem specUnpack_any (a : Option Addr) (n cap : Nat) (zs : List Int) (x : Int) (w : World) (hn : n = zs.length) (hs : Sl w a zs) (hr : ∀ z ∈ zs, 0 ≤ z ∧ z ≤ 255) (hl : n ≤ 2000000) :
    Calls Tryd.prog 32 #[.slice a n cap, .int .i64 x] w fun e w' => UnEnds zs x w e w' := by
  by_cases h : x < 0 ∨ 8 * (n : Int) < x ∨ x ≤ 8 * (n : Int) - 8
  · exact specUnpack_no a n cap zs x w hn hl h
  · obtain ⟨k, rfl⟩ := Int.eq_ofNat_of_zero_le (a := x) (by omega)
    exact specUnpack_go a n cap zs k w hn hs hr hl (by omega) (by omega)

end Go.Proofs.YtigcjiipoidmfaaDoor
