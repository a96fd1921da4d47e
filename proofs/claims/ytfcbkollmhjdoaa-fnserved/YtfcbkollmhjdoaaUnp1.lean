/- UnpackBits of the model. -/
import Derived.Test.YtfcbkollmhjdoaaPack1
import Derived.Test.YtfcbkollmhjdoaaMarks2
import Derived.Test.YtfcbkollmhjdoaaSteps
namespace Go.Proofs.Ytfcbkollmhjdoaa
open Go.RowKit

/-- Bit k of the bytes. -/
def ub (zs : List Int) (k : Nat) : Bool := zs.getD (k / 8) 0 / ((2 ^ (k % 8) : Nat) : Int) % 2 == 1

theorem and_one : ∀ y : Nat, y < 256 → bits .and .u8 (y : Int) 1 = (y : Int) % 2 := by decide +kernel

theorem pow_cast (k : Nat) : (2 : Int) ^ (k % 8) = ((2 ^ (k % 8) : Nat) : Int) := by simp

theorem ub_eq {zs : List Int} (hr : ∀ z ∈ zs, 0 ≤ z ∧ z ≤ 255) (k : Nat) : (bits BinOp.and IntKind.u8 (zs.getD (k / 8) 0 / 2 ^ (k % 8)) 1 == 1) = ub zs k := by
  have rg := get_range hr (k / 8)
  unfold ub
  rw [pow_cast]
  generalize zs.getD (k / 8) 0 = z at *
  obtain ⟨y, rfl⟩ := Int.eq_ofNat_of_zero_le rg.1
  have e : ((y : Int) / ((2 ^ (k % 8) : Nat) : Int)) = ((y / 2 ^ (k % 8) : Nat) : Int) := by simp
  have hle : y / 2 ^ (k % 8) < 256 := Nat.lt_of_le_of_lt (Nat.div_le_self _ _) (by omega)
  rw [e, and_one _ hle]

def ubs (zs : List Int) (x : Nat) : List Bool := (List.range x).map (ub zs)

theorem ubs_length (zs : List Int) (x : Nat) : (ubs zs x).length = x := by simp [ubs]

theorem ubs_succ (zs : List Int) (x : Nat) : ubs zs (x + 1) = ubs zs x ++ [ub zs x] := by simp [ubs, List.range_succ]

def okU (zs : List Int) (x : Int) : Bool := decide (0 ≤ x ∧ (zs.length : Int) = (x + 7) / 8 ∧ ∀ j, j < 8 * zs.length → x ≤ (j : Int) → ub zs j = false)

def outU (zs : List Int) (x : Int) : List Bool := if okU zs x = true then ubs zs x.toNat else []

/-- What UnpackBits ends with. -/
def UnEnds (zs : List Int) (x : Int) (w : World) (e : Ending) (w' : World) : Prop :=
  ∃ a c, e = .returned (.tuple #[.slice a (outU zs x).length c, .bool (okU zs x)]) ∧ OwnB w' w.heap.size (.slice a (outU zs x).length c) (outU zs x) ∧ Below w.heap.size w w'

theorem okU_no {zs : List Int} {x : Int} (h : ¬ (0 ≤ x ∧ (zs.length : Int) = (x + 7) / 8)) : okU zs x = false ∧ outU zs x = [] := by
  have e : okU zs x = false := by unfold okU; exact decide_eq_false (fun hh => h ⟨hh.1, hh.2.1⟩)
  exact ⟨e, by unfold outU; rw [if_neg (by simp [e])]⟩

theorem okU_bad {zs : List Int} {x : Int} (j : Nat) (h : j < 8 * zs.length) (hx : x ≤ (j : Int)) (hb : ub zs j = true) : okU zs x = false ∧ outU zs x = [] := by
  have e : okU zs x = false := by unfold okU; exact decide_eq_false (fun hh => by have := hh.2.2 j h hx; rw [hb] at this; cases this)
  exact ⟨e, by unfold outU; rw [if_neg (by simp [e])]⟩

theorem okU_yes {zs : List Int} {x : Nat} (h : (zs.length : Int) = ((x : Int) + 7) / 8) (hg : ∀ j, j < 8 * zs.length → x ≤ j → ub zs j = false) : okU zs (x : Int) = true ∧ outU zs (x : Int) = ubs zs x := by
  have e : okU zs (x : Int) = true := by unfold okU; exact decide_eq_true ⟨by omega, h, fun j h1 h2 => hg j h1 (by omega)⟩
  exact ⟨e, by unfold outU; rw [if_pos e]; simp⟩

theorem unEnds_no {zs : List Int} {x : Int} {w w' : World} {a : Option Addr} {c : Nat} (h : okU zs x = false ∧ outU zs x = []) (ho : OwnB w' w.heap.size (.slice a 0 c) []) (hb : Below w.heap.size w w') :
    UnEnds zs x w (.returned (.tuple #[.slice a 0 c, .bool false])) w' := by
  unfold UnEnds
  rw [h.1, h.2]
  exact ⟨a, c, rfl, ho, hb⟩

theorem OwnB.shape {w : World} {base : Nat} {v : Value} {zs : List Bool} (h : OwnB w base v zs) : ∃ a cap, v = .slice a zs.length cap := by
  obtain ⟨_, h2⟩ := h
  rcases h2 with ⟨h2, h3⟩ | ⟨g, cap', cur, hv, _⟩
  · exact ⟨none, 0, by rw [h3]; exact h2⟩
  · exact ⟨_, _, hv⟩

theorem unEnds_yes {zs : List Int} {x : Nat} {w w' : World} {v : Value} (h : okU zs (x : Int) = true ∧ outU zs (x : Int) = ubs zs x) (ho : OwnB w' w.heap.size v (ubs zs x)) (hb : Below w.heap.size w w') :
    UnEnds zs (x : Int) w (.returned (.tuple #[v, .bool true])) w' := by
  unfold UnEnds
  rw [h.1, h.2]
  obtain ⟨a, cap, rfl⟩ := ho.shape
  exact ⟨a, cap, rfl, ho, hb⟩

theorem ownB_empty {w wr : World} (hb : Below w.heap.size w wr) : OwnB (wr.alloc (.cells #[] 4)) w.heap.size (.slice (some ⟨wr.heap.size, 0, none⟩) 0 0) [] ∧ Below w.heap.size w (wr.alloc (.cells #[] 4)) :=
  ⟨World.ownsRow_lit (base := w.heap.size) (e := 4) (size := 1) wr #[] 0 hb.size (by unfold maxLen; omega) rfl, hb.alloc hb.size _⟩

theorem ownB_nil (w : World) (base : Nat) : OwnB w base (.slice none 0 0) [] := ⟨rfl, .inl ⟨rfl, rfl⟩⟩

theorem one_cellB {w1 : World} {x : Bool} : ∀ j u, ([Value.bool x])[j]? = some u → (w1.alloc (.cells #[.bool x] 4)).cell? ((⟨w1.heap.size, 0, none⟩ : Addr).add j) = some u := by
  intro j u hu
  match j, hu with
  | 0, hu => simp at hu; subst hu; simp [Addr.add]
  | k + 1, hu => simp at hu

theorem one_oneB (x : Bool) : ∀ u ∈ [Value.bool x], u.oneCell' = true := by
  intro u hu; simp at hu; subst hu; rfl

theorem one_stepB {W wr w1 : World} {o1 : Obj} {v v' : Value} {hs hs' : List Bool} {x y : Bool} (e : hs' = hs ++ [y]) (exy : x = y) (ho : OwnB wr W.heap.size v hs) (hb : Below W.heap.size W wr)
    (h1 : w1.ownsRow W.heap.size 4 1 v' (hs.length + 1) (hs.map Value.bool ++ [Value.bool x])) (g1 : (wr.alloc o1).grownBy w1 v.ownBlock) : OwnB w1 W.heap.size v' hs' ∧ Below W.heap.size W w1 := by
  subst exy
  rw [e]
  refine ⟨by simpa [OwnB] using h1, ?_⟩
  exact (hb.alloc hb.size o1).grown g1 (by have := hb.size; simp; omega) (fun k hk => (World.ownsRow.lt ho k hk).1)

end Go.Proofs.Ytfcbkollmhjdoaa
