/- UnHex of the model, walked. -/
import Derived.Test.YtckmffhdngfchaaUnHex1
namespace Go.Proofs.Ytckmffhdngfchaa
open Go.RowKit

/-- The worth of the byte at j. -/
def D (s : ByteArray) (j : Nat) : Int := if h : j < s.size then dg (s[j]'h).toNat else -1

theorem D_at (s : ByteArray) (j : Nat) (h : j < s.size) : D s j = dg (s[j]'h).toNat := by unfold D; rw [dif_pos h]

theorem D_bd (s : ByteArray) (j : Nat) : -1 ≤ D s j ∧ D s j ≤ 15 := by
  unfold D
  split
  · exact dg_bd _
  · omega

def bytesTo (s : ByteArray) (k : Nat) : List Int := (List.range k).map (fun i : Nat => D s (2 * i) * 16 + D s (2 * i + 1))

theorem bytesTo_length (s : ByteArray) (k : Nat) : (bytesTo s k).length = k := by simp [bytesTo]

theorem bytesTo_succ (s : ByteArray) (k : Nat) : bytesTo s (k + 1) = bytesTo s k ++ [D s (2 * k) * 16 + D s (2 * k + 1)] := by simp [bytesTo, List.range_succ]

def okS (s : ByteArray) : Bool := s.size % 2 == 0 && (List.range s.size).all (fun j => decide (0 ≤ D s j))

def outS (s : ByteArray) : List Int := if okS s = true then bytesTo s (s.size / 2) else []

theorem okS_yes {s : ByteArray} (h : s.size % 2 = 0) (hg : ∀ j, j < s.size → 0 ≤ D s j) : okS s = true ∧ outS s = bytesTo s (s.size / 2) := by
  have e : okS s = true := by simp [okS, h]; exact hg
  exact ⟨e, by unfold outS; rw [if_pos e]⟩

theorem okS_odd {s : ByteArray} (h : s.size % 2 ≠ 0) : okS s = false ∧ outS s = [] := by
  have e : okS s = false := by simp [okS, h]
  exact ⟨e, by unfold outS; rw [if_neg (by simp [e])]⟩

theorem okS_bad {s : ByteArray} (j : Nat) (h : j < s.size) (hg : D s j < 0) : okS s = false ∧ outS s = [] := by
  have e : okS s = false := by
    cases hh : okS s with
    | false => rfl
    | true =>
      simp [okS] at hh
      have := hh.2 j h
      omega
  exact ⟨e, by unfold outS; rw [if_neg (by simp [e])]⟩

/-- What UnHex ends with. -/
def Ends (s : ByteArray) (w : World) (e : Ending) (w' : World) : Prop :=
  ∃ a c, e = .returned (.tuple #[.slice a (outS s).length c, .bool (okS s)]) ∧ Own w' w.heap.size (.slice a (outS s).length c) (outS s) ∧ Below w.heap.size w w'

theorem ends_no {s : ByteArray} {w w' : World} {a : Option Addr} {c : Nat} (h : okS s = false ∧ outS s = []) (ho : Own w' w.heap.size (.slice a 0 c) []) (hb : Below w.heap.size w w') :
    Ends s w (.returned (.tuple #[.slice a 0 c, .bool false])) w' := by
  unfold Ends
  rw [h.1, h.2]
  exact ⟨a, c, rfl, ho, hb⟩

theorem ends_yes {s : ByteArray} {w w' : World} {v : Value} (h : okS s = true ∧ outS s = bytesTo s (s.size / 2)) (ho : Own w' w.heap.size v (bytesTo s (s.size / 2))) (hb : Below w.heap.size w w') :
    Ends s w (.returned (.tuple #[v, .bool true])) w' := by
  unfold Ends
  rw [h.1, h.2]
  have hs : ∃ a cap, v = .slice a (bytesTo s (s.size / 2)).length cap := by
    obtain ⟨_, h2⟩ := ho
    rcases h2 with ⟨h2, h3⟩ | ⟨g, cap', cur, hv, _⟩
    · exact ⟨none, 0, by rw [h3]; exact h2⟩
    · exact ⟨_, _, hv⟩
  obtain ⟨a, cap, rfl⟩ := hs
  exact ⟨a, cap, rfl, ho, hb⟩

theorem own_empty {w wr : World} (hb : Below w.heap.size w wr) : Own (wr.alloc (.cells #[] 5)) w.heap.size (.slice (some ⟨wr.heap.size, 0, none⟩) 0 0) [] ∧ Below w.heap.size w (wr.alloc (.cells #[] 5)) :=
  ⟨World.ownsRow_lit (base := w.heap.size) (e := 5) (size := 1) wr #[] 0 hb.size (by unfold maxLen; omega) rfl, hb.alloc hb.size _⟩

theorem one_cell {w1 : World} {x : Int} : ∀ j u, ([Value.int .u8 x])[j]? = some u → (w1.alloc (.cells #[.int .u8 x] 5)).cell? ((⟨w1.heap.size, 0, none⟩ : Addr).add j) = some u := by
  intro j u hu
  match j, hu with
  | 0, hu => simp at hu; subst hu; simp [Addr.add]
  | k + 1, hu => simp at hu

theorem one_one (x : Int) : ∀ u ∈ [Value.int .u8 x], u.oneCell' = true := by
  intro u hu; simp at hu; subst hu; rfl

theorem one_step {W wr w1 : World} {o1 : Obj} {v v' : Value} {hs hs' : List Int} {x y : Int} (e : Hid (hs' = hs ++ [y])) (exy : x = y) (ho : Own wr W.heap.size v hs) (hb : Below W.heap.size W wr)
    (h1 : w1.ownsRow W.heap.size 5 1 v' (hs.length + 1) (hs.map (Value.int .u8) ++ [Value.int .u8 x])) (g1 : (wr.alloc o1).grownBy w1 v.ownBlock) : Own w1 W.heap.size v' hs' ∧ Below W.heap.size W w1 := by
  subst exy
  rw [e.out]
  refine ⟨by simpa [Own] using h1, ?_⟩
  exact (hb.alloc hb.size o1).grown g1 (by have := hb.size; simp; omega) (fun k hk => (World.ownsRow.lt ho k hk).1)

end Go.Proofs.Ytckmffhdngfchaa
