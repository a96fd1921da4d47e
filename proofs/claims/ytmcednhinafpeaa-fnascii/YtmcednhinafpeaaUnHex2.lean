/- UnHex of the model, walked. -/
import Derived.Test.YtmcednhinafpeaaUnHex1
namespace Go.Proofs.Ytmcednhinafpeaa
open Go.RowKit

/-- The worth of the byte at j. -/
def D (s : ByteArray) (j : Nat) : Int := if h : j < s.size then dg (s[j]'h).toNat else -1

theorem D_at (s : ByteArray) (j : Nat) (h : j < s.size) : D s j = dg (s[j]'h).toNat := by unfold D; rw [dif_pos h]

theorem D_bd (s : ByteArray) (j : Nat) : -1 ≤ D s j ∧ D s j ≤ 15 := by
  unfold D
  split
  · exact dg_bd _
  · omega

def bytesTo (s : ByteArray) (k : Nat) : List Int := (List.range k).map (fun i : Nat => D s (2 * i) * 16 + D s (2 * i + 1))

theorem bytesTo_length (s : ByteArray) (k : Nat) : (bytesTo s k).length = k := by simp [bytesTo]

theorem bytesTo_succ (s : ByteArray) (k : Nat) : bytesTo s (k + 1) = bytesTo s k ++ [D s (2 * k) * 16 + D s (2 * k + 1)] := by simp [bytesTo, List.range_succ]

def okS (s : ByteArray) : Bool := s.size % 2 == 0 && (List.range s.size).all (fun j => decide (0 ≤ D s j))

def outS (s : ByteArray) : List Int := if okS s = true then bytesTo s (s.size / 2) else []

theorem okS_yes {s : ByteArray} (h : s.size % 2 = 0) (hg : ∀ j, j < s.size → 0 ≤ D s j) : okS s = true ∧ outS s = bytesTo s (s.size / 2) := by
  have e : okS s = true := by simp [okS, h]; exact hg
  exact ⟨e, by unfold outS; rw [if_pos e]⟩

theorem okS_odd {s : ByteArray} (h : s.size % 2 ≠ 0) : okS s = false ∧ outS s = [] := by
  have e : okS s = false := by simp [okS, h]
  exact ⟨e, by unfold outS; rw [if_neg (by simp [e])]⟩

theorem okS_bad {s : ByteArray} (j : Nat) (h : j < s.size) (hg : D s j < 0) : okS s = false ∧ outS s = [] := by
  have e : okS s = false := by
    cases hh : okS s with
    | false => rfl
    | true =>
      simp [okS] at hh
      have := hh.2 j h
      omega
  exact ⟨e, by unfold outS; rw [if_neg (by simp [e])]⟩

/-- What UnHex ends with. -/
def Ends (s : ByteArray) (w : World) (e : Ending) (w' : World) : Prop :=
  ∃ a c, e = .returned (.tuple #[.slice a (outS s).length c, .bool (okS s)]) ∧ Own w' w.heap.size (.slice a (outS s).length c) (outS s) ∧ Below w.heap.size w w'

theorem ends_no {s : ByteArray} {w w' : World} {a : Option Addr} {c : Nat} (h : okS s = false ∧ outS s = []) (ho : Own w' w.heap.size (.slice a 0 c) []) (hb : Below w.heap.size w w') :
    Ends s w (.returned (.tuple #[.slice a 0 c, .bool false])) w' := by
  unfold Ends
  rw [h.1, h.2]
  exact ⟨a, c, rfl, ho, hb⟩

theorem ends_yes {s : ByteArray} {w w' : World} {v : Value} (h : okS s = true ∧ outS s = bytesTo s (s.size / 2)) (ho : Own w' w.heap.size v (bytesTo s (s.size / 2))) (hb : Below w.heap.size w w') :
    Ends s w (.returned (.tuple #[v, .bool true])) w' := by
  unfold Ends
  rw [h.1, h.2]
  have hs : ∃ a cap, v = .slice a (bytesTo s (s.size / 2)).length cap := by
    obtain ⟨_, h2⟩ := ho
    rcases h2 with ⟨h2, h3⟩ | ⟨g, cap', cur, hv, _⟩
    · exact ⟨none, 0, by rw [h3]; exact h2⟩
    · exact ⟨_, _, hv⟩
  obtain ⟨a, cap, rfl⟩ := hs
  exact ⟨a, cap, rfl, ho, hb⟩

theorem own_empty {w wr : World} (hb : Below w.heap.size w wr) : Own (wr.alloc (.cells #[] 5)) w.heap.size (.slice (some ⟨wr.heap.size, 0, none⟩) 0 0) [] ∧ Below w.heap.size w (wr.alloc (.cells #[] 5)) :=
  ⟨World.ownsRow_lit (base := w.heap.size) (e := 5) (size := 1) wr #[] 0 hb.size (by unfold maxLen; omega) rfl, hb.alloc hb.size _⟩

theorem one_cell {w1 : World} {x : Int} : ∀ j u, ([Value.int .u8 x])[j]? = some u → (w1.alloc (.cells #[.int .u8 x] 5)).cell? ((⟨w1.heap.size, 0, none⟩ : Addr).add j) = some u := by
  intro j u hu
  match j, hu with
  | 0, hu => simp at hu; subst hu; simp [Addr.add]
  | k + 1, hu => simp at hu

theorem one_one (x : Int) : ∀ u ∈ [Value.int .u8 x], u.oneCell' = true := by
  intro u hu; simp at hu; subst hu; rfl

theorem one_step {W wr w1 : World} {o1 : Obj} {v v' : Value} {hs hs' : List Int} {x y : Int} (e : Hid (hs' = hs ++ [y])) (exy : x = y) (ho : Own wr W.heap.size v hs) (hb : Below W.heap.size W wr)
    (h1 : w1.ownsRow W.heap.size 5 1 v' (hs.length + 1) (hs.map (Value.int .u8) ++ [Value.int .u8 x])) (g1 : (wr.alloc o1).grownBy w1 v.ownBlock) : Own w1 W.heap.size v' hs' ∧ Below W.heap.size W w1 := by
  subst exy
  rw [e.out]
  refine ⟨by simpa [Own] using h1, ?_⟩
  exact (hb.alloc hb.size o1).grown g1 (by have := hb.size; simp; omega) (fun k hk => (World.ownsRow.lt ho k hk).1)

set_option maxHeartbeats 2000000 in
theorem specUnHex_any (s : ByteArray) (w : World) (hl : s.size ≤ 2000000) :
    Calls Try.prog 54 #[.string s] w fun e w' => Ends s w e w' := by
  obtain ⟨i0, hi, hz0, hz1, hz2⟩ := info_parts Try.info5
  have hml : s.size + 2 ≤ maxLen := by unfold maxLen; omega
  have oe := own_empty (Below.refl w.heap.size w)
  go_enter Try.func54, Try.ntmps54
  go_wp2
  go_loopw [4, 5] (fun v i wr => ∃ k m : Nat, Hid (m = 2 * k) ∧ m ≤ s.size ∧ i = .int .i64 m ∧ Own wr w.heap.size v (bytesTo s k) ∧ Below w.heap.size w wr ∧ ∀ j, j < m → 0 ≤ D s j) (fun _ i _ => s.size - (intOf i).toNat)
  case atStart => exact ⟨0, 0, rfl, Nat.zero_le _, rfl, oe.1, oe.2, fun j hj => absurd hj (Nat.not_lt_zero _)⟩
  case round =>
    obtain ⟨k, m, hm, hms, rfl, ho, hb, hg⟩ := hrel
    clear oe
    by_cases hlt : m + 1 < s.size
    · have hi' : (m : Int) + 1 < (s.size : Int) := by omega
      have hi0 : (m : Int) < (s.size : Int) := by omega
      have hm0 : m < s.size := by omega
      have HG : Hid (∀ j, j < m → 0 ≤ D s j) := hg
      clear hg
      go_wp2_with fail
      refine (l1Digit_any _ _ (by omega) (by have := (s[m]'hm0).toNat_lt; omega)).mono ?_
      rintro e wr ⟨rfl, e1⟩
      subst e1
      have E1 : Hid (D s m = dg (s[m]'hm0).toNat) := D_at s m hm0
      have B1 := dg_bd (s[m]'hm0).toNat
      generalize dg (s[m]'hm0).toNat = d1 at *
      go_wp2_with fail
      refine (l1Digit_any _ _ (by omega) (by have := (s[m + 1]'hlt).toNat_lt; omega)).mono ?_
      rintro e wr ⟨rfl, e2⟩
      subst e2
      have E2 : Hid (D s (m + 1) = dg (s[m + 1]'hlt).toNat) := D_at s (m + 1) hlt
      have B2 := dg_bd (s[m + 1]'hlt).toNat
      generalize dg (s[m + 1]'hlt).toNat = d2 at *
      by_cases h1 : d1 < 0
      · have R := own_empty hb
        have K := okS_bad m hm0 (by rw [E1.out]; exact h1)
        have HK : Hid (okS s = false ∧ outS s = []) := K
        clear K ho hb
        go_wp2
        go_ret2
        exact ends_no HK.out R.1 R.2
      · by_cases h2 : d2 < 0
        · have R := own_empty hb
          have K := okS_bad (m + 1) hlt (by rw [E2.out]; exact h2)
          have HK : Hid (okS s = false ∧ outS s = []) := K
          clear K ho hb
          go_wp2
          go_ret2
          exact ends_no HK.out R.1 R.2
        · have hm1 : (bytesTo s k).length + 1 ≤ maxLen := by rw [bytesTo_length]; have := hm.out; omega
          have hm2 : ((bytesTo s k).length + 1) * 1 ≤ 140737488355328 := by rw [bytesTo_length]; have := hm.out; omega
          have HB : Hid (bytesTo s (k + 1) = bytesTo s k ++ [d1 * 16 + d2]) := by
            have e := bytesTo_succ s k
            rw [← hm.out, E1.out, E2.out] at e
            exact e
          go_wp2_with (at_builtin; refine wpList_append_own _ rfl (.tmp 32) (.tmp 38) 22 rfl w.heap.size 5 i0 (.int .u8 0) 1 1 Try.underlying22 hi hz0 hz1 hz2 rfl (by decide) u4 (bytesTo s k).length ((bytesTo s k).map (Value.int .u8)) rfl (ho.alloc _) ⟨wr.heap.size, 0, none⟩ 1 1 [.int .u8 (d1 * 16 + d2)] rfl (by simp) one_cell (one_one _) hm1 hm2 (by have := hb.size; simp; omega) ?_; intro v' w1 o1 g1 _; have R := one_step HB rfl ho hb o1 g1; clear ho hb o1 g1)
          go_roundw
          case rel =>
            refine ⟨k + 1, m + 2, by have := hm.out; show m + 2 = 2 * (k + 1); omega, by omega, by go_num, R.1, R.2, fun j hj => ?_⟩
            by_cases e1 : j = m
            · subst e1; rw [E1.out]; omega
            · by_cases e2 : j = m + 1
              · subst e2; rw [E2.out]; omega
              · exact HG.out j (by omega)
          case measure => simp [intOf]; omega
    · by_cases he : s.size % 2 = 0
      · have e : m = s.size := by have := hm.out; omega
        have ek : k = s.size / 2 := by have := hm.out; omega
        have HY : Hid (okS s = true ∧ outS s = bytesTo s (s.size / 2)) := okS_yes he (fun j hj => hg j (by omega))
        rw [ek] at ho
        have he' : ((s.size : Int) % 2 != 0) = false := by simp; omega
        clear ek hg hm
        go_wp2
        go_ret2
        exact ends_yes HY.out ho hb
      · have HN : Hid (okS s = false ∧ outS s = []) := okS_odd he
        have R := own_empty hb
        have he' : ((s.size : Int) % 2 != 0) = true := by simp; omega
        clear hg ho hb hm
        go_wp2
        go_ret2
        exact ends_no HN.out R.1 R.2

end Go.Proofs.Ytmcednhinafpeaa
