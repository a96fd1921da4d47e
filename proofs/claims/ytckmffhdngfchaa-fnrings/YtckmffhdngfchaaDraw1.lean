/- What chapter 1's laws draw: bytes, and a number. -/
import Derived.Test.YtckmffhdngfchaaCur4
namespace Go.Proofs.Ytckmffhdngfchaa
open Go.RowKit

theorem Own.mono {w : World} {base base' : Nat} {v : Value} {zs : List Int} (h : Own w base v zs) (hb : base' ≤ base) : Own w base' v zs := by
  obtain ⟨h1, h2⟩ := h
  refine ⟨h1, ?_⟩
  rcases h2 with h2 | ⟨g, cap, cur, hv, hg, r⟩
  · exact .inl h2
  · exact .inr ⟨g, cap, cur, hv, by omega, r⟩

theorem Own.notCur {w w' : World} {base g : Nat} {v : Value} {zs : List Int} (h : Own w base v zs) (hg : w.grownBy w' (some g)) (hb : g < base) : Own w' base v zs :=
  h.kept hg (.inr (fun e => by have := (World.ownsRow.lt h g e).1; omega))

def someList : List Int := [0, 1, 2, 3, 5, 8, 20]

set_option maxHeartbeats 1000000 in
theorem l1Some_any (w0 : World) (a : Option Addr) (cap : Nat) (zs : List Int) (w : World) (g : Nat) (hC : Cur w0 a cap zs w g) :
    Calls Try.prog 27 #[.pointer (some ⟨g, 0, none⟩)] w fun e w' => DrawnB w0 a cap zs w g (fun m => m ≤ 20) e w' := by
  have I := ints_lit w someList 3
  go_enter Try.func27, Try.ntmps27
  go_wp2_with fail
  refine (l1Int_any w0 a cap zs _ g ⟨w.heap.size, 0, none⟩ _ _ someList rfl (by decide) (by decide) I (by have := hC.hi; show w.heap.size ≠ g; omega) (hC.alloc _)).mono ?_
  rintro e w2 ⟨x, rfl, hx, C2, g2⟩
  have hb : 0 ≤ x ∧ x ≤ 20 := by simp [someList] at hx; omega
  obtain ⟨k, rfl⟩ := Int.eq_ofNat_of_zero_le hb.1
  clear I hC
  go_wp2_with fail
  refine (l1Bytes_any w0 a cap zs _ g k (by omega) C2).mono ?_
  rintro e w3 ⟨ad, n, c, bs, rfl, hn', hkn, ho, hr, C3, g3⟩
  have hn : Hid (n = bs.length) := hn'
  have hnb : n ≤ 20 := by omega
  clear hn' hkn
  have G := grown_trans (grown_trans (World.grownBy_alloc w (.cells (someList.map (Value.int .i64)).toArray 3) (some g)) g2) g3
  have hsz : w.heap.size ≤ w2.heap.size := by have := g2.size; simp at this; omega
  have R : Hid (n = bs.length ∧ n ≤ 20 ∧ Own w3 w.heap.size (.slice (some ad) n c) bs ∧ (∀ z ∈ bs, 0 ≤ z ∧ z ≤ 255) ∧ Cur w0 a cap zs w3 g ∧ w.grownBy w3 (some g)) := ⟨hn.out, hnb, ho.mono hsz, hr, C3, G⟩
  clear ho C2 C3 g2 g3 G
  go_wp2
  go_ret
  exact ⟨ad, n, c, bs, rfl, R.out⟩

def wordList (y : Int) : List Int := [0, 1, 255, 256, 65535, 65536, -1, -65536, 9223372036854775807, -9223372036854775808, y]

/-- What a draw of bytes and a number ends with. -/
def DrawnW (w : World) (e : Ending) (w' : World) : Prop :=
  ∃ (ad : Addr) (n c : Nat) (bs : List Int) (x : Int), e = .returned (.tuple #[.slice (some ad) n c, .int .i64 x]) ∧ n = bs.length ∧ n ≤ 20 ∧ Own w' w.heap.size (.slice (some ad) n c) bs ∧ (∀ z ∈ bs, 0 ≤ z ∧ z ≤ 255) ∧ Below w.heap.size w w'

end Go.Proofs.Ytckmffhdngfchaa
