/- The law of PackBits, walked. -/
import Derived.Test.YtolfomkllbbmhabPack1
import Derived.Test.YtolfomkllbbmhabLawB
namespace Go.Proofs.Ytolfomkllbbmhab
open Go.RowKit

/-- The bytes of the bits. -/
def packL (bs : List Bool) (m : Nat) : List Int := (List.range m).map (fun i : Nat => pv bs bs.length i)

theorem packL_length (bs : List Bool) (m : Nat) : (packL bs m).length = m := by simp [packL]

def PackIs (bs : List Bool) (n m : Nat) (R : List Int) : Prop := m = (n + 7) / 8 ∧ R = packL bs m

theorem implPackBits_ok (a : Option Addr) (n cap m : Nat) (bs : List Bool) (R : List Int) (w : World) (hn : n = bs.length) (hE : PackIs bs n m R) (hs : SlB w a bs) (hl : n ≤ 2000000) :
    Calls Try.prog 7 #[.slice a n cap] w fun e w' => ∃ g, e = .returned (.slice (some ⟨g, 0, none⟩) m m) ∧ Own w' w.heap.size (.slice (some ⟨g, 0, none⟩) m m) R ∧ Below w.heap.size w w' := by
  obtain ⟨hm, hR⟩ := hE
  refine (implPackBits_any a n cap m bs w hn hm hs hl).mono ?_
  rintro e w' ⟨rfl, q, b⟩
  refine ⟨_, rfl, Own.ofRow (q.congr (fun i hi => ?_)) (by rw [hR, packL_length]) (Nat.le_refl _) (by unfold maxLen; omega), b⟩
  rw [hR, hn]; simp [packL, hi]

end Go.Proofs.Ytolfomkllbbmhab
