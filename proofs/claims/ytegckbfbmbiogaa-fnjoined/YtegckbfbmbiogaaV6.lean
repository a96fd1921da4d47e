/- Texts that the proof needs, joined: Pt6. -/
import Derived.Test.YtegckbfbmbiogaaV5
namespace Go.Proofs.Ytegckbfbmbiogaa
open Go.RowKit
set_option linter.unusedVariables false
set_option linter.unusedSimpArgs false
structure Pa where
  p : Int
  t : Int
  kd : Int
  pl : Int
  n : Int
  wa : Int
  ws : List Int
  bs : List Bool
instance : Inhabited Pa := ⟨⟨0, 0, 0, 0, 0, 0, [], []⟩⟩
abbrev ptl (P : Pa) (a1 a2 : Option Addr) (c1 c2 : Nat) : List Value := [.int .i64 P.p, .int .i64 P.t, .int .i64 P.kd, .int .i64 P.pl, .int .i64 P.n, .slice a1 P.ws.length c1, .slice a2 P.bs.length c2, .int .i64 P.wa]
def PartPost (w w' : World) (e : Ending) (P : Pa) : Prop :=
  ∃ a1 a2 l1 l2 c1 c2, e = .returned (.agg #[.int .i64 P.p, .int .i64 P.t, .int .i64 P.kd, .int .i64 P.pl, .int .i64 P.n, .slice a1 l1 c1, .slice a2 l2 c2, .int .i64 P.wa]) ∧ l1 = P.ws.length ∧ l2 = P.bs.length ∧ OwnI w' w.heap.size (.slice a1 l1 c1) P.ws ∧ OwnB w' w.heap.size (.slice a2 l2 c2) P.bs ∧ Below w.heap.size w w'
theorem setL_gr {g : Nat} : ∀ (vs : List Value) (w : World) (o : Nat), w.grownBy (setL w g o vs) (some g)
  | [], w, o => World.grownBy.refl w _
  | v :: vs, w, o => by
    have h1 := grown_setb w g o v
    have h2 := setL_gr (g := g) vs (w.setCell ⟨g, o, none⟩ v) (o + 1)
    exact ⟨h2.os.trans h1.os, h2.tape.trans h1.tape, h2.output.trans h1.output, Nat.le_trans h1.size h2.size, fun k hk hne => by rw [show setL w g o (v :: vs) = setL (w.setCell ⟨g, o, none⟩ v) g (o + 1) vs from rfl, h2.block k (Nat.lt_of_lt_of_le hk h1.size) hne, h1.block k hk hne]⟩
theorem row_setL {w : World} {base size n g o : Nat} {e t : TypeId} {v : Value} {xs vs : List Value} (h : w.ownsRow base e size v n xs) (hb : ExB w g t) (ht : t ≠ e) : (setL w g o vs).ownsRow base e size v n xs := by
  obtain ⟨cs, hb⟩ := hb
  exact World.ownsRow.kept h (setL_gr vs w o) (.inr (row_noBlk h hb ht))
theorem ownI_z (w : World) (base : Nat) : OwnI w base (.slice none 0 0) [] := World.ownsRow_nil w base _ _
theorem ownB_z (w : World) (base : Nat) : OwnB w base (.slice none 0 0) [] := World.ownsRow_nil w base _ _
end Go.Proofs.Ytegckbfbmbiogaa
