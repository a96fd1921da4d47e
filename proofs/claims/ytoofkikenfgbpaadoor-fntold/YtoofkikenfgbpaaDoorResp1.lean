/- Answers as values: sizes, copies, equality. -/
import Derived.Test.YtoofkikenfgbpaaDoorWr1
namespace Go.Proofs.YtoofkikenfgbpaaDoor
open Go.RowKit

set_option linter.unusedVariables false

/-- An answer as a value. -/
abbrev rp (kd fl pl nn : Int) (a1 a2 : Option Addr) (l1 l2 c1 c2 : Nat) : Value := .agg #[.int .i64 kd, .int .i64 fl, .int .i64 pl, .int .i64 nn, .slice a1 l1 c1, .slice a2 l2 c2]

theorem rowp_set6 {w : World} {base size n g : Nat} {e t : TypeId} {v v0 v1 v2 v3 v4 v5 : Value} {xs : List Value} (h : w.ownsRow base e size v n xs) (hb : ExB w g t) (ht : t ≠ e) :
    ((((((w.setCell ⟨g, 0, none⟩ v0).setCell ⟨g, 1, none⟩ v1).setCell ⟨g, 2, none⟩ v2).setCell ⟨g, 3, none⟩ v3).setCell ⟨g, 4, none⟩ v4).setCell ⟨g, 5, none⟩ v5).ownsRow base e size v n xs :=
  row_setE (row_setE (row_setE (row_setE (row_setE (row_setE h hb ht) (ExB.set hb) ht) (ExB.set (ExB.set hb)) ht) (ExB.set (ExB.set (ExB.set hb))) ht) (ExB.set (ExB.set (ExB.set (ExB.set hb)))) ht) (ExB.set (ExB.set (ExB.set (ExB.set (ExB.set hb))))) ht

theorem belp_set6 {B : Nat} {W w : World} {g : Nat} {v0 v1 v2 v3 v4 v5 : Value} (hb : Below B W w) (hg : B ≤ g) :
    Below B W ((((((w.setCell ⟨g, 0, none⟩ v0).setCell ⟨g, 1, none⟩ v1).setCell ⟨g, 2, none⟩ v2).setCell ⟨g, 3, none⟩ v3).setCell ⟨g, 4, none⟩ v4).setCell ⟨g, 5, none⟩ v5) :=
  (((((hb.setCell (p := ⟨g, 0, none⟩) hg _).setCell (p := ⟨g, 1, none⟩) hg _).setCell (p := ⟨g, 2, none⟩) hg _).setCell (p := ⟨g, 3, none⟩) hg _).setCell (p := ⟨g, 4, none⟩) hg _).setCell (p := ⟨g, 5, none⟩) hg _

end Go.Proofs.YtoofkikenfgbpaaDoor
