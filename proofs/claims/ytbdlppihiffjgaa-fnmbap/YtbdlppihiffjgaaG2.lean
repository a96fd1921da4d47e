/- GetReq of the program: its frame, whatever the kind. -/
import Derived.Test.YtbdlppihiffjgaaG1
import Derived.Test.YtbdlppihiffjgaaQ5
namespace Go.Proofs.Ytbdlppihiffjgaa
open Go.RowKit

set_option linter.unusedVariables false

set_option linter.unusedSimpArgs false

def kindB (k : Int) : Bool := decide (k = 1 ∨ k = 2 ∨ k = 3 ∨ k = 4 ∨ k = 5 ∨ k = 6 ∨ k = 15 ∨ k = 16 ∨ k = 22 ∨ k = 23)

/-- A question told, with its number. -/
def GP (w w' : World) (e : Ending) (kd pl nn wa : Int) (ws : List Int) (bs : List Bool) (code : Int) : Prop :=
  ∃ a1 a2 l1 l2 c1 c2, e = .returned (.tuple #[rq kd pl nn wa a1 a2 l1 l2 c1 c2, .int .i64 code]) ∧ l1 = ws.length ∧ l2 = bs.length ∧ OwnI w' w.heap.size (.slice a1 l1 c1) ws ∧ OwnB w' w.heap.size (.slice a2 l2 c2) bs ∧ Below w.heap.size w w'

theorem gp_zero {w w' : World} {c : Int} (hb : Below w.heap.size w w') : GP w w' (.returned (.tuple #[rq 0 0 0 0 none none 0 0 0 0, .int .i64 c])) 0 0 0 0 [] [] c :=
  ⟨none, none, 0, 0, 0, 0, rfl, rfl, rfl, ownI_nil _ _, ownB_nil _ _, hb⟩

theorem bel_set6 {B : Nat} {W w : World} {g : Nat} {v0 v1 v2 v3 v4 v5 : Value} (hb : Below B W w) (hg : B ≤ g) :
    Below B W ((((((w.setCell ⟨g, 0, none⟩ v0).setCell ⟨g, 1, none⟩ v1).setCell ⟨g, 2, none⟩ v2).setCell ⟨g, 3, none⟩ v3).setCell ⟨g, 4, none⟩ v4).setCell ⟨g, 5, none⟩ v5) :=
  (((((hb.setCell (p := ⟨g, 0, none⟩) hg _).setCell (p := ⟨g, 1, none⟩) hg _).setCell (p := ⟨g, 2, none⟩) hg _).setCell (p := ⟨g, 3, none⟩) hg _).setCell (p := ⟨g, 4, none⟩) hg _).setCell (p := ⟨g, 5, none⟩) hg _

theorem row_set6 {w : World} {base size n g : Nat} {e t : TypeId} {v v0 v1 v2 v3 v4 v5 : Value} {xs : List Value} (h : w.ownsRow base e size v n xs) (hb : ExB w g t) (ht : t ≠ e) :
    ((((((w.setCell ⟨g, 0, none⟩ v0).setCell ⟨g, 1, none⟩ v1).setCell ⟨g, 2, none⟩ v2).setCell ⟨g, 3, none⟩ v3).setCell ⟨g, 4, none⟩ v4).setCell ⟨g, 5, none⟩ v5).ownsRow base e size v n xs :=
  row_setE (row_setE (row_setE (row_setE (row_setE (row_setE h hb ht) (ExB.set hb) ht) (ExB.set (ExB.set hb)) ht) (ExB.set (ExB.set (ExB.set hb))) ht) (ExB.set (ExB.set (ExB.set (ExB.set hb)))) ht) (ExB.set (ExB.set (ExB.set (ExB.set (ExB.set hb))))) ht

end Go.Proofs.Ytbdlppihiffjgaa
