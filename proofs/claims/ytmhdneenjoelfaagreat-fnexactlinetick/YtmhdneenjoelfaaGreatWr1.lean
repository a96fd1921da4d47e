/- Which questions write. -/
import Derived.Test.YtmhdneenjoelfaaGreatReq1
namespace Go.Proofs.YtmhdneenjoelfaaGreat
open Go.RowKit

theorem Blk.six {w : World} {g : Nat} {t : TypeId} {v0 v1 v2 v3 v4 v5 : Value} (h : Blk w g t #[v0, v1, v2, v3, v4, v5]) : w.cell? ⟨g, 0, none⟩ = some v0 ∧ w.cell? ⟨g, 1, none⟩ = some v1 ∧ w.cell? ⟨g, 2, none⟩ = some v2 ∧ w.cell? ⟨g, 3, none⟩ = some v3 ∧ w.cell? ⟨g, 4, none⟩ = some v4 ∧ w.cell? ⟨g, 5, none⟩ = some v5 :=
  ⟨h.cell 0 rfl, h.cell 1 rfl, h.cell 2 rfl, h.cell 3 rfl, h.cell 4 rfl, h.cell 5 rfl⟩

/-- A question as a value. -/
abbrev rq (kd pl nn wa : Int) (a1 a2 : Option Addr) (l1 l2 c1 c2 : Nat) : Value := .agg #[.int .i64 kd, .int .i64 pl, .int .i64 nn, .slice a1 l1 c1, .slice a2 l2 c2, .int .i64 wa]

def wrK (kd : Int) : Bool := decide (kd = 5 ∨ kd = 6 ∨ kd = 15 ∨ kd = 16 ∨ kd = 22 ∨ kd = 23)

end Go.Proofs.YtmhdneenjoelfaaGreat
