/-
  DERIVED. GIVEN WITH THE SEED: THE CARDS: each row of YtigcjiipoidmfaaDoorRows.lean that lists a variable, with what it lists TIED to the program's text (the seventh form; the later family's looks); each row that meets fmt, with fmt's text TOLD by the authors' own Lean function (tested against real Go, not proved from fmt's source: count such statements apart). THE CARD IS WHAT COUNTS. Prove the row's statement (the work); the ties are given (YtigcjiipoidmfaaDoorTie.lean); close each card by the builder's one call (the guide's Derived/Test/ToyasCard.lean, 'card_holds'). Laid BY PROGRAM, IN A SANDBOX (cutbox-door.mjs). By AI agents, Wed Nov 11 2026. No macro, syntax, notation, axiom, sorry.
-/
import Derived.Test.YtigcjiipoidmfaaDoorRows
import GoSem.ClaimSeven
namespace Go.Proofs.YtigcjiipoidmfaaDoor
namespace Rows

/-- THE TIED CARD OF 'laws.FnTold'. -/
def fnToldCard : Claim7 := { stood := { row := fnToldRow, standIns := [], harness := (true, "efe8dd5078079151505dc4b7526c051aedd2d6557ead2212f2e7691c05f517bc"), looks := true }, kinds := [], alts := [], laidByText := true, laidKinds := [.handle], laidTests := true, laidLooks := .later }
def FnToldCardSaid : Prop := Claim7.holds Tryd.pinned (.plain (OpenSpec.ofChange fnToldSpec)) fnToldCard

/-- THE TIED CARD OF 'laws.FnExactGetResp'. -/
def fnExactGetRespCard : Claim7 := { stood := { row := fnExactGetRespRow, standIns := [], harness := (true, "efe8dd5078079151505dc4b7526c051aedd2d6557ead2212f2e7691c05f517bc"), looks := true }, kinds := [], alts := [], laidByText := true, laidKinds := [.handle], laidTests := true, laidLooks := .later }
def FnExactGetRespCardSaid : Prop := Claim7.holds Tryd.pinned (.plain (OpenSpec.ofChange fnExactGetRespSpec)) fnExactGetRespCard

/-- THE SECOND FORM's CARD OF 'laws.FnTold'. -/
def fnToldUptoCard : Claim7 := { stood := { row := fnToldUptoRow, standIns := [], harness := (true, "efe8dd5078079151505dc4b7526c051aedd2d6557ead2212f2e7691c05f517bc"), looks := true }, kinds := [], alts := [], laidByText := true, laidKinds := [.handle], laidTests := true, laidLooks := .later }
def FnToldUptoCardSaid : Prop := Claim7.holds Tryd.pinned (.plain (OpenSpec.upto fnToldSpec)) fnToldUptoCard

/-- THE SECOND FORM's CARD OF 'laws.FnExactGetResp'. -/
def fnExactGetRespUptoCard : Claim7 := { stood := { row := fnExactGetRespUptoRow, standIns := [], harness := (true, "efe8dd5078079151505dc4b7526c051aedd2d6557ead2212f2e7691c05f517bc"), looks := true }, kinds := [], alts := [], laidByText := true, laidKinds := [.handle], laidTests := true, laidLooks := .later }
def FnExactGetRespUptoCardSaid : Prop := Claim7.holds Tryd.pinned (.plain (OpenSpec.upto fnExactGetRespSpec)) fnExactGetRespUptoCard
end Rows
end Go.Proofs.YtigcjiipoidmfaaDoor
