/-
  DERIVED. GIVEN WITH THE SEED: THE CARDS: each row of YtoofkikenfgbpaaDoorRows.lean that lists a variable, with what it lists TIED to the program's text (the seventh form; the later family's looks); each row that meets fmt, with fmt's text TOLD by the authors' own Lean function (tested against real Go, not proved from fmt's source: count such statements apart). THE CARD IS WHAT COUNTS. Prove the row's statement (the work); the ties are given (YtoofkikenfgbpaaDoorTie.lean); close each card by the builder's one call (the guide's Derived/Test/ToyasCard.lean, 'card_holds'). Laid BY PROGRAM, IN A SANDBOX (cutbox-door.mjs). By AI agents, Wed Nov 11 2026. No macro, syntax, notation, axiom, sorry.
-/
import Derived.Test.YtoofkikenfgbpaaDoorRows
import GoSem.ClaimSeven
namespace Go.Proofs.YtoofkikenfgbpaaDoor
namespace Rows

/-- THE TIED CARD OF 'laws.FnRtu'. -/
def fnRtuCard : Claim7 := { stood := { row := fnRtuRow, standIns := [], harness := (true, "09524ac12e14f4032e8ebc1b3a59464d0d7a21b6a851220af7a3e44e9667e274"), looks := true }, kinds := [], alts := [], laidByText := true, laidKinds := [.data], laidTests := true, laidLooks := .later }
def FnRtuCardSaid : Prop := Claim7.holds Tryd.pinned (.plain (OpenSpec.ofChange fnRtuSpec)) fnRtuCard

/-- THE TIED CARD OF 'laws.FnTold'. -/
def fnToldCard : Claim7 := { stood := { row := fnToldRow, standIns := [], harness := (true, "09524ac12e14f4032e8ebc1b3a59464d0d7a21b6a851220af7a3e44e9667e274"), looks := true }, kinds := [], alts := [], laidByText := true, laidKinds := [.handle], laidTests := true, laidLooks := .later }
def FnToldCardSaid : Prop := Claim7.holds Tryd.pinned (.plain (OpenSpec.ofChange fnToldSpec)) fnToldCard

/-- THE SECOND FORM's CARD OF 'laws.FnRtu'. -/
def fnRtuUptoCard : Claim7 := { stood := { row := fnRtuUptoRow, standIns := [], harness := (true, "09524ac12e14f4032e8ebc1b3a59464d0d7a21b6a851220af7a3e44e9667e274"), looks := true }, kinds := [], alts := [], laidByText := true, laidKinds := [.data], laidTests := true, laidLooks := .later }
def FnRtuUptoCardSaid : Prop := Claim7.holds Tryd.pinned (.plain (OpenSpec.upto fnRtuSpec)) fnRtuUptoCard

/-- THE SECOND FORM's CARD OF 'laws.FnTold'. -/
def fnToldUptoCard : Claim7 := { stood := { row := fnToldUptoRow, standIns := [], harness := (true, "09524ac12e14f4032e8ebc1b3a59464d0d7a21b6a851220af7a3e44e9667e274"), looks := true }, kinds := [], alts := [], laidByText := true, laidKinds := [.handle], laidTests := true, laidLooks := .later }
def FnToldUptoCardSaid : Prop := Claim7.holds Tryd.pinned (.plain (OpenSpec.upto fnToldSpec)) fnToldUptoCard
end Rows
end Go.Proofs.YtoofkikenfgbpaaDoor
