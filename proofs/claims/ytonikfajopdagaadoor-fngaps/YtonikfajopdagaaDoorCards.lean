/-
  DERIVED. GIVEN WITH THE SEED: THE CARDS: each row of YtonikfajopdagaaDoorRows.lean that lists a variable, with what it lists TIED to the program's text (the seventh form; the later family's looks); each row that meets fmt, with fmt's text TOLD by the authors' own Lean function (tested against real Go, not proved from fmt's source: count such statements apart). THE CARD IS WHAT COUNTS. Prove the row's statement (the work); the ties are given (YtonikfajopdagaaDoorTie.lean); close each card by the builder's one call (the guide's Derived/Test/ToyasCard.lean, 'card_holds'). Laid BY PROGRAM, IN A SANDBOX (cutbox-door.mjs). By AI agents, Wed Nov 11 2026. No macro, syntax, notation, axiom, sorry.
-/
import Derived.Test.YtonikfajopdagaaDoorRows
import GoSem.ClaimSeven
namespace Go.Proofs.YtonikfajopdagaaDoor
namespace Rows

/-- THE TIED CARD OF 'laws.FnRtu'. -/
def fnRtuCard : Claim7 := { stood := { row := fnRtuRow, standIns := [], harness := (true, "e9d334ce35887295ae2c710e00925bd2c27430f4dac83f3a4e4b8dd4fa82f310"), looks := false }, kinds := [], alts := [], laidByText := true, laidKinds := [.data], laidTests := true, laidLooks := .later }
def FnRtuCardSaid : Prop := Claim7.holds Tryd.pinned (.plain (OpenSpec.ofChange fnRtuSpec)) fnRtuCard

/-- THE TIED CARD OF 'laws.FnGaps'. -/
def fnGapsCard : Claim7 := { stood := { row := fnGapsRow, standIns := [], harness := (true, "e9d334ce35887295ae2c710e00925bd2c27430f4dac83f3a4e4b8dd4fa82f310"), looks := false }, kinds := [], alts := [], laidByText := true, laidKinds := [.data], laidTests := true, laidLooks := .later }
def FnGapsCardSaid : Prop := Claim7.holds Tryd.pinned (.plain (OpenSpec.ofChange fnGapsSpec)) fnGapsCard

/-- THE TIED CARD OF 'laws.FnExactPutRtu'. -/
def fnExactPutRtuCard : Claim7 := { stood := { row := fnExactPutRtuRow, standIns := [], harness := (true, "e9d334ce35887295ae2c710e00925bd2c27430f4dac83f3a4e4b8dd4fa82f310"), looks := false }, kinds := [], alts := [], laidByText := true, laidKinds := [.data], laidTests := true, laidLooks := .later }
def FnExactPutRtuCardSaid : Prop := Claim7.holds Tryd.pinned (.plain (OpenSpec.ofChange fnExactPutRtuSpec)) fnExactPutRtuCard

/-- THE TIED CARD OF 'laws.FnExactGetRtu'. -/
def fnExactGetRtuCard : Claim7 := { stood := { row := fnExactGetRtuRow, standIns := [], harness := (true, "e9d334ce35887295ae2c710e00925bd2c27430f4dac83f3a4e4b8dd4fa82f310"), looks := false }, kinds := [], alts := [], laidByText := true, laidKinds := [.data], laidTests := true, laidLooks := .later }
def FnExactGetRtuCardSaid : Prop := Claim7.holds Tryd.pinned (.plain (OpenSpec.ofChange fnExactGetRtuSpec)) fnExactGetRtuCard

/-- THE TIED CARD OF 'laws.FnExactRtuHear'. -/
def fnExactRtuHearCard : Claim7 := { stood := { row := fnExactRtuHearRow, standIns := [], harness := (true, "e9d334ce35887295ae2c710e00925bd2c27430f4dac83f3a4e4b8dd4fa82f310"), looks := false }, kinds := [], alts := [], laidByText := true, laidKinds := [.data], laidTests := true, laidLooks := .later }
def FnExactRtuHearCardSaid : Prop := Claim7.holds Tryd.pinned (.plain (OpenSpec.ofChange fnExactRtuHearSpec)) fnExactRtuHearCard

/-- THE TIED CARD OF 'laws.FnExactRtuWait'. -/
def fnExactRtuWaitCard : Claim7 := { stood := { row := fnExactRtuWaitRow, standIns := [], harness := (true, "e9d334ce35887295ae2c710e00925bd2c27430f4dac83f3a4e4b8dd4fa82f310"), looks := false }, kinds := [], alts := [], laidByText := true, laidKinds := [.data], laidTests := true, laidLooks := .later }
def FnExactRtuWaitCardSaid : Prop := Claim7.holds Tryd.pinned (.plain (OpenSpec.ofChange fnExactRtuWaitSpec)) fnExactRtuWaitCard

/-- THE SECOND FORM's CARD OF 'laws.FnRtu'. -/
def fnRtuUptoCard : Claim7 := { stood := { row := fnRtuUptoRow, standIns := [], harness := (true, "e9d334ce35887295ae2c710e00925bd2c27430f4dac83f3a4e4b8dd4fa82f310"), looks := false }, kinds := [], alts := [], laidByText := true, laidKinds := [.data], laidTests := true, laidLooks := .later }
def FnRtuUptoCardSaid : Prop := Claim7.holds Tryd.pinned (.plain (OpenSpec.upto fnRtuSpec)) fnRtuUptoCard

/-- THE SECOND FORM's CARD OF 'laws.FnGaps'. -/
def fnGapsUptoCard : Claim7 := { stood := { row := fnGapsUptoRow, standIns := [], harness := (true, "e9d334ce35887295ae2c710e00925bd2c27430f4dac83f3a4e4b8dd4fa82f310"), looks := false }, kinds := [], alts := [], laidByText := true, laidKinds := [.data], laidTests := true, laidLooks := .later }
def FnGapsUptoCardSaid : Prop := Claim7.holds Tryd.pinned (.plain (OpenSpec.upto fnGapsSpec)) fnGapsUptoCard

/-- THE SECOND FORM's CARD OF 'laws.FnExactPutRtu'. -/
def fnExactPutRtuUptoCard : Claim7 := { stood := { row := fnExactPutRtuUptoRow, standIns := [], harness := (true, "e9d334ce35887295ae2c710e00925bd2c27430f4dac83f3a4e4b8dd4fa82f310"), looks := false }, kinds := [], alts := [], laidByText := true, laidKinds := [.data], laidTests := true, laidLooks := .later }
def FnExactPutRtuUptoCardSaid : Prop := Claim7.holds Tryd.pinned (.plain (OpenSpec.upto fnExactPutRtuSpec)) fnExactPutRtuUptoCard

/-- THE SECOND FORM's CARD OF 'laws.FnExactGetRtu'. -/
def fnExactGetRtuUptoCard : Claim7 := { stood := { row := fnExactGetRtuUptoRow, standIns := [], harness := (true, "e9d334ce35887295ae2c710e00925bd2c27430f4dac83f3a4e4b8dd4fa82f310"), looks := false }, kinds := [], alts := [], laidByText := true, laidKinds := [.data], laidTests := true, laidLooks := .later }
def FnExactGetRtuUptoCardSaid : Prop := Claim7.holds Tryd.pinned (.plain (OpenSpec.upto fnExactGetRtuSpec)) fnExactGetRtuUptoCard

/-- THE SECOND FORM's CARD OF 'laws.FnExactRtuHear'. -/
def fnExactRtuHearUptoCard : Claim7 := { stood := { row := fnExactRtuHearUptoRow, standIns := [], harness := (true, "e9d334ce35887295ae2c710e00925bd2c27430f4dac83f3a4e4b8dd4fa82f310"), looks := false }, kinds := [], alts := [], laidByText := true, laidKinds := [.data], laidTests := true, laidLooks := .later }
def FnExactRtuHearUptoCardSaid : Prop := Claim7.holds Tryd.pinned (.plain (OpenSpec.upto fnExactRtuHearSpec)) fnExactRtuHearUptoCard

/-- THE SECOND FORM's CARD OF 'laws.FnExactRtuWait'. -/
def fnExactRtuWaitUptoCard : Claim7 := { stood := { row := fnExactRtuWaitUptoRow, standIns := [], harness := (true, "e9d334ce35887295ae2c710e00925bd2c27430f4dac83f3a4e4b8dd4fa82f310"), looks := false }, kinds := [], alts := [], laidByText := true, laidKinds := [.data], laidTests := true, laidLooks := .later }
def FnExactRtuWaitUptoCardSaid : Prop := Claim7.holds Tryd.pinned (.plain (OpenSpec.upto fnExactRtuWaitSpec)) fnExactRtuWaitUptoCard
end Rows
end Go.Proofs.YtonikfajopdagaaDoor
