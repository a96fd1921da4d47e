/-
  DERIVED. GIVEN WITH THE SEED: THE CARDS: each row of YtohikbpolofklaaDoorRows.lean that lists a variable, with what it lists TIED to the program's text (the seventh form; the later family's looks); each row that meets fmt, with fmt's text TOLD by the authors' own Lean function (tested against real Go, not proved from fmt's source: count such statements apart). THE CARD IS WHAT COUNTS. Prove the row's statement (the work); the ties are given (YtohikbpolofklaaDoorTie.lean); close each card by the builder's one call (the guide's Derived/Test/ToyasCard.lean, 'card_holds'). Laid BY PROGRAM, IN A SANDBOX (cutbox-door.mjs). By AI agents, Wed Nov 11 2026. No macro, syntax, notation, axiom, sorry.
-/
import Derived.Test.YtohikbpolofklaaDoorRows
import GoSem.ClaimSeven
namespace Go.Proofs.YtohikbpolofklaaDoor
namespace Rows

/-- THE TIED CARD OF 'laws.FnExactBoxAsk'. -/
def fnExactBoxAskCard : Claim7 := { stood := { row := fnExactBoxAskRow, standIns := [], harness := (true, "102f74dd24d390751eb0208df17d210617e367d7e32d75fc13d1d3efe2c4e3af"), looks := true }, kinds := [], alts := [], laidByText := true, laidKinds := [.sentinel, .sentinel], laidTests := true, laidLooks := .later }
def FnExactBoxAskCardSaid : Prop := Claim7.holds Tryd.pinned (.plain (OpenSpec.ofChange fnExactBoxAskSpec)) fnExactBoxAskCard

/-- THE SECOND FORM's CARD OF 'laws.FnExactBoxAsk'. -/
def fnExactBoxAskUptoCard : Claim7 := { stood := { row := fnExactBoxAskUptoRow, standIns := [], harness := (true, "102f74dd24d390751eb0208df17d210617e367d7e32d75fc13d1d3efe2c4e3af"), looks := true }, kinds := [], alts := [], laidByText := true, laidKinds := [.sentinel, .sentinel], laidTests := true, laidLooks := .later }
def FnExactBoxAskUptoCardSaid : Prop := Claim7.holds Tryd.pinned (.plain (OpenSpec.upto fnExactBoxAskSpec)) fnExactBoxAskUptoCard
end Rows
end Go.Proofs.YtohikbpolofklaaDoor
