/-
  No cell of these rows narrows 'for every input' (looked for: loops, veiled, ifaces, maps, wideKeys, modest, calm, conditions, laid).
  DERIVED. THE GIVEN ROWS OF THIS SEAT. 4 by the template 'for every input the law returns true; each argument reads behind the call as it read before'; 0 by the template 'total and deterministic' (their statements: YtgamicfcdkjleaaTotals.lean).
  GIVEN WITH THE SEED: the statements are not yours to turn. If you find one false, say at which input.
  Laid BY PROGRAM, IN A SANDBOX (cutbox-rows.mjs): the forced cells as the released guide's own fill.sh prints them over the translation 3033576e4acafd6a… (all of the seat's roots in one cut). By AI agents, Wed Nov 11 2026. No macro, syntax, notation, axiom, sorry.
-/
import Derived.Test.YtgamicfcdkjleaaChecked
import GoSem.Claim
import GoSem.ClaimJoined
import GoSem.ClaimMapViews
import Derived.JoinedTies
import Derived.KernelRfl
namespace Go.Proofs.Ytgamicfcdkjleaa
/- THE CELL 'sum', in the pinned program and in every row, IS THE sha256 OF THE DUMP (.gsa) THAT YtgamicfcdkjleaaProg.lean LOADS. Nothing in Lean hashes anything: it is a label: what it is worth is what the hold of that sum in a sandbox is worth. -/
noncomputable def Try.pinned : Pinned := { name := "ytgamicfcdkjleaa", sum := "3033576e4acafd6a8b7da4d2642516f981a18612a125fbdde7a405acc674b893", checked := Try.checked }
namespace Rows
def none {H : Type} : Left H := { results := [], args := [] }

/-- 'laws.FnAsked': WHATEVER THE INPUT: true; the input reads as it did. -/
def fnAskedSpec : ChangeSpec := { name := "fnAsked", fn := fun _ => fun
  | [d] => { results := [.lit (.bool true)], args := [d] }
  | _ => none }
def fnAskedRow : OpenClaim := { program := "ytgamicfcdkjleaa", sum := "3033576e4acafd6a8b7da4d2642516f981a18612a125fbdde7a405acc674b893", func := "loop.example/g00129/laws.FnAsked", spec := "fnAsked", unfollowed := true, recurses := true, apart := false }
def FnAskedSaid : Prop := fnAskedRow.holds Try.pinned (OpenSpec.ofChange fnAskedSpec)

/-- ITS FALSE NEIGHBOUR: 'it returns false'. Refute it at one input. -/
def fnAskedWrong : ChangeSpec := { name := "fnAsked", fn := fun _ => fun
  | [d] => { results := [.lit (.bool false)], args := [d] }
  | _ => none }
def FnAskedWrongFalsely : Prop := fnAskedRow.holds Try.pinned (OpenSpec.ofChange fnAskedWrong)

/-- 'laws.FnExactRespOk': WHATEVER THE INPUT: true; the input reads as it did. -/
def fnExactRespOkSpec : ChangeSpec := { name := "fnExactRespOk", fn := fun _ => fun
  | [d] => { results := [.lit (.bool true)], args := [d] }
  | _ => none }
def fnExactRespOkRow : OpenClaim := { program := "ytgamicfcdkjleaa", sum := "3033576e4acafd6a8b7da4d2642516f981a18612a125fbdde7a405acc674b893", func := "loop.example/g00129/laws.FnExactRespOk", spec := "fnExactRespOk", apart := false }
def FnExactRespOkSaid : Prop := fnExactRespOkRow.holds Try.pinned (OpenSpec.ofChange fnExactRespOkSpec)

/-- ITS FALSE NEIGHBOUR: 'it returns false'. Refute it at one input. -/
def fnExactRespOkWrong : ChangeSpec := { name := "fnExactRespOk", fn := fun _ => fun
  | [d] => { results := [.lit (.bool false)], args := [d] }
  | _ => none }
def FnExactRespOkWrongFalsely : Prop := fnExactRespOkRow.holds Try.pinned (OpenSpec.ofChange fnExactRespOkWrong)

/-- 'laws.FnExactPutResp': WHATEVER THE INPUT: true; the input reads as it did. -/
def fnExactPutRespSpec : ChangeSpec := { name := "fnExactPutResp", fn := fun _ => fun
  | [d] => { results := [.lit (.bool true)], args := [d] }
  | _ => none }
def fnExactPutRespRow : OpenClaim := { program := "ytgamicfcdkjleaa", sum := "3033576e4acafd6a8b7da4d2642516f981a18612a125fbdde7a405acc674b893", func := "loop.example/g00129/laws.FnExactPutResp", spec := "fnExactPutResp", apart := false }
def FnExactPutRespSaid : Prop := fnExactPutRespRow.holds Try.pinned (OpenSpec.ofChange fnExactPutRespSpec)

/-- ITS FALSE NEIGHBOUR: 'it returns false'. Refute it at one input. -/
def fnExactPutRespWrong : ChangeSpec := { name := "fnExactPutResp", fn := fun _ => fun
  | [d] => { results := [.lit (.bool false)], args := [d] }
  | _ => none }
def FnExactPutRespWrongFalsely : Prop := fnExactPutRespRow.holds Try.pinned (OpenSpec.ofChange fnExactPutRespWrong)

/-- 'laws.FnExactSuits': WHATEVER THE INPUT: true; the input reads as it did. -/
def fnExactSuitsSpec : ChangeSpec := { name := "fnExactSuits", fn := fun _ => fun
  | [d1, d2] => { results := [.lit (.bool true)], args := [d1, d2] }
  | _ => none }
def fnExactSuitsRow : OpenClaim := { program := "ytgamicfcdkjleaa", sum := "3033576e4acafd6a8b7da4d2642516f981a18612a125fbdde7a405acc674b893", func := "loop.example/g00129/laws.FnExactSuits", spec := "fnExactSuits", unfollowed := true, recurses := true, apart := false }
def FnExactSuitsSaid : Prop := fnExactSuitsRow.holds Try.pinned (OpenSpec.ofChange fnExactSuitsSpec)

/-- ITS FALSE NEIGHBOUR: 'it returns false'. Refute it at one input. -/
def fnExactSuitsWrong : ChangeSpec := { name := "fnExactSuits", fn := fun _ => fun
  | [d1, d2] => { results := [.lit (.bool false)], args := [d1, d2] }
  | _ => none }
def FnExactSuitsWrongFalsely : Prop := fnExactSuitsRow.holds Try.pinned (OpenSpec.ofChange fnExactSuitsWrong)

/- THE SECOND FORM. 'bulk': how many values and letters a reading holds, each counted each time it is reached (what is shared counts as often as it is met; a slice's spare places count too). A statement '..UptoSaid' is the law's where the arguments, and the package variables that the reading takes, are together of bulk at most 1048576: NARROWER than '..Said'. Prove '..Said' where nothing that the law and all that it calls make is longer than what came in: it says more and counts as full. Else prove '..UptoSaid'. A law counts once. -/
mutual
def uptoBulk {H : Type} : DataW H → Nat
  | .lit (.string bytes) => bytes.length + 1
  | .lit _ => 1
  | .nil => 1
  | .ptr d => uptoBulk d + 1
  | .slice elems spare => uptoBulkAll elems + uptoBulkAll spare + 1
  | .agg parts => uptoBulkAll parts + 1
  | .iface _ d => uptoBulk d + 1
  | .map entries => uptoBulkEntries entries + 1
  | .held _ => 1
def uptoBulkAll {H : Type} : List (DataW H) → Nat
  | [] => 0
  | d :: r => uptoBulk d + uptoBulkAll r
def uptoBulkEntries {H : Type} : List (Lit × DataW H) → Nat
  | [] => 0
  | x :: r => uptoBulkEntry x + uptoBulkEntries r
def uptoBulkEntry {H : Type} : Lit × DataW H → Nat
  | (.string bytes, d) => bytes.length + uptoBulk d + 1
  | (_, d) => uptoBulk d + 1
 end
def uptoSmall : (H : Type) → List (DataW H) → Bool := fun _ ds => decide (uptoBulkAll ds ≤ 1048576)
def OpenSpec.upto (s : _root_.Go.ChangeSpec) : _root_.Go.OpenSpec := { _root_.Go.OpenSpec.ofChange s with cond := some uptoSmall }

/-- 'laws.FnAsked', WHERE WHAT IT READS IS OF BULK AT MOST 1048576: true; the input reads as it did. -/
def fnAskedUptoRow : OpenClaim := { program := "ytgamicfcdkjleaa", sum := "3033576e4acafd6a8b7da4d2642516f981a18612a125fbdde7a405acc674b893", func := "loop.example/g00129/laws.FnAsked", spec := "fnAsked", unfollowed := true, recurses := true, apart := false, narrowed := true }
def FnAskedUptoSaid : Prop := fnAskedUptoRow.holds Try.pinned (OpenSpec.upto fnAskedSpec)

/-- 'laws.FnExactRespOk', WHERE WHAT IT READS IS OF BULK AT MOST 1048576: true; the input reads as it did. -/
def fnExactRespOkUptoRow : OpenClaim := { program := "ytgamicfcdkjleaa", sum := "3033576e4acafd6a8b7da4d2642516f981a18612a125fbdde7a405acc674b893", func := "loop.example/g00129/laws.FnExactRespOk", spec := "fnExactRespOk", apart := false, narrowed := true }
def FnExactRespOkUptoSaid : Prop := fnExactRespOkUptoRow.holds Try.pinned (OpenSpec.upto fnExactRespOkSpec)

/-- 'laws.FnExactPutResp', WHERE WHAT IT READS IS OF BULK AT MOST 1048576: true; the input reads as it did. -/
def fnExactPutRespUptoRow : OpenClaim := { program := "ytgamicfcdkjleaa", sum := "3033576e4acafd6a8b7da4d2642516f981a18612a125fbdde7a405acc674b893", func := "loop.example/g00129/laws.FnExactPutResp", spec := "fnExactPutResp", apart := false, narrowed := true }
def FnExactPutRespUptoSaid : Prop := fnExactPutRespUptoRow.holds Try.pinned (OpenSpec.upto fnExactPutRespSpec)

/-- 'laws.FnExactSuits', WHERE WHAT IT READS IS OF BULK AT MOST 1048576: true; the input reads as it did. -/
def fnExactSuitsUptoRow : OpenClaim := { program := "ytgamicfcdkjleaa", sum := "3033576e4acafd6a8b7da4d2642516f981a18612a125fbdde7a405acc674b893", func := "loop.example/g00129/laws.FnExactSuits", spec := "fnExactSuits", unfollowed := true, recurses := true, apart := false, narrowed := true }
def FnExactSuitsUptoSaid : Prop := fnExactSuitsUptoRow.holds Try.pinned (OpenSpec.upto fnExactSuitsSpec)

end Rows
end Go.Proofs.Ytgamicfcdkjleaa
