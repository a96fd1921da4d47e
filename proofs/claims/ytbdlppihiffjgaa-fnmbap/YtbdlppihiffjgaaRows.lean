/-
  No cell of these rows narrows 'for every input' (looked for: loops, veiled, ifaces, maps, wideKeys, modest, calm, conditions, laid).
  DERIVED. THE GIVEN ROWS OF THIS SEAT. 6 by the template 'for every input the law returns true; each argument reads behind the call as it read before'; 0 by the template 'total and deterministic' (their statements: YtbdlppihiffjgaaTotals.lean).
  GIVEN WITH THE SEED: the statements are not yours to turn. If you find one false, say at which input.
  Laid BY PROGRAM, IN A SANDBOX (cutbox-rows.mjs): the forced cells as the released guide's own fill.sh prints them over the translation 06849702873a057a… (all of the seat's roots in one cut). By AI agents, Wed Nov 11 2026. No macro, syntax, notation, axiom, sorry.
-/
import Derived.Test.YtbdlppihiffjgaaChecked
import GoSem.Claim
import GoSem.ClaimJoined
import GoSem.ClaimMapViews
import Derived.JoinedTies
import Derived.KernelRfl
namespace Go.Proofs.Ytbdlppihiffjgaa
/- THE CELL 'sum', in the pinned program and in every row, IS THE sha256 OF THE DUMP (.gsa) THAT YtbdlppihiffjgaaProg.lean LOADS. Nothing in Lean hashes anything: it is a label: what it is worth is what the hold of that sum in a sandbox is worth. -/
noncomputable def Try.pinned : Pinned := { name := "ytbdlppihiffjgaa", sum := "06849702873a057a16a161ea246bc8dfa9ca27a1c06667f1c0cdb081e414aa77", checked := Try.checked }
namespace Rows
def none {H : Type} : Left H := { results := [], args := [] }

/-- 'laws.FnStreams': WHATEVER THE INPUT: true; the input reads as it did. -/
def fnStreamsSpec : ChangeSpec := { name := "fnStreams", fn := fun _ => fun
  | [d] => { results := [.lit (.bool true)], args := [d] }
  | _ => none }
def fnStreamsRow : OpenClaim := { program := "ytbdlppihiffjgaa", sum := "06849702873a057a16a161ea246bc8dfa9ca27a1c06667f1c0cdb081e414aa77", func := "loop.example/g00129/laws.FnStreams", spec := "fnStreams", unfollowed := true, recurses := true, apart := false }
def FnStreamsSaid : Prop := fnStreamsRow.holds Try.pinned (OpenSpec.ofChange fnStreamsSpec)

/-- ITS FALSE NEIGHBOUR: 'it returns false'. Refute it at one input. -/
def fnStreamsWrong : ChangeSpec := { name := "fnStreams", fn := fun _ => fun
  | [d] => { results := [.lit (.bool false)], args := [d] }
  | _ => none }
def FnStreamsWrongFalsely : Prop := fnStreamsRow.holds Try.pinned (OpenSpec.ofChange fnStreamsWrong)

/-- 'laws.FnMbap': WHATEVER THE INPUT: true; the input reads as it did. -/
def fnMbapSpec : ChangeSpec := { name := "fnMbap", fn := fun _ => fun
  | [d] => { results := [.lit (.bool true)], args := [d] }
  | _ => none }
def fnMbapRow : OpenClaim := { program := "ytbdlppihiffjgaa", sum := "06849702873a057a16a161ea246bc8dfa9ca27a1c06667f1c0cdb081e414aa77", func := "loop.example/g00129/laws.FnMbap", spec := "fnMbap", apart := false }
def FnMbapSaid : Prop := fnMbapRow.holds Try.pinned (OpenSpec.ofChange fnMbapSpec)

/-- ITS FALSE NEIGHBOUR: 'it returns false'. Refute it at one input. -/
def fnMbapWrong : ChangeSpec := { name := "fnMbap", fn := fun _ => fun
  | [d] => { results := [.lit (.bool false)], args := [d] }
  | _ => none }
def FnMbapWrongFalsely : Prop := fnMbapRow.holds Try.pinned (OpenSpec.ofChange fnMbapWrong)

/-- 'laws.FnExactPutMbap': WHATEVER THE INPUT: true; the input reads as it did. -/
def fnExactPutMbapSpec : ChangeSpec := { name := "fnExactPutMbap", fn := fun _ => fun
  | [d1, d2, d3] => { results := [.lit (.bool true)], args := [d1, d2, d3] }
  | _ => none }
def fnExactPutMbapRow : OpenClaim := { program := "ytbdlppihiffjgaa", sum := "06849702873a057a16a161ea246bc8dfa9ca27a1c06667f1c0cdb081e414aa77", func := "loop.example/g00129/laws.FnExactPutMbap", spec := "fnExactPutMbap", apart := false }
def FnExactPutMbapSaid : Prop := fnExactPutMbapRow.holds Try.pinned (OpenSpec.ofChange fnExactPutMbapSpec)

/-- ITS FALSE NEIGHBOUR: 'it returns false'. Refute it at one input. -/
def fnExactPutMbapWrong : ChangeSpec := { name := "fnExactPutMbap", fn := fun _ => fun
  | [d1, d2, d3] => { results := [.lit (.bool false)], args := [d1, d2, d3] }
  | _ => none }
def FnExactPutMbapWrongFalsely : Prop := fnExactPutMbapRow.holds Try.pinned (OpenSpec.ofChange fnExactPutMbapWrong)

/-- 'laws.FnExactNextMbap': WHATEVER THE INPUT: true; the input reads as it did. -/
def fnExactNextMbapSpec : ChangeSpec := { name := "fnExactNextMbap", fn := fun _ => fun
  | [d] => { results := [.lit (.bool true)], args := [d] }
  | _ => none }
def fnExactNextMbapRow : OpenClaim := { program := "ytbdlppihiffjgaa", sum := "06849702873a057a16a161ea246bc8dfa9ca27a1c06667f1c0cdb081e414aa77", func := "loop.example/g00129/laws.FnExactNextMbap", spec := "fnExactNextMbap", apart := false }
def FnExactNextMbapSaid : Prop := fnExactNextMbapRow.holds Try.pinned (OpenSpec.ofChange fnExactNextMbapSpec)

/-- ITS FALSE NEIGHBOUR: 'it returns false'. Refute it at one input. -/
def fnExactNextMbapWrong : ChangeSpec := { name := "fnExactNextMbap", fn := fun _ => fun
  | [d] => { results := [.lit (.bool false)], args := [d] }
  | _ => none }
def FnExactNextMbapWrongFalsely : Prop := fnExactNextMbapRow.holds Try.pinned (OpenSpec.ofChange fnExactNextMbapWrong)

/-- 'laws.FnExactStreamOk': WHATEVER THE INPUT: true; the input reads as it did. -/
def fnExactStreamOkSpec : ChangeSpec := { name := "fnExactStreamOk", fn := fun _ => fun
  | [d] => { results := [.lit (.bool true)], args := [d] }
  | _ => none }
def fnExactStreamOkRow : OpenClaim := { program := "ytbdlppihiffjgaa", sum := "06849702873a057a16a161ea246bc8dfa9ca27a1c06667f1c0cdb081e414aa77", func := "loop.example/g00129/laws.FnExactStreamOk", spec := "fnExactStreamOk", apart := false }
def FnExactStreamOkSaid : Prop := fnExactStreamOkRow.holds Try.pinned (OpenSpec.ofChange fnExactStreamOkSpec)

/-- ITS FALSE NEIGHBOUR: 'it returns false'. Refute it at one input. -/
def fnExactStreamOkWrong : ChangeSpec := { name := "fnExactStreamOk", fn := fun _ => fun
  | [d] => { results := [.lit (.bool false)], args := [d] }
  | _ => none }
def FnExactStreamOkWrongFalsely : Prop := fnExactStreamOkRow.holds Try.pinned (OpenSpec.ofChange fnExactStreamOkWrong)

/-- 'laws.FnExactStreamHear': WHATEVER THE INPUT: true; the input reads as it did. -/
def fnExactStreamHearSpec : ChangeSpec := { name := "fnExactStreamHear", fn := fun _ => fun
  | [d1, d2] => { results := [.lit (.bool true)], args := [d1, d2] }
  | _ => none }
def fnExactStreamHearRow : OpenClaim := { program := "ytbdlppihiffjgaa", sum := "06849702873a057a16a161ea246bc8dfa9ca27a1c06667f1c0cdb081e414aa77", func := "loop.example/g00129/laws.FnExactStreamHear", spec := "fnExactStreamHear", unfollowed := true, recurses := true, apart := false }
def FnExactStreamHearSaid : Prop := fnExactStreamHearRow.holds Try.pinned (OpenSpec.ofChange fnExactStreamHearSpec)

/-- ITS FALSE NEIGHBOUR: 'it returns false'. Refute it at one input. -/
def fnExactStreamHearWrong : ChangeSpec := { name := "fnExactStreamHear", fn := fun _ => fun
  | [d1, d2] => { results := [.lit (.bool false)], args := [d1, d2] }
  | _ => none }
def FnExactStreamHearWrongFalsely : Prop := fnExactStreamHearRow.holds Try.pinned (OpenSpec.ofChange fnExactStreamHearWrong)

/- THE SECOND FORM. 'bulk': how many values and letters a reading holds, each counted each time it is reached (what is shared counts as often as it is met; a slice's spare places count too). A statement '..UptoSaid' is the law's where the arguments, and the package variables that the reading takes, are together of bulk at most 1048576: NARROWER than '..Said'. Prove '..Said' where nothing that the law and all that it calls make is longer than what came in: it says more and counts as full. Else prove '..UptoSaid'. A law counts once. -/
mutual
def uptoBulk {H : Type} : DataW H → Nat
  | .lit (.string bytes) => bytes.length + 1
  | .lit _ => 1
  | .nil => 1
  | .ptr d => uptoBulk d + 1
  | .slice elems spare => uptoBulkAll elems + uptoBulkAll spare + 1
  | .agg parts => uptoBulkAll parts + 1
  | .iface _ d => uptoBulk d + 1
  | .map entries => uptoBulkEntries entries + 1
  | .held _ => 1
def uptoBulkAll {H : Type} : List (DataW H) → Nat
  | [] => 0
  | d :: r => uptoBulk d + uptoBulkAll r
def uptoBulkEntries {H : Type} : List (Lit × DataW H) → Nat
  | [] => 0
  | x :: r => uptoBulkEntry x + uptoBulkEntries r
def uptoBulkEntry {H : Type} : Lit × DataW H → Nat
  | (.string bytes, d) => bytes.length + uptoBulk d + 1
  | (_, d) => uptoBulk d + 1
 end
def uptoSmall : (H : Type) → List (DataW H) → Bool := fun _ ds => decide (uptoBulkAll ds ≤ 1048576)
def OpenSpec.upto (s : _root_.Go.ChangeSpec) : _root_.Go.OpenSpec := { _root_.Go.OpenSpec.ofChange s with cond := some uptoSmall }

/-- 'laws.FnStreams', WHERE WHAT IT READS IS OF BULK AT MOST 1048576: true; the input reads as it did. -/
def fnStreamsUptoRow : OpenClaim := { program := "ytbdlppihiffjgaa", sum := "06849702873a057a16a161ea246bc8dfa9ca27a1c06667f1c0cdb081e414aa77", func := "loop.example/g00129/laws.FnStreams", spec := "fnStreams", unfollowed := true, recurses := true, apart := false, narrowed := true }
def FnStreamsUptoSaid : Prop := fnStreamsUptoRow.holds Try.pinned (OpenSpec.upto fnStreamsSpec)

/-- 'laws.FnMbap', WHERE WHAT IT READS IS OF BULK AT MOST 1048576: true; the input reads as it did. -/
def fnMbapUptoRow : OpenClaim := { program := "ytbdlppihiffjgaa", sum := "06849702873a057a16a161ea246bc8dfa9ca27a1c06667f1c0cdb081e414aa77", func := "loop.example/g00129/laws.FnMbap", spec := "fnMbap", apart := false, narrowed := true }
def FnMbapUptoSaid : Prop := fnMbapUptoRow.holds Try.pinned (OpenSpec.upto fnMbapSpec)

/-- 'laws.FnExactPutMbap', WHERE WHAT IT READS IS OF BULK AT MOST 1048576: true; the input reads as it did. -/
def fnExactPutMbapUptoRow : OpenClaim := { program := "ytbdlppihiffjgaa", sum := "06849702873a057a16a161ea246bc8dfa9ca27a1c06667f1c0cdb081e414aa77", func := "loop.example/g00129/laws.FnExactPutMbap", spec := "fnExactPutMbap", apart := false, narrowed := true }
def FnExactPutMbapUptoSaid : Prop := fnExactPutMbapUptoRow.holds Try.pinned (OpenSpec.upto fnExactPutMbapSpec)

/-- 'laws.FnExactNextMbap', WHERE WHAT IT READS IS OF BULK AT MOST 1048576: true; the input reads as it did. -/
def fnExactNextMbapUptoRow : OpenClaim := { program := "ytbdlppihiffjgaa", sum := "06849702873a057a16a161ea246bc8dfa9ca27a1c06667f1c0cdb081e414aa77", func := "loop.example/g00129/laws.FnExactNextMbap", spec := "fnExactNextMbap", apart := false, narrowed := true }
def FnExactNextMbapUptoSaid : Prop := fnExactNextMbapUptoRow.holds Try.pinned (OpenSpec.upto fnExactNextMbapSpec)

/-- 'laws.FnExactStreamOk', WHERE WHAT IT READS IS OF BULK AT MOST 1048576: true; the input reads as it did. -/
def fnExactStreamOkUptoRow : OpenClaim := { program := "ytbdlppihiffjgaa", sum := "06849702873a057a16a161ea246bc8dfa9ca27a1c06667f1c0cdb081e414aa77", func := "loop.example/g00129/laws.FnExactStreamOk", spec := "fnExactStreamOk", apart := false, narrowed := true }
def FnExactStreamOkUptoSaid : Prop := fnExactStreamOkUptoRow.holds Try.pinned (OpenSpec.upto fnExactStreamOkSpec)

/-- 'laws.FnExactStreamHear', WHERE WHAT IT READS IS OF BULK AT MOST 1048576: true; the input reads as it did. -/
def fnExactStreamHearUptoRow : OpenClaim := { program := "ytbdlppihiffjgaa", sum := "06849702873a057a16a161ea246bc8dfa9ca27a1c06667f1c0cdb081e414aa77", func := "loop.example/g00129/laws.FnExactStreamHear", spec := "fnExactStreamHear", unfollowed := true, recurses := true, apart := false, narrowed := true }
def FnExactStreamHearUptoSaid : Prop := fnExactStreamHearUptoRow.holds Try.pinned (OpenSpec.upto fnExactStreamHearSpec)

end Rows
end Go.Proofs.Ytbdlppihiffjgaa
