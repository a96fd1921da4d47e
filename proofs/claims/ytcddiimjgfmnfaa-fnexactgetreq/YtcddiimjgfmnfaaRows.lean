/-
  No cell of these rows narrows 'for every input' (looked for: loops, veiled, ifaces, maps, wideKeys, modest, calm, conditions, laid).
  DERIVED. THE GIVEN ROWS OF THIS SEAT. 6 by the template 'for every input the law returns true; each argument reads behind the call as it read before'; 0 by the template 'total and deterministic' (their statements: YtcddiimjgfmnfaaTotals.lean).
  GIVEN WITH THE SEED: the statements are not yours to turn. If you find one false, say at which input.
  Laid BY PROGRAM, IN A SANDBOX (cutbox-rows.mjs): the forced cells as the released guide's own fill.sh prints them over the translation ce4d32beac13caf7… (all of the seat's roots in one cut). By AI agents, Wed Nov 11 2026. No macro, syntax, notation, axiom, sorry.
-/
import Derived.Test.YtcddiimjgfmnfaaChecked
import GoSem.Claim
import GoSem.ClaimJoined
import GoSem.ClaimMapViews
import Derived.JoinedTies
import Derived.KernelRfl
namespace Go.Proofs.Ytcddiimjgfmnfaa
/- THE CELL 'sum', in the pinned program and in every row, IS THE sha256 OF THE DUMP (.gsa) THAT YtcddiimjgfmnfaaProg.lean LOADS. Nothing in Lean hashes anything: it is a label: what it is worth is what the hold of that sum in a sandbox is worth. -/
noncomputable def Try.pinned : Pinned := { name := "ytcddiimjgfmnfaa", sum := "ce4d32beac13caf77ba23578e51ddbe9968215c5064e83e3819681c6f5f07f61", checked := Try.checked }
namespace Rows
def none {H : Type} : Left H := { results := [], args := [] }

/-- 'laws.FnAsked': WHATEVER THE INPUT: true; the input reads as it did. -/
def fnAskedSpec : ChangeSpec := { name := "fnAsked", fn := fun _ => fun
  | [d] => { results := [.lit (.bool true)], args := [d] }
  | _ => none }
def fnAskedRow : OpenClaim := { program := "ytcddiimjgfmnfaa", sum := "ce4d32beac13caf77ba23578e51ddbe9968215c5064e83e3819681c6f5f07f61", func := "loop.example/g00129/laws.FnAsked", spec := "fnAsked", unfollowed := true, recurses := true, apart := false }
def FnAskedSaid : Prop := fnAskedRow.holds Try.pinned (OpenSpec.ofChange fnAskedSpec)

/-- ITS FALSE NEIGHBOUR: 'it returns false'. Refute it at one input. -/
def fnAskedWrong : ChangeSpec := { name := "fnAsked", fn := fun _ => fun
  | [d] => { results := [.lit (.bool false)], args := [d] }
  | _ => none }
def FnAskedWrongFalsely : Prop := fnAskedRow.holds Try.pinned (OpenSpec.ofChange fnAskedWrong)

/-- 'laws.FnExactReqOk': WHATEVER THE INPUT: true; the input reads as it did. -/
def fnExactReqOkSpec : ChangeSpec := { name := "fnExactReqOk", fn := fun _ => fun
  | [d] => { results := [.lit (.bool true)], args := [d] }
  | _ => none }
def fnExactReqOkRow : OpenClaim := { program := "ytcddiimjgfmnfaa", sum := "ce4d32beac13caf77ba23578e51ddbe9968215c5064e83e3819681c6f5f07f61", func := "loop.example/g00129/laws.FnExactReqOk", spec := "fnExactReqOk", unfollowed := true, recurses := true, apart := false }
def FnExactReqOkSaid : Prop := fnExactReqOkRow.holds Try.pinned (OpenSpec.ofChange fnExactReqOkSpec)

/-- ITS FALSE NEIGHBOUR: 'it returns false'. Refute it at one input. -/
def fnExactReqOkWrong : ChangeSpec := { name := "fnExactReqOk", fn := fun _ => fun
  | [d] => { results := [.lit (.bool false)], args := [d] }
  | _ => none }
def FnExactReqOkWrongFalsely : Prop := fnExactReqOkRow.holds Try.pinned (OpenSpec.ofChange fnExactReqOkWrong)

/-- 'laws.FnExactPutReq': WHATEVER THE INPUT: true; the input reads as it did. -/
def fnExactPutReqSpec : ChangeSpec := { name := "fnExactPutReq", fn := fun _ => fun
  | [d] => { results := [.lit (.bool true)], args := [d] }
  | _ => none }
def fnExactPutReqRow : OpenClaim := { program := "ytcddiimjgfmnfaa", sum := "ce4d32beac13caf77ba23578e51ddbe9968215c5064e83e3819681c6f5f07f61", func := "loop.example/g00129/laws.FnExactPutReq", spec := "fnExactPutReq", unfollowed := true, recurses := true, apart := false }
def FnExactPutReqSaid : Prop := fnExactPutReqRow.holds Try.pinned (OpenSpec.ofChange fnExactPutReqSpec)

/-- ITS FALSE NEIGHBOUR: 'it returns false'. Refute it at one input. -/
def fnExactPutReqWrong : ChangeSpec := { name := "fnExactPutReq", fn := fun _ => fun
  | [d] => { results := [.lit (.bool false)], args := [d] }
  | _ => none }
def FnExactPutReqWrongFalsely : Prop := fnExactPutReqRow.holds Try.pinned (OpenSpec.ofChange fnExactPutReqWrong)

/-- 'laws.FnExactGetReq': WHATEVER THE INPUT: true; the input reads as it did. -/
def fnExactGetReqSpec : ChangeSpec := { name := "fnExactGetReq", fn := fun _ => fun
  | [d] => { results := [.lit (.bool true)], args := [d] }
  | _ => none }
def fnExactGetReqRow : OpenClaim := { program := "ytcddiimjgfmnfaa", sum := "ce4d32beac13caf77ba23578e51ddbe9968215c5064e83e3819681c6f5f07f61", func := "loop.example/g00129/laws.FnExactGetReq", spec := "fnExactGetReq", unfollowed := true, recurses := true, apart := false }
def FnExactGetReqSaid : Prop := fnExactGetReqRow.holds Try.pinned (OpenSpec.ofChange fnExactGetReqSpec)

/-- ITS FALSE NEIGHBOUR: 'it returns false'. Refute it at one input. -/
def fnExactGetReqWrong : ChangeSpec := { name := "fnExactGetReq", fn := fun _ => fun
  | [d] => { results := [.lit (.bool false)], args := [d] }
  | _ => none }
def FnExactGetReqWrongFalsely : Prop := fnExactGetReqRow.holds Try.pinned (OpenSpec.ofChange fnExactGetReqWrong)

/-- 'laws.FnExactWrites': WHATEVER THE INPUT: true; the input reads as it did. -/
def fnExactWritesSpec : ChangeSpec := { name := "fnExactWrites", fn := fun _ => fun
  | [d] => { results := [.lit (.bool true)], args := [d] }
  | _ => none }
def fnExactWritesRow : OpenClaim := { program := "ytcddiimjgfmnfaa", sum := "ce4d32beac13caf77ba23578e51ddbe9968215c5064e83e3819681c6f5f07f61", func := "loop.example/g00129/laws.FnExactWrites", spec := "fnExactWrites", apart := false }
def FnExactWritesSaid : Prop := fnExactWritesRow.holds Try.pinned (OpenSpec.ofChange fnExactWritesSpec)

/-- ITS FALSE NEIGHBOUR: 'it returns false'. Refute it at one input. -/
def fnExactWritesWrong : ChangeSpec := { name := "fnExactWrites", fn := fun _ => fun
  | [d] => { results := [.lit (.bool false)], args := [d] }
  | _ => none }
def FnExactWritesWrongFalsely : Prop := fnExactWritesRow.holds Try.pinned (OpenSpec.ofChange fnExactWritesWrong)

/-- 'laws.FnExactSpaces': WHATEVER THE INPUT: true; the input reads as it did. -/
def fnExactSpacesSpec : ChangeSpec := { name := "fnExactSpaces", fn := fun _ => fun
  | [d] => { results := [.lit (.bool true)], args := [d] }
  | _ => none }
def fnExactSpacesRow : OpenClaim := { program := "ytcddiimjgfmnfaa", sum := "ce4d32beac13caf77ba23578e51ddbe9968215c5064e83e3819681c6f5f07f61", func := "loop.example/g00129/laws.FnExactSpaces", spec := "fnExactSpaces", unfollowed := true, recurses := true, apart := false }
def FnExactSpacesSaid : Prop := fnExactSpacesRow.holds Try.pinned (OpenSpec.ofChange fnExactSpacesSpec)

/-- ITS FALSE NEIGHBOUR: 'it returns false'. Refute it at one input. -/
def fnExactSpacesWrong : ChangeSpec := { name := "fnExactSpaces", fn := fun _ => fun
  | [d] => { results := [.lit (.bool false)], args := [d] }
  | _ => none }
def FnExactSpacesWrongFalsely : Prop := fnExactSpacesRow.holds Try.pinned (OpenSpec.ofChange fnExactSpacesWrong)

/- THE SECOND FORM. 'bulk': how many values and letters a reading holds, each counted each time it is reached (what is shared counts as often as it is met; a slice's spare places count too). A statement '..UptoSaid' is the law's where the arguments, and the package variables that the reading takes, are together of bulk at most 1048576: NARROWER than '..Said'. Prove '..Said' where nothing that the law and all that it calls make is longer than what came in: it says more and counts as full. Else prove '..UptoSaid'. A law counts once. -/
mutual
def uptoBulk {H : Type} : DataW H → Nat
  | .lit (.string bytes) => bytes.length + 1
  | .lit _ => 1
  | .nil => 1
  | .ptr d => uptoBulk d + 1
  | .slice elems spare => uptoBulkAll elems + uptoBulkAll spare + 1
  | .agg parts => uptoBulkAll parts + 1
  | .iface _ d => uptoBulk d + 1
  | .map entries => uptoBulkEntries entries + 1
  | .held _ => 1
def uptoBulkAll {H : Type} : List (DataW H) → Nat
  | [] => 0
  | d :: r => uptoBulk d + uptoBulkAll r
def uptoBulkEntries {H : Type} : List (Lit × DataW H) → Nat
  | [] => 0
  | x :: r => uptoBulkEntry x + uptoBulkEntries r
def uptoBulkEntry {H : Type} : Lit × DataW H → Nat
  | (.string bytes, d) => bytes.length + uptoBulk d + 1
  | (_, d) => uptoBulk d + 1
 end
def uptoSmall : (H : Type) → List (DataW H) → Bool := fun _ ds => decide (uptoBulkAll ds ≤ 1048576)
def OpenSpec.upto (s : _root_.Go.ChangeSpec) : _root_.Go.OpenSpec := { _root_.Go.OpenSpec.ofChange s with cond := some uptoSmall }

/-- 'laws.FnAsked', WHERE WHAT IT READS IS OF BULK AT MOST 1048576: true; the input reads as it did. -/
def fnAskedUptoRow : OpenClaim := { program := "ytcddiimjgfmnfaa", sum := "ce4d32beac13caf77ba23578e51ddbe9968215c5064e83e3819681c6f5f07f61", func := "loop.example/g00129/laws.FnAsked", spec := "fnAsked", unfollowed := true, recurses := true, apart := false, narrowed := true }
def FnAskedUptoSaid : Prop := fnAskedUptoRow.holds Try.pinned (OpenSpec.upto fnAskedSpec)

/-- 'laws.FnExactReqOk', WHERE WHAT IT READS IS OF BULK AT MOST 1048576: true; the input reads as it did. -/
def fnExactReqOkUptoRow : OpenClaim := { program := "ytcddiimjgfmnfaa", sum := "ce4d32beac13caf77ba23578e51ddbe9968215c5064e83e3819681c6f5f07f61", func := "loop.example/g00129/laws.FnExactReqOk", spec := "fnExactReqOk", unfollowed := true, recurses := true, apart := false, narrowed := true }
def FnExactReqOkUptoSaid : Prop := fnExactReqOkUptoRow.holds Try.pinned (OpenSpec.upto fnExactReqOkSpec)

/-- 'laws.FnExactPutReq', WHERE WHAT IT READS IS OF BULK AT MOST 1048576: true; the input reads as it did. -/
def fnExactPutReqUptoRow : OpenClaim := { program := "ytcddiimjgfmnfaa", sum := "ce4d32beac13caf77ba23578e51ddbe9968215c5064e83e3819681c6f5f07f61", func := "loop.example/g00129/laws.FnExactPutReq", spec := "fnExactPutReq", unfollowed := true, recurses := true, apart := false, narrowed := true }
def FnExactPutReqUptoSaid : Prop := fnExactPutReqUptoRow.holds Try.pinned (OpenSpec.upto fnExactPutReqSpec)

/-- 'laws.FnExactGetReq', WHERE WHAT IT READS IS OF BULK AT MOST 1048576: true; the input reads as it did. -/
def fnExactGetReqUptoRow : OpenClaim := { program := "ytcddiimjgfmnfaa", sum := "ce4d32beac13caf77ba23578e51ddbe9968215c5064e83e3819681c6f5f07f61", func := "loop.example/g00129/laws.FnExactGetReq", spec := "fnExactGetReq", unfollowed := true, recurses := true, apart := false, narrowed := true }
def FnExactGetReqUptoSaid : Prop := fnExactGetReqUptoRow.holds Try.pinned (OpenSpec.upto fnExactGetReqSpec)

/-- 'laws.FnExactWrites', WHERE WHAT IT READS IS OF BULK AT MOST 1048576: true; the input reads as it did. -/
def fnExactWritesUptoRow : OpenClaim := { program := "ytcddiimjgfmnfaa", sum := "ce4d32beac13caf77ba23578e51ddbe9968215c5064e83e3819681c6f5f07f61", func := "loop.example/g00129/laws.FnExactWrites", spec := "fnExactWrites", apart := false, narrowed := true }
def FnExactWritesUptoSaid : Prop := fnExactWritesUptoRow.holds Try.pinned (OpenSpec.upto fnExactWritesSpec)

/-- 'laws.FnExactSpaces', WHERE WHAT IT READS IS OF BULK AT MOST 1048576: true; the input reads as it did. -/
def fnExactSpacesUptoRow : OpenClaim := { program := "ytcddiimjgfmnfaa", sum := "ce4d32beac13caf77ba23578e51ddbe9968215c5064e83e3819681c6f5f07f61", func := "loop.example/g00129/laws.FnExactSpaces", spec := "fnExactSpaces", unfollowed := true, recurses := true, apart := false, narrowed := true }
def FnExactSpacesUptoSaid : Prop := fnExactSpacesUptoRow.holds Try.pinned (OpenSpec.upto fnExactSpacesSpec)

end Rows
end Go.Proofs.Ytcddiimjgfmnfaa
