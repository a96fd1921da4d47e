/-
  No cell of these rows narrows 'for every input' (looked for: loops, veiled, ifaces, maps, wideKeys, modest, calm, conditions, laid).
  DERIVED. THE GIVEN ROWS OF THIS SEAT. 6 by the template 'for every input the law returns true; each argument reads behind the call as it read before'; 0 by the template 'total and deterministic' (their statements: YtmcednhinafpeaaTotals.lean).
  GIVEN WITH THE SEED: the statements are not yours to turn. If you find one false, say at which input.
  Laid BY PROGRAM, IN A SANDBOX (cutbox-rows.mjs): the forced cells as the released guide's own fill.sh prints them over the translation 139fcbd9d8a93d3f… (all of the seat's roots in one cut). By AI agents, Wed Nov 11 2026. No macro, syntax, notation, axiom, sorry.
-/
import Derived.Test.YtmcednhinafpeaaChecked
import GoSem.Claim
import GoSem.ClaimJoined
import GoSem.ClaimMapViews
import Derived.JoinedTies
import Derived.KernelRfl
namespace Go.Proofs.Ytmcednhinafpeaa
/- THE CELL 'sum', in the pinned program and in every row, IS THE sha256 OF THE DUMP (.gsa) THAT YtmcednhinafpeaaProg.lean LOADS. Nothing in Lean hashes anything: it is a label: what it is worth is what the hold of that sum in a sandbox is worth. -/
noncomputable def Try.pinned : Pinned := { name := "ytmcednhinafpeaa", sum := "139fcbd9d8a93d3f8afeb65e37c11f337100630f87c0e2f33b22ce7cd7fd55f3", checked := Try.checked }
namespace Rows
def none {H : Type} : Left H := { results := [], args := [] }

/-- 'laws.FnAscii': WHATEVER THE INPUT: true; the input reads as it did. -/
def fnAsciiSpec : ChangeSpec := { name := "fnAscii", fn := fun _ => fun
  | [d] => { results := [.lit (.bool true)], args := [d] }
  | _ => none }
def fnAsciiRow : OpenClaim := { program := "ytmcednhinafpeaa", sum := "139fcbd9d8a93d3f8afeb65e37c11f337100630f87c0e2f33b22ce7cd7fd55f3", func := "loop.example/g00129/laws.FnAscii", spec := "fnAscii", unfollowed := true, recurses := true, apart := false }
def FnAsciiSaid : Prop := fnAsciiRow.holds Try.pinned (OpenSpec.ofChange fnAsciiSpec)

/-- ITS FALSE NEIGHBOUR: 'it returns false'. Refute it at one input. -/
def fnAsciiWrong : ChangeSpec := { name := "fnAscii", fn := fun _ => fun
  | [d] => { results := [.lit (.bool false)], args := [d] }
  | _ => none }
def FnAsciiWrongFalsely : Prop := fnAsciiRow.holds Try.pinned (OpenSpec.ofChange fnAsciiWrong)

/-- 'laws.FnExactPutAscii': WHATEVER THE INPUT: true; the input reads as it did. -/
def fnExactPutAsciiSpec : ChangeSpec := { name := "fnExactPutAscii", fn := fun _ => fun
  | [d1, d2] => { results := [.lit (.bool true)], args := [d1, d2] }
  | _ => none }
def fnExactPutAsciiRow : OpenClaim := { program := "ytmcednhinafpeaa", sum := "139fcbd9d8a93d3f8afeb65e37c11f337100630f87c0e2f33b22ce7cd7fd55f3", func := "loop.example/g00129/laws.FnExactPutAscii", spec := "fnExactPutAscii", apart := false }
def FnExactPutAsciiSaid : Prop := fnExactPutAsciiRow.holds Try.pinned (OpenSpec.ofChange fnExactPutAsciiSpec)

/-- ITS FALSE NEIGHBOUR: 'it returns false'. Refute it at one input. -/
def fnExactPutAsciiWrong : ChangeSpec := { name := "fnExactPutAscii", fn := fun _ => fun
  | [d1, d2] => { results := [.lit (.bool false)], args := [d1, d2] }
  | _ => none }
def FnExactPutAsciiWrongFalsely : Prop := fnExactPutAsciiRow.holds Try.pinned (OpenSpec.ofChange fnExactPutAsciiWrong)

/-- 'laws.FnExactGetAscii': WHATEVER THE INPUT: true; the input reads as it did. -/
def fnExactGetAsciiSpec : ChangeSpec := { name := "fnExactGetAscii", fn := fun _ => fun
  | [d] => { results := [.lit (.bool true)], args := [d] }
  | _ => none }
def fnExactGetAsciiRow : OpenClaim := { program := "ytmcednhinafpeaa", sum := "139fcbd9d8a93d3f8afeb65e37c11f337100630f87c0e2f33b22ce7cd7fd55f3", func := "loop.example/g00129/laws.FnExactGetAscii", spec := "fnExactGetAscii", apart := false }
def FnExactGetAsciiSaid : Prop := fnExactGetAsciiRow.holds Try.pinned (OpenSpec.ofChange fnExactGetAsciiSpec)

/-- ITS FALSE NEIGHBOUR: 'it returns false'. Refute it at one input. -/
def fnExactGetAsciiWrong : ChangeSpec := { name := "fnExactGetAscii", fn := fun _ => fun
  | [d] => { results := [.lit (.bool false)], args := [d] }
  | _ => none }
def FnExactGetAsciiWrongFalsely : Prop := fnExactGetAsciiRow.holds Try.pinned (OpenSpec.ofChange fnExactGetAsciiWrong)

/-- 'laws.FnExactAsciiNew': WHATEVER THE INPUT: true; the input reads as it did. -/
def fnExactAsciiNewSpec : ChangeSpec := { name := "fnExactAsciiNew", fn := fun _ => fun
  | [d] => { results := [.lit (.bool true)], args := [d] }
  | _ => none }
def fnExactAsciiNewRow : OpenClaim := { program := "ytmcednhinafpeaa", sum := "139fcbd9d8a93d3f8afeb65e37c11f337100630f87c0e2f33b22ce7cd7fd55f3", func := "loop.example/g00129/laws.FnExactAsciiNew", spec := "fnExactAsciiNew", apart := false }
def FnExactAsciiNewSaid : Prop := fnExactAsciiNewRow.holds Try.pinned (OpenSpec.ofChange fnExactAsciiNewSpec)

/-- ITS FALSE NEIGHBOUR: 'it returns false'. Refute it at one input. -/
def fnExactAsciiNewWrong : ChangeSpec := { name := "fnExactAsciiNew", fn := fun _ => fun
  | [d] => { results := [.lit (.bool false)], args := [d] }
  | _ => none }
def FnExactAsciiNewWrongFalsely : Prop := fnExactAsciiNewRow.holds Try.pinned (OpenSpec.ofChange fnExactAsciiNewWrong)

/-- 'laws.FnExactAsciiOk': WHATEVER THE INPUT: true; the input reads as it did. -/
def fnExactAsciiOkSpec : ChangeSpec := { name := "fnExactAsciiOk", fn := fun _ => fun
  | [d] => { results := [.lit (.bool true)], args := [d] }
  | _ => none }
def fnExactAsciiOkRow : OpenClaim := { program := "ytmcednhinafpeaa", sum := "139fcbd9d8a93d3f8afeb65e37c11f337100630f87c0e2f33b22ce7cd7fd55f3", func := "loop.example/g00129/laws.FnExactAsciiOk", spec := "fnExactAsciiOk", apart := false }
def FnExactAsciiOkSaid : Prop := fnExactAsciiOkRow.holds Try.pinned (OpenSpec.ofChange fnExactAsciiOkSpec)

/-- ITS FALSE NEIGHBOUR: 'it returns false'. Refute it at one input. -/
def fnExactAsciiOkWrong : ChangeSpec := { name := "fnExactAsciiOk", fn := fun _ => fun
  | [d] => { results := [.lit (.bool false)], args := [d] }
  | _ => none }
def FnExactAsciiOkWrongFalsely : Prop := fnExactAsciiOkRow.holds Try.pinned (OpenSpec.ofChange fnExactAsciiOkWrong)

/-- 'laws.FnExactAsciiHear': WHATEVER THE INPUT: true; the input reads as it did. -/
def fnExactAsciiHearSpec : ChangeSpec := { name := "fnExactAsciiHear", fn := fun _ => fun
  | [d1, d2, d3] => { results := [.lit (.bool true)], args := [d1, d2, d3] }
  | _ => none }
def fnExactAsciiHearRow : OpenClaim := { program := "ytmcednhinafpeaa", sum := "139fcbd9d8a93d3f8afeb65e37c11f337100630f87c0e2f33b22ce7cd7fd55f3", func := "loop.example/g00129/laws.FnExactAsciiHear", spec := "fnExactAsciiHear", unfollowed := true, recurses := true, apart := false }
def FnExactAsciiHearSaid : Prop := fnExactAsciiHearRow.holds Try.pinned (OpenSpec.ofChange fnExactAsciiHearSpec)

/-- ITS FALSE NEIGHBOUR: 'it returns false'. Refute it at one input. -/
def fnExactAsciiHearWrong : ChangeSpec := { name := "fnExactAsciiHear", fn := fun _ => fun
  | [d1, d2, d3] => { results := [.lit (.bool false)], args := [d1, d2, d3] }
  | _ => none }
def FnExactAsciiHearWrongFalsely : Prop := fnExactAsciiHearRow.holds Try.pinned (OpenSpec.ofChange fnExactAsciiHearWrong)

/- THE SECOND FORM. 'bulk': how many values and letters a reading holds, each counted each time it is reached (what is shared counts as often as it is met; a slice's spare places count too). A statement '..UptoSaid' is the law's where the arguments, and the package variables that the reading takes, are together of bulk at most 1048576: NARROWER than '..Said'. Prove '..Said' where nothing that the law and all that it calls make is longer than what came in: it says more and counts as full. Else prove '..UptoSaid'. A law counts once. -/
mutual
def uptoBulk {H : Type} : DataW H → Nat
  | .lit (.string bytes) => bytes.length + 1
  | .lit _ => 1
  | .nil => 1
  | .ptr d => uptoBulk d + 1
  | .slice elems spare => uptoBulkAll elems + uptoBulkAll spare + 1
  | .agg parts => uptoBulkAll parts + 1
  | .iface _ d => uptoBulk d + 1
  | .map entries => uptoBulkEntries entries + 1
  | .held _ => 1
def uptoBulkAll {H : Type} : List (DataW H) → Nat
  | [] => 0
  | d :: r => uptoBulk d + uptoBulkAll r
def uptoBulkEntries {H : Type} : List (Lit × DataW H) → Nat
  | [] => 0
  | x :: r => uptoBulkEntry x + uptoBulkEntries r
def uptoBulkEntry {H : Type} : Lit × DataW H → Nat
  | (.string bytes, d) => bytes.length + uptoBulk d + 1
  | (_, d) => uptoBulk d + 1
 end
def uptoSmall : (H : Type) → List (DataW H) → Bool := fun _ ds => decide (uptoBulkAll ds ≤ 1048576)
def OpenSpec.upto (s : _root_.Go.ChangeSpec) : _root_.Go.OpenSpec := { _root_.Go.OpenSpec.ofChange s with cond := some uptoSmall }

/-- 'laws.FnAscii', WHERE WHAT IT READS IS OF BULK AT MOST 1048576: true; the input reads as it did. -/
def fnAsciiUptoRow : OpenClaim := { program := "ytmcednhinafpeaa", sum := "139fcbd9d8a93d3f8afeb65e37c11f337100630f87c0e2f33b22ce7cd7fd55f3", func := "loop.example/g00129/laws.FnAscii", spec := "fnAscii", unfollowed := true, recurses := true, apart := false, narrowed := true }
def FnAsciiUptoSaid : Prop := fnAsciiUptoRow.holds Try.pinned (OpenSpec.upto fnAsciiSpec)

/-- 'laws.FnExactPutAscii', WHERE WHAT IT READS IS OF BULK AT MOST 1048576: true; the input reads as it did. -/
def fnExactPutAsciiUptoRow : OpenClaim := { program := "ytmcednhinafpeaa", sum := "139fcbd9d8a93d3f8afeb65e37c11f337100630f87c0e2f33b22ce7cd7fd55f3", func := "loop.example/g00129/laws.FnExactPutAscii", spec := "fnExactPutAscii", apart := false, narrowed := true }
def FnExactPutAsciiUptoSaid : Prop := fnExactPutAsciiUptoRow.holds Try.pinned (OpenSpec.upto fnExactPutAsciiSpec)

/-- 'laws.FnExactGetAscii', WHERE WHAT IT READS IS OF BULK AT MOST 1048576: true; the input reads as it did. -/
def fnExactGetAsciiUptoRow : OpenClaim := { program := "ytmcednhinafpeaa", sum := "139fcbd9d8a93d3f8afeb65e37c11f337100630f87c0e2f33b22ce7cd7fd55f3", func := "loop.example/g00129/laws.FnExactGetAscii", spec := "fnExactGetAscii", apart := false, narrowed := true }
def FnExactGetAsciiUptoSaid : Prop := fnExactGetAsciiUptoRow.holds Try.pinned (OpenSpec.upto fnExactGetAsciiSpec)

/-- 'laws.FnExactAsciiNew', WHERE WHAT IT READS IS OF BULK AT MOST 1048576: true; the input reads as it did. -/
def fnExactAsciiNewUptoRow : OpenClaim := { program := "ytmcednhinafpeaa", sum := "139fcbd9d8a93d3f8afeb65e37c11f337100630f87c0e2f33b22ce7cd7fd55f3", func := "loop.example/g00129/laws.FnExactAsciiNew", spec := "fnExactAsciiNew", apart := false, narrowed := true }
def FnExactAsciiNewUptoSaid : Prop := fnExactAsciiNewUptoRow.holds Try.pinned (OpenSpec.upto fnExactAsciiNewSpec)

/-- 'laws.FnExactAsciiOk', WHERE WHAT IT READS IS OF BULK AT MOST 1048576: true; the input reads as it did. -/
def fnExactAsciiOkUptoRow : OpenClaim := { program := "ytmcednhinafpeaa", sum := "139fcbd9d8a93d3f8afeb65e37c11f337100630f87c0e2f33b22ce7cd7fd55f3", func := "loop.example/g00129/laws.FnExactAsciiOk", spec := "fnExactAsciiOk", apart := false, narrowed := true }
def FnExactAsciiOkUptoSaid : Prop := fnExactAsciiOkUptoRow.holds Try.pinned (OpenSpec.upto fnExactAsciiOkSpec)

/-- 'laws.FnExactAsciiHear', WHERE WHAT IT READS IS OF BULK AT MOST 1048576: true; the input reads as it did. -/
def fnExactAsciiHearUptoRow : OpenClaim := { program := "ytmcednhinafpeaa", sum := "139fcbd9d8a93d3f8afeb65e37c11f337100630f87c0e2f33b22ce7cd7fd55f3", func := "loop.example/g00129/laws.FnExactAsciiHear", spec := "fnExactAsciiHear", unfollowed := true, recurses := true, apart := false, narrowed := true }
def FnExactAsciiHearUptoSaid : Prop := fnExactAsciiHearUptoRow.holds Try.pinned (OpenSpec.upto fnExactAsciiHearSpec)

end Rows
end Go.Proofs.Ytmcednhinafpeaa
