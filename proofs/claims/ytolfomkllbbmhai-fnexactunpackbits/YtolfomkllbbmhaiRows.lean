/-
  No cell of these rows narrows 'for every input' (looked for: loops, veiled, ifaces, maps, wideKeys, modest, calm, conditions, laid).
  DERIVED. THE GIVEN ROWS OF THIS SEAT. 6 by the template 'for every input the law returns true; each argument reads behind the call as it read before'; 0 by the template 'total and deterministic' (their statements: YtolfomkllbbmhaiTotals.lean).
  GIVEN WITH THE SEED: the statements are not yours to turn. If you find one false, say at which input.
  Laid BY PROGRAM, IN A SANDBOX (cutbox-rows.mjs): the forced cells as the released guide's own fill.sh prints them over the translation 721db94820de18f0… (all of the seat's roots in one cut). By AI agents, Wed Nov 11 2026. No macro, syntax, notation, axiom, sorry.
-/
import Derived.Test.YtolfomkllbbmhaiChecked
import GoSem.Claim
import GoSem.ClaimJoined
import GoSem.ClaimMapViews
import Derived.JoinedTies
import Derived.KernelRfl
namespace Go.Proofs.Ytolfomkllbbmhai
/- THE CELL 'sum', in the pinned program and in every row, IS THE sha256 OF THE DUMP (.gsa) THAT YtolfomkllbbmhaiProg.lean LOADS. Nothing in Lean hashes anything: it is a label: what it is worth is what the hold of that sum in a sandbox is worth. -/
noncomputable def Try.pinned : Pinned := { name := "ytolfomkllbbmhai", sum := "721db94820de18f0edb3628e95c9ae14943f1081d52ccb67c973ba93ad263943", checked := Try.checked }
namespace Rows
def none {H : Type} : Left H := { results := [], args := [] }

/-- 'laws.FnExactWordAt': WHATEVER THE INPUT: true; the input reads as it did. -/
def fnExactWordAtSpec : ChangeSpec := { name := "fnExactWordAt", fn := fun _ => fun
  | [d1, d2] => { results := [.lit (.bool true)], args := [d1, d2] }
  | _ => none }
def fnExactWordAtRow : OpenClaim := { program := "ytolfomkllbbmhai", sum := "721db94820de18f0edb3628e95c9ae14943f1081d52ccb67c973ba93ad263943", func := "loop.example/g00129/laws.FnExactWordAt", spec := "fnExactWordAt", apart := false }
def FnExactWordAtSaid : Prop := fnExactWordAtRow.holds Try.pinned (OpenSpec.ofChange fnExactWordAtSpec)

/-- ITS FALSE NEIGHBOUR: 'it returns false'. Refute it at one input. -/
def fnExactWordAtWrong : ChangeSpec := { name := "fnExactWordAt", fn := fun _ => fun
  | [d1, d2] => { results := [.lit (.bool false)], args := [d1, d2] }
  | _ => none }
def FnExactWordAtWrongFalsely : Prop := fnExactWordAtRow.holds Try.pinned (OpenSpec.ofChange fnExactWordAtWrong)

/-- 'laws.FnExactTickOn': WHATEVER THE INPUT: true; the input reads as it did. -/
def fnExactTickOnSpec : ChangeSpec := { name := "fnExactTickOn", fn := fun _ => fun
  | [d1, d2] => { results := [.lit (.bool true)], args := [d1, d2] }
  | _ => none }
def fnExactTickOnRow : OpenClaim := { program := "ytolfomkllbbmhai", sum := "721db94820de18f0edb3628e95c9ae14943f1081d52ccb67c973ba93ad263943", func := "loop.example/g00129/laws.FnExactTickOn", spec := "fnExactTickOn", apart := false }
def FnExactTickOnSaid : Prop := fnExactTickOnRow.holds Try.pinned (OpenSpec.ofChange fnExactTickOnSpec)

/-- ITS FALSE NEIGHBOUR: 'it returns false'. Refute it at one input. -/
def fnExactTickOnWrong : ChangeSpec := { name := "fnExactTickOn", fn := fun _ => fun
  | [d1, d2] => { results := [.lit (.bool false)], args := [d1, d2] }
  | _ => none }
def FnExactTickOnWrongFalsely : Prop := fnExactTickOnRow.holds Try.pinned (OpenSpec.ofChange fnExactTickOnWrong)

/-- 'laws.FnExactTickGap': WHATEVER THE INPUT: true; the input reads as it did. -/
def fnExactTickGapSpec : ChangeSpec := { name := "fnExactTickGap", fn := fun _ => fun
  | [d1, d2] => { results := [.lit (.bool true)], args := [d1, d2] }
  | _ => none }
def fnExactTickGapRow : OpenClaim := { program := "ytolfomkllbbmhai", sum := "721db94820de18f0edb3628e95c9ae14943f1081d52ccb67c973ba93ad263943", func := "loop.example/g00129/laws.FnExactTickGap", spec := "fnExactTickGap", apart := false }
def FnExactTickGapSaid : Prop := fnExactTickGapRow.holds Try.pinned (OpenSpec.ofChange fnExactTickGapSpec)

/-- ITS FALSE NEIGHBOUR: 'it returns false'. Refute it at one input. -/
def fnExactTickGapWrong : ChangeSpec := { name := "fnExactTickGap", fn := fun _ => fun
  | [d1, d2] => { results := [.lit (.bool false)], args := [d1, d2] }
  | _ => none }
def FnExactTickGapWrongFalsely : Prop := fnExactTickGapRow.holds Try.pinned (OpenSpec.ofChange fnExactTickGapWrong)

/-- 'laws.FnExactTickDue': WHATEVER THE INPUT: true; the input reads as it did. -/
def fnExactTickDueSpec : ChangeSpec := { name := "fnExactTickDue", fn := fun _ => fun
  | [d1, d2] => { results := [.lit (.bool true)], args := [d1, d2] }
  | _ => none }
def fnExactTickDueRow : OpenClaim := { program := "ytolfomkllbbmhai", sum := "721db94820de18f0edb3628e95c9ae14943f1081d52ccb67c973ba93ad263943", func := "loop.example/g00129/laws.FnExactTickDue", spec := "fnExactTickDue", apart := false }
def FnExactTickDueSaid : Prop := fnExactTickDueRow.holds Try.pinned (OpenSpec.ofChange fnExactTickDueSpec)

/-- ITS FALSE NEIGHBOUR: 'it returns false'. Refute it at one input. -/
def fnExactTickDueWrong : ChangeSpec := { name := "fnExactTickDue", fn := fun _ => fun
  | [d1, d2] => { results := [.lit (.bool false)], args := [d1, d2] }
  | _ => none }
def FnExactTickDueWrongFalsely : Prop := fnExactTickDueRow.holds Try.pinned (OpenSpec.ofChange fnExactTickDueWrong)

/-- 'laws.FnExactPackBits': WHATEVER THE INPUT: true; the input reads as it did. -/
def fnExactPackBitsSpec : ChangeSpec := { name := "fnExactPackBits", fn := fun _ => fun
  | [d] => { results := [.lit (.bool true)], args := [d] }
  | _ => none }
def fnExactPackBitsRow : OpenClaim := { program := "ytolfomkllbbmhai", sum := "721db94820de18f0edb3628e95c9ae14943f1081d52ccb67c973ba93ad263943", func := "loop.example/g00129/laws.FnExactPackBits", spec := "fnExactPackBits", apart := false }
def FnExactPackBitsSaid : Prop := fnExactPackBitsRow.holds Try.pinned (OpenSpec.ofChange fnExactPackBitsSpec)

/-- ITS FALSE NEIGHBOUR: 'it returns false'. Refute it at one input. -/
def fnExactPackBitsWrong : ChangeSpec := { name := "fnExactPackBits", fn := fun _ => fun
  | [d] => { results := [.lit (.bool false)], args := [d] }
  | _ => none }
def FnExactPackBitsWrongFalsely : Prop := fnExactPackBitsRow.holds Try.pinned (OpenSpec.ofChange fnExactPackBitsWrong)

/-- 'laws.FnExactUnpackBits': WHATEVER THE INPUT: true; the input reads as it did. -/
def fnExactUnpackBitsSpec : ChangeSpec := { name := "fnExactUnpackBits", fn := fun _ => fun
  | [d1, d2] => { results := [.lit (.bool true)], args := [d1, d2] }
  | _ => none }
def fnExactUnpackBitsRow : OpenClaim := { program := "ytolfomkllbbmhai", sum := "721db94820de18f0edb3628e95c9ae14943f1081d52ccb67c973ba93ad263943", func := "loop.example/g00129/laws.FnExactUnpackBits", spec := "fnExactUnpackBits", apart := false }
def FnExactUnpackBitsSaid : Prop := fnExactUnpackBitsRow.holds Try.pinned (OpenSpec.ofChange fnExactUnpackBitsSpec)

/-- ITS FALSE NEIGHBOUR: 'it returns false'. Refute it at one input. -/
def fnExactUnpackBitsWrong : ChangeSpec := { name := "fnExactUnpackBits", fn := fun _ => fun
  | [d1, d2] => { results := [.lit (.bool false)], args := [d1, d2] }
  | _ => none }
def FnExactUnpackBitsWrongFalsely : Prop := fnExactUnpackBitsRow.holds Try.pinned (OpenSpec.ofChange fnExactUnpackBitsWrong)

/- THE SECOND FORM. 'bulk': how many values and letters a reading holds, each counted each time it is reached (what is shared counts as often as it is met; a slice's spare places count too). A statement '..UptoSaid' is the law's where the arguments, and the package variables that the reading takes, are together of bulk at most 1048576: NARROWER than '..Said'. Prove '..Said' where nothing that the law and all that it calls make is longer than what came in: it says more and counts as full. Else prove '..UptoSaid'. A law counts once. -/
mutual
def uptoBulk {H : Type} : DataW H → Nat
  | .lit (.string bytes) => bytes.length + 1
  | .lit _ => 1
  | .nil => 1
  | .ptr d => uptoBulk d + 1
  | .slice elems spare => uptoBulkAll elems + uptoBulkAll spare + 1
  | .agg parts => uptoBulkAll parts + 1
  | .iface _ d => uptoBulk d + 1
  | .map entries => uptoBulkEntries entries + 1
  | .held _ => 1
def uptoBulkAll {H : Type} : List (DataW H) → Nat
  | [] => 0
  | d :: r => uptoBulk d + uptoBulkAll r
def uptoBulkEntries {H : Type} : List (Lit × DataW H) → Nat
  | [] => 0
  | x :: r => uptoBulkEntry x + uptoBulkEntries r
def uptoBulkEntry {H : Type} : Lit × DataW H → Nat
  | (.string bytes, d) => bytes.length + uptoBulk d + 1
  | (_, d) => uptoBulk d + 1
 end
def uptoSmall : (H : Type) → List (DataW H) → Bool := fun _ ds => decide (uptoBulkAll ds ≤ 1048576)
def OpenSpec.upto (s : _root_.Go.ChangeSpec) : _root_.Go.OpenSpec := { _root_.Go.OpenSpec.ofChange s with cond := some uptoSmall }

/-- 'laws.FnExactWordAt', WHERE WHAT IT READS IS OF BULK AT MOST 1048576: true; the input reads as it did. -/
def fnExactWordAtUptoRow : OpenClaim := { program := "ytolfomkllbbmhai", sum := "721db94820de18f0edb3628e95c9ae14943f1081d52ccb67c973ba93ad263943", func := "loop.example/g00129/laws.FnExactWordAt", spec := "fnExactWordAt", apart := false, narrowed := true }
def FnExactWordAtUptoSaid : Prop := fnExactWordAtUptoRow.holds Try.pinned (OpenSpec.upto fnExactWordAtSpec)

/-- 'laws.FnExactTickOn', WHERE WHAT IT READS IS OF BULK AT MOST 1048576: true; the input reads as it did. -/
def fnExactTickOnUptoRow : OpenClaim := { program := "ytolfomkllbbmhai", sum := "721db94820de18f0edb3628e95c9ae14943f1081d52ccb67c973ba93ad263943", func := "loop.example/g00129/laws.FnExactTickOn", spec := "fnExactTickOn", apart := false, narrowed := true }
def FnExactTickOnUptoSaid : Prop := fnExactTickOnUptoRow.holds Try.pinned (OpenSpec.upto fnExactTickOnSpec)

/-- 'laws.FnExactTickGap', WHERE WHAT IT READS IS OF BULK AT MOST 1048576: true; the input reads as it did. -/
def fnExactTickGapUptoRow : OpenClaim := { program := "ytolfomkllbbmhai", sum := "721db94820de18f0edb3628e95c9ae14943f1081d52ccb67c973ba93ad263943", func := "loop.example/g00129/laws.FnExactTickGap", spec := "fnExactTickGap", apart := false, narrowed := true }
def FnExactTickGapUptoSaid : Prop := fnExactTickGapUptoRow.holds Try.pinned (OpenSpec.upto fnExactTickGapSpec)

/-- 'laws.FnExactTickDue', WHERE WHAT IT READS IS OF BULK AT MOST 1048576: true; the input reads as it did. -/
def fnExactTickDueUptoRow : OpenClaim := { program := "ytolfomkllbbmhai", sum := "721db94820de18f0edb3628e95c9ae14943f1081d52ccb67c973ba93ad263943", func := "loop.example/g00129/laws.FnExactTickDue", spec := "fnExactTickDue", apart := false, narrowed := true }
def FnExactTickDueUptoSaid : Prop := fnExactTickDueUptoRow.holds Try.pinned (OpenSpec.upto fnExactTickDueSpec)

/-- 'laws.FnExactPackBits', WHERE WHAT IT READS IS OF BULK AT MOST 1048576: true; the input reads as it did. -/
def fnExactPackBitsUptoRow : OpenClaim := { program := "ytolfomkllbbmhai", sum := "721db94820de18f0edb3628e95c9ae14943f1081d52ccb67c973ba93ad263943", func := "loop.example/g00129/laws.FnExactPackBits", spec := "fnExactPackBits", apart := false, narrowed := true }
def FnExactPackBitsUptoSaid : Prop := fnExactPackBitsUptoRow.holds Try.pinned (OpenSpec.upto fnExactPackBitsSpec)

/-- 'laws.FnExactUnpackBits', WHERE WHAT IT READS IS OF BULK AT MOST 1048576: true; the input reads as it did. -/
def fnExactUnpackBitsUptoRow : OpenClaim := { program := "ytolfomkllbbmhai", sum := "721db94820de18f0edb3628e95c9ae14943f1081d52ccb67c973ba93ad263943", func := "loop.example/g00129/laws.FnExactUnpackBits", spec := "fnExactUnpackBits", apart := false, narrowed := true }
def FnExactUnpackBitsUptoSaid : Prop := fnExactUnpackBitsUptoRow.holds Try.pinned (OpenSpec.upto fnExactUnpackBitsSpec)

end Rows
end Go.Proofs.Ytolfomkllbbmhai
