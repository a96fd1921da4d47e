/-
  NARROWER THAN 'FOR EVERY INPUT', by the rows' own cells (each row's printed sentence says how): FnRtu: laid · FnGaps: laid · FnExactPutRtu: laid · FnExactGetRtu: laid · FnExactRtuHear: laid · FnExactRtuWait: laid.
  DERIVED. THE GIVEN ROWS OF THIS SEAT. 6 by the template 'for every input the law returns true; each argument reads behind the call as it read before'; 0 by the template 'total and deterministic' (their statements: YtonikfajopdagaaDoorTotals.lean).
  GIVEN WITH THE SEED: the statements are not yours to turn. If you find one false, say at which input.
  Laid BY PROGRAM, IN A SANDBOX (cutbox-rows.mjs): the forced cells as the released guide's own fill.sh prints them over the translation b4d77110ad28932c… (all of the seat's roots in one cut). By AI agents, Wed Nov 11 2026. No macro, syntax, notation, axiom, sorry.
-/
import Derived.Test.YtonikfajopdagaaDoorChecked
import GoSem.Claim
import GoSem.ClaimJoined
import GoSem.ClaimMapViews
import Derived.JoinedTies
import Derived.KernelRfl
namespace Go.Proofs.YtonikfajopdagaaDoor
/- THE CELL 'sum', in the pinned program and in every row, IS THE sha256 OF THE DUMP (.gsa) THAT YtonikfajopdagaaDoorProg.lean LOADS. Nothing in Lean hashes anything: it is a label: what it is worth is what the hold of that sum in a sandbox is worth. -/
noncomputable def Tryd.pinned : Pinned := { name := "ytonikfajopdagaadoor", sum := "b4d77110ad28932cb472129ff18c9bda03ba7e020a47ba20a28e9da7e98fc52c", checked := Tryd.checked }
namespace Rows
def none {H : Type} : Left H := { results := [], args := [] }

/- WHAT THE LISTED PACKAGE-LEVEL VARIABLES READ AS WHEN THE CALL BEGINS. Each datum BY PROGRAM (the guide's laid-datum.mjs) off the statement by which the dump's own 'gosem.cut.vars' lays the variable. In a bare row this is a premise. The card (YtonikfajopdagaaDoorCards.lean) ties it to the program's text. -/
def laid_loop_example_g00129_impl_crcOfFour {H : Type} : DataW H := .agg [.lit (.int .i64 0), .lit (.int .i64 52225), .lit (.int .i64 55297), .lit (.int .i64 5120), .lit (.int .i64 61441), .lit (.int .i64 15360), .lit (.int .i64 10240), .lit (.int .i64 58369), .lit (.int .i64 40961), .lit (.int .i64 27648), .lit (.int .i64 30720), .lit (.int .i64 46081), .lit (.int .i64 20480), .lit (.int .i64 39937), .lit (.int .i64 34817), .lit (.int .i64 17408)]

/-- 'laws.FnRtu': WHATEVER THE INPUT: true; the input reads as it did. -/
def fnRtuSpec : ChangeSpec := { name := "fnRtu", vars := ["loop.example/g00129/impl.crcOfFour"], fn := fun _ => fun
  | [d, g1] => { results := [.lit (.bool true)], args := [d], vars := [g1] }
  | _ => none }
def fnRtuRow : OpenClaim := { program := "ytonikfajopdagaadoor", sum := "b4d77110ad28932cb472129ff18c9bda03ba7e020a47ba20a28e9da7e98fc52c", func := "loop.example/g00129/laws.FnRtu", spec := "fnRtu", named := ["loop.example/g00129/impl.crcOfFour"], apart := false, laid := [("loop.example/g00129/impl.crcOfFour", laid_loop_example_g00129_impl_crcOfFour)] }
def FnRtuSaid : Prop := fnRtuRow.holds Tryd.pinned (OpenSpec.ofChange fnRtuSpec)

/-- ITS FALSE NEIGHBOUR: 'it returns false'. Refute it at one input. -/
def fnRtuWrong : ChangeSpec := { name := "fnRtu", vars := ["loop.example/g00129/impl.crcOfFour"], fn := fun _ => fun
  | [d, g1] => { results := [.lit (.bool false)], args := [d], vars := [g1] }
  | _ => none }
def FnRtuWrongFalsely : Prop := fnRtuRow.holds Tryd.pinned (OpenSpec.ofChange fnRtuWrong)

/-- 'laws.FnGaps': WHATEVER THE INPUT: true; the input reads as it did. -/
def fnGapsSpec : ChangeSpec := { name := "fnGaps", vars := ["loop.example/g00129/impl.crcOfFour"], fn := fun _ => fun
  | [d, g1] => { results := [.lit (.bool true)], args := [d], vars := [g1] }
  | _ => none }
def fnGapsRow : OpenClaim := { program := "ytonikfajopdagaadoor", sum := "b4d77110ad28932cb472129ff18c9bda03ba7e020a47ba20a28e9da7e98fc52c", func := "loop.example/g00129/laws.FnGaps", spec := "fnGaps", named := ["loop.example/g00129/impl.crcOfFour"], apart := false, laid := [("loop.example/g00129/impl.crcOfFour", laid_loop_example_g00129_impl_crcOfFour)] }
def FnGapsSaid : Prop := fnGapsRow.holds Tryd.pinned (OpenSpec.ofChange fnGapsSpec)

/-- ITS FALSE NEIGHBOUR: 'it returns false'. Refute it at one input. -/
def fnGapsWrong : ChangeSpec := { name := "fnGaps", vars := ["loop.example/g00129/impl.crcOfFour"], fn := fun _ => fun
  | [d, g1] => { results := [.lit (.bool false)], args := [d], vars := [g1] }
  | _ => none }
def FnGapsWrongFalsely : Prop := fnGapsRow.holds Tryd.pinned (OpenSpec.ofChange fnGapsWrong)

/-- 'laws.FnExactPutRtu': WHATEVER THE INPUT: true; the input reads as it did. -/
def fnExactPutRtuSpec : ChangeSpec := { name := "fnExactPutRtu", vars := ["loop.example/g00129/impl.crcOfFour"], fn := fun _ => fun
  | [d1, d2, g1] => { results := [.lit (.bool true)], args := [d1, d2], vars := [g1] }
  | _ => none }
def fnExactPutRtuRow : OpenClaim := { program := "ytonikfajopdagaadoor", sum := "b4d77110ad28932cb472129ff18c9bda03ba7e020a47ba20a28e9da7e98fc52c", func := "loop.example/g00129/laws.FnExactPutRtu", spec := "fnExactPutRtu", named := ["loop.example/g00129/impl.crcOfFour"], apart := false, laid := [("loop.example/g00129/impl.crcOfFour", laid_loop_example_g00129_impl_crcOfFour)] }
def FnExactPutRtuSaid : Prop := fnExactPutRtuRow.holds Tryd.pinned (OpenSpec.ofChange fnExactPutRtuSpec)

/-- ITS FALSE NEIGHBOUR: 'it returns false'. Refute it at one input. -/
def fnExactPutRtuWrong : ChangeSpec := { name := "fnExactPutRtu", vars := ["loop.example/g00129/impl.crcOfFour"], fn := fun _ => fun
  | [d1, d2, g1] => { results := [.lit (.bool false)], args := [d1, d2], vars := [g1] }
  | _ => none }
def FnExactPutRtuWrongFalsely : Prop := fnExactPutRtuRow.holds Tryd.pinned (OpenSpec.ofChange fnExactPutRtuWrong)

/-- 'laws.FnExactGetRtu': WHATEVER THE INPUT: true; the input reads as it did. -/
def fnExactGetRtuSpec : ChangeSpec := { name := "fnExactGetRtu", vars := ["loop.example/g00129/impl.crcOfFour"], fn := fun _ => fun
  | [d, g1] => { results := [.lit (.bool true)], args := [d], vars := [g1] }
  | _ => none }
def fnExactGetRtuRow : OpenClaim := { program := "ytonikfajopdagaadoor", sum := "b4d77110ad28932cb472129ff18c9bda03ba7e020a47ba20a28e9da7e98fc52c", func := "loop.example/g00129/laws.FnExactGetRtu", spec := "fnExactGetRtu", named := ["loop.example/g00129/impl.crcOfFour"], apart := false, laid := [("loop.example/g00129/impl.crcOfFour", laid_loop_example_g00129_impl_crcOfFour)] }
def FnExactGetRtuSaid : Prop := fnExactGetRtuRow.holds Tryd.pinned (OpenSpec.ofChange fnExactGetRtuSpec)

/-- ITS FALSE NEIGHBOUR: 'it returns false'. Refute it at one input. -/
def fnExactGetRtuWrong : ChangeSpec := { name := "fnExactGetRtu", vars := ["loop.example/g00129/impl.crcOfFour"], fn := fun _ => fun
  | [d, g1] => { results := [.lit (.bool false)], args := [d], vars := [g1] }
  | _ => none }
def FnExactGetRtuWrongFalsely : Prop := fnExactGetRtuRow.holds Tryd.pinned (OpenSpec.ofChange fnExactGetRtuWrong)

/-- 'laws.FnExactRtuHear': WHATEVER THE INPUT: true; the input reads as it did. -/
def fnExactRtuHearSpec : ChangeSpec := { name := "fnExactRtuHear", vars := ["loop.example/g00129/impl.crcOfFour"], fn := fun _ => fun
  | [d1, d2, d3, g1] => { results := [.lit (.bool true)], args := [d1, d2, d3], vars := [g1] }
  | _ => none }
def fnExactRtuHearRow : OpenClaim := { program := "ytonikfajopdagaadoor", sum := "b4d77110ad28932cb472129ff18c9bda03ba7e020a47ba20a28e9da7e98fc52c", func := "loop.example/g00129/laws.FnExactRtuHear", spec := "fnExactRtuHear", named := ["loop.example/g00129/impl.crcOfFour"], apart := false, laid := [("loop.example/g00129/impl.crcOfFour", laid_loop_example_g00129_impl_crcOfFour)] }
def FnExactRtuHearSaid : Prop := fnExactRtuHearRow.holds Tryd.pinned (OpenSpec.ofChange fnExactRtuHearSpec)

/-- ITS FALSE NEIGHBOUR: 'it returns false'. Refute it at one input. -/
def fnExactRtuHearWrong : ChangeSpec := { name := "fnExactRtuHear", vars := ["loop.example/g00129/impl.crcOfFour"], fn := fun _ => fun
  | [d1, d2, d3, g1] => { results := [.lit (.bool false)], args := [d1, d2, d3], vars := [g1] }
  | _ => none }
def FnExactRtuHearWrongFalsely : Prop := fnExactRtuHearRow.holds Tryd.pinned (OpenSpec.ofChange fnExactRtuHearWrong)

/-- 'laws.FnExactRtuWait': WHATEVER THE INPUT: true; the input reads as it did. -/
def fnExactRtuWaitSpec : ChangeSpec := { name := "fnExactRtuWait", vars := ["loop.example/g00129/impl.crcOfFour"], fn := fun _ => fun
  | [d1, d2, g1] => { results := [.lit (.bool true)], args := [d1, d2], vars := [g1] }
  | _ => none }
def fnExactRtuWaitRow : OpenClaim := { program := "ytonikfajopdagaadoor", sum := "b4d77110ad28932cb472129ff18c9bda03ba7e020a47ba20a28e9da7e98fc52c", func := "loop.example/g00129/laws.FnExactRtuWait", spec := "fnExactRtuWait", named := ["loop.example/g00129/impl.crcOfFour"], apart := false, laid := [("loop.example/g00129/impl.crcOfFour", laid_loop_example_g00129_impl_crcOfFour)] }
def FnExactRtuWaitSaid : Prop := fnExactRtuWaitRow.holds Tryd.pinned (OpenSpec.ofChange fnExactRtuWaitSpec)

/-- ITS FALSE NEIGHBOUR: 'it returns false'. Refute it at one input. -/
def fnExactRtuWaitWrong : ChangeSpec := { name := "fnExactRtuWait", vars := ["loop.example/g00129/impl.crcOfFour"], fn := fun _ => fun
  | [d1, d2, g1] => { results := [.lit (.bool false)], args := [d1, d2], vars := [g1] }
  | _ => none }
def FnExactRtuWaitWrongFalsely : Prop := fnExactRtuWaitRow.holds Tryd.pinned (OpenSpec.ofChange fnExactRtuWaitWrong)

/- THE SECOND FORM. 'bulk': how many values and letters a reading holds, each counted each time it is reached (what is shared counts as often as it is met; a slice's spare places count too). A statement '..UptoSaid' is the law's where the arguments, and the package variables that the reading takes, are together of bulk at most 1048576: NARROWER than '..Said'. Prove '..Said' where nothing that the law and all that it calls make is longer than what came in: it says more and counts as full. Else prove '..UptoSaid'. A law counts once. -/
mutual
def uptoBulk {H : Type} : DataW H → Nat
  | .lit (.string bytes) => bytes.length + 1
  | .lit _ => 1
  | .nil => 1
  | .ptr d => uptoBulk d + 1
  | .slice elems spare => uptoBulkAll elems + uptoBulkAll spare + 1
  | .agg parts => uptoBulkAll parts + 1
  | .iface _ d => uptoBulk d + 1
  | .map entries => uptoBulkEntries entries + 1
  | .held _ => 1
def uptoBulkAll {H : Type} : List (DataW H) → Nat
  | [] => 0
  | d :: r => uptoBulk d + uptoBulkAll r
def uptoBulkEntries {H : Type} : List (Lit × DataW H) → Nat
  | [] => 0
  | x :: r => uptoBulkEntry x + uptoBulkEntries r
def uptoBulkEntry {H : Type} : Lit × DataW H → Nat
  | (.string bytes, d) => bytes.length + uptoBulk d + 1
  | (_, d) => uptoBulk d + 1
 end
def uptoSmall : (H : Type) → List (DataW H) → Bool := fun _ ds => decide (uptoBulkAll ds ≤ 1048576)
def OpenSpec.upto (s : _root_.Go.ChangeSpec) : _root_.Go.OpenSpec := { _root_.Go.OpenSpec.ofChange s with cond := some uptoSmall }

/-- 'laws.FnRtu', WHERE WHAT IT READS IS OF BULK AT MOST 1048576: true; the input reads as it did. -/
def fnRtuUptoRow : OpenClaim := { program := "ytonikfajopdagaadoor", sum := "b4d77110ad28932cb472129ff18c9bda03ba7e020a47ba20a28e9da7e98fc52c", func := "loop.example/g00129/laws.FnRtu", spec := "fnRtu", named := ["loop.example/g00129/impl.crcOfFour"], apart := false, laid := [("loop.example/g00129/impl.crcOfFour", laid_loop_example_g00129_impl_crcOfFour)], narrowed := true }
def FnRtuUptoSaid : Prop := fnRtuUptoRow.holds Tryd.pinned (OpenSpec.upto fnRtuSpec)

/-- 'laws.FnGaps', WHERE WHAT IT READS IS OF BULK AT MOST 1048576: true; the input reads as it did. -/
def fnGapsUptoRow : OpenClaim := { program := "ytonikfajopdagaadoor", sum := "b4d77110ad28932cb472129ff18c9bda03ba7e020a47ba20a28e9da7e98fc52c", func := "loop.example/g00129/laws.FnGaps", spec := "fnGaps", named := ["loop.example/g00129/impl.crcOfFour"], apart := false, laid := [("loop.example/g00129/impl.crcOfFour", laid_loop_example_g00129_impl_crcOfFour)], narrowed := true }
def FnGapsUptoSaid : Prop := fnGapsUptoRow.holds Tryd.pinned (OpenSpec.upto fnGapsSpec)

/-- 'laws.FnExactPutRtu', WHERE WHAT IT READS IS OF BULK AT MOST 1048576: true; the input reads as it did. -/
def fnExactPutRtuUptoRow : OpenClaim := { program := "ytonikfajopdagaadoor", sum := "b4d77110ad28932cb472129ff18c9bda03ba7e020a47ba20a28e9da7e98fc52c", func := "loop.example/g00129/laws.FnExactPutRtu", spec := "fnExactPutRtu", named := ["loop.example/g00129/impl.crcOfFour"], apart := false, laid := [("loop.example/g00129/impl.crcOfFour", laid_loop_example_g00129_impl_crcOfFour)], narrowed := true }
def FnExactPutRtuUptoSaid : Prop := fnExactPutRtuUptoRow.holds Tryd.pinned (OpenSpec.upto fnExactPutRtuSpec)

/-- 'laws.FnExactGetRtu', WHERE WHAT IT READS IS OF BULK AT MOST 1048576: true; the input reads as it did. -/
def fnExactGetRtuUptoRow : OpenClaim := { program := "ytonikfajopdagaadoor", sum := "b4d77110ad28932cb472129ff18c9bda03ba7e020a47ba20a28e9da7e98fc52c", func := "loop.example/g00129/laws.FnExactGetRtu", spec := "fnExactGetRtu", named := ["loop.example/g00129/impl.crcOfFour"], apart := false, laid := [("loop.example/g00129/impl.crcOfFour", laid_loop_example_g00129_impl_crcOfFour)], narrowed := true }
def FnExactGetRtuUptoSaid : Prop := fnExactGetRtuUptoRow.holds Tryd.pinned (OpenSpec.upto fnExactGetRtuSpec)

/-- 'laws.FnExactRtuHear', WHERE WHAT IT READS IS OF BULK AT MOST 1048576: true; the input reads as it did. -/
def fnExactRtuHearUptoRow : OpenClaim := { program := "ytonikfajopdagaadoor", sum := "b4d77110ad28932cb472129ff18c9bda03ba7e020a47ba20a28e9da7e98fc52c", func := "loop.example/g00129/laws.FnExactRtuHear", spec := "fnExactRtuHear", named := ["loop.example/g00129/impl.crcOfFour"], apart := false, laid := [("loop.example/g00129/impl.crcOfFour", laid_loop_example_g00129_impl_crcOfFour)], narrowed := true }
def FnExactRtuHearUptoSaid : Prop := fnExactRtuHearUptoRow.holds Tryd.pinned (OpenSpec.upto fnExactRtuHearSpec)

/-- 'laws.FnExactRtuWait', WHERE WHAT IT READS IS OF BULK AT MOST 1048576: true; the input reads as it did. -/
def fnExactRtuWaitUptoRow : OpenClaim := { program := "ytonikfajopdagaadoor", sum := "b4d77110ad28932cb472129ff18c9bda03ba7e020a47ba20a28e9da7e98fc52c", func := "loop.example/g00129/laws.FnExactRtuWait", spec := "fnExactRtuWait", named := ["loop.example/g00129/impl.crcOfFour"], apart := false, laid := [("loop.example/g00129/impl.crcOfFour", laid_loop_example_g00129_impl_crcOfFour)], narrowed := true }
def FnExactRtuWaitUptoSaid : Prop := fnExactRtuWaitUptoRow.holds Tryd.pinned (OpenSpec.upto fnExactRtuWaitSpec)

end Rows
end Go.Proofs.YtonikfajopdagaaDoor
