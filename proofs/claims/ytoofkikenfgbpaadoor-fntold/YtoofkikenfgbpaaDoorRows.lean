/-
  NARROWER THAN 'FOR EVERY INPUT', by the rows' own cells (each row's printed sentence says how): FnRtu: laid · FnTold: laid.
  DERIVED. THE GIVEN ROWS OF THIS SEAT. 2 by the template 'for every input the law returns true; each argument reads behind the call as it read before'; 0 by the template 'total and deterministic' (their statements: YtoofkikenfgbpaaDoorTotals.lean).
  GIVEN WITH THE SEED: the statements are not yours to turn. If you find one false, say at which input.
  Laid BY PROGRAM, IN A SANDBOX (cutbox-rows.mjs): the forced cells as the released guide's own fill.sh prints them over the translation fe042dec73b68e67… (all of the seat's roots in one cut). By AI agents, Wed Nov 11 2026. No macro, syntax, notation, axiom, sorry.
-/
import Derived.Test.YtoofkikenfgbpaaDoorChecked
import GoSem.Claim
import GoSem.ClaimJoined
import GoSem.ClaimMapViews
import Derived.JoinedTies
import Derived.KernelRfl
namespace Go.Proofs.YtoofkikenfgbpaaDoor
/- THE CELL 'sum', in the pinned program and in every row, IS THE sha256 OF THE DUMP (.gsa) THAT YtoofkikenfgbpaaDoorProg.lean LOADS. Nothing in Lean hashes anything: it is a label: what it is worth is what the hold of that sum in a sandbox is worth. -/
noncomputable def Tryd.pinned : Pinned := { name := "ytoofkikenfgbpaadoor", sum := "fe042dec73b68e673fbc690835a4583041033aa7adea8b24fc2ce264abef0928", checked := Tryd.checked }
namespace Rows
def none {H : Type} : Left H := { results := [], args := [] }

/- WHAT THE LISTED PACKAGE-LEVEL VARIABLES READ AS WHEN THE CALL BEGINS. Each datum BY PROGRAM (the guide's laid-datum.mjs) off the statement by which the dump's own 'gosem.cut.vars' lays the variable. In a bare row this is a premise. The card (YtoofkikenfgbpaaDoorCards.lean) ties it to the program's text. -/
def laid_loop_example_g00129_impl_crcOfFour {H : Type} : DataW H := .agg [.lit (.int .i64 0), .lit (.int .i64 52225), .lit (.int .i64 55297), .lit (.int .i64 5120), .lit (.int .i64 61441), .lit (.int .i64 15360), .lit (.int .i64 10240), .lit (.int .i64 58369), .lit (.int .i64 40961), .lit (.int .i64 27648), .lit (.int .i64 30720), .lit (.int .i64 46081), .lit (.int .i64 20480), .lit (.int .i64 39937), .lit (.int .i64 34817), .lit (.int .i64 17408)]
def laid_errors_errorType {H : Type} : DataW H := .iface "internal/reflectlite.rtype" (.agg [.ptr (.lit (.string [101, 114, 114, 111, 114]))])

/-- 'laws.FnRtu': WHATEVER THE INPUT: true; the input reads as it did. -/
def fnRtuSpec : ChangeSpec := { name := "fnRtu", vars := ["loop.example/g00129/impl.crcOfFour"], fn := fun _ => fun
  | [d, g1] => { results := [.lit (.bool true)], args := [d], vars := [g1] }
  | _ => none }
def fnRtuRow : OpenClaim := { program := "ytoofkikenfgbpaadoor", sum := "fe042dec73b68e673fbc690835a4583041033aa7adea8b24fc2ce264abef0928", func := "loop.example/g00129/laws.FnRtu", spec := "fnRtu", named := ["loop.example/g00129/impl.crcOfFour"], apart := false, laid := [("loop.example/g00129/impl.crcOfFour", laid_loop_example_g00129_impl_crcOfFour)] }
def FnRtuSaid : Prop := fnRtuRow.holds Tryd.pinned (OpenSpec.ofChange fnRtuSpec)

/-- ITS FALSE NEIGHBOUR: 'it returns false'. Refute it at one input. -/
def fnRtuWrong : ChangeSpec := { name := "fnRtu", vars := ["loop.example/g00129/impl.crcOfFour"], fn := fun _ => fun
  | [d, g1] => { results := [.lit (.bool false)], args := [d], vars := [g1] }
  | _ => none }
def FnRtuWrongFalsely : Prop := fnRtuRow.holds Tryd.pinned (OpenSpec.ofChange fnRtuWrong)

/-- 'laws.FnTold': WHATEVER THE INPUT: true; the input reads as it did. -/
def fnToldSpec : ChangeSpec := { name := "fnTold", fn := fun _ => fun
  | [d] => { results := [.lit (.bool true)], args := [d] }
  | _ => none }
def fnToldRow : OpenClaim := { program := "ytoofkikenfgbpaadoor", sum := "fe042dec73b68e673fbc690835a4583041033aa7adea8b24fc2ce264abef0928", func := "loop.example/g00129/laws.FnTold", spec := "fnTold", inPlace := ["internal/reflectlite.ValueOf", "(internal/reflectlite.Value).Type", "(internal/reflectlite.Value).IsNil", "internal/reflectlite.TypeOf", "(internal/reflectlite.Value).Elem", "(internal/reflectlite.Value).Set"], unfollowed := true, recurses := true, named := ["errors.errorType"], apart := false, laid := [("errors.errorType", laid_errors_errorType)] }
def FnToldSaid : Prop := fnToldRow.holds Tryd.pinned (OpenSpec.ofChange fnToldSpec)

/-- ITS FALSE NEIGHBOUR: 'it returns false'. Refute it at one input. -/
def fnToldWrong : ChangeSpec := { name := "fnTold", fn := fun _ => fun
  | [d] => { results := [.lit (.bool false)], args := [d] }
  | _ => none }
def FnToldWrongFalsely : Prop := fnToldRow.holds Tryd.pinned (OpenSpec.ofChange fnToldWrong)

/- THE SECOND FORM. 'bulk': how many values and letters a reading holds, each counted each time it is reached (what is shared counts as often as it is met; a slice's spare places count too). A statement '..UptoSaid' is the law's where the arguments, and the package variables that the reading takes, are together of bulk at most 1048576: NARROWER than '..Said'. Prove '..Said' where nothing that the law and all that it calls make is longer than what came in: it says more and counts as full. Else prove '..UptoSaid'. A law counts once. -/
mutual
def uptoBulk {H : Type} : DataW H → Nat
  | .lit (.string bytes) => bytes.length + 1
  | .lit _ => 1
  | .nil => 1
  | .ptr d => uptoBulk d + 1
  | .slice elems spare => uptoBulkAll elems + uptoBulkAll spare + 1
  | .agg parts => uptoBulkAll parts + 1
  | .iface _ d => uptoBulk d + 1
  | .map entries => uptoBulkEntries entries + 1
  | .held _ => 1
def uptoBulkAll {H : Type} : List (DataW H) → Nat
  | [] => 0
  | d :: r => uptoBulk d + uptoBulkAll r
def uptoBulkEntries {H : Type} : List (Lit × DataW H) → Nat
  | [] => 0
  | x :: r => uptoBulkEntry x + uptoBulkEntries r
def uptoBulkEntry {H : Type} : Lit × DataW H → Nat
  | (.string bytes, d) => bytes.length + uptoBulk d + 1
  | (_, d) => uptoBulk d + 1
 end
def uptoSmall : (H : Type) → List (DataW H) → Bool := fun _ ds => decide (uptoBulkAll ds ≤ 1048576)
def OpenSpec.upto (s : _root_.Go.ChangeSpec) : _root_.Go.OpenSpec := { _root_.Go.OpenSpec.ofChange s with cond := some uptoSmall }

/-- 'laws.FnRtu', WHERE WHAT IT READS IS OF BULK AT MOST 1048576: true; the input reads as it did. -/
def fnRtuUptoRow : OpenClaim := { program := "ytoofkikenfgbpaadoor", sum := "fe042dec73b68e673fbc690835a4583041033aa7adea8b24fc2ce264abef0928", func := "loop.example/g00129/laws.FnRtu", spec := "fnRtu", named := ["loop.example/g00129/impl.crcOfFour"], apart := false, laid := [("loop.example/g00129/impl.crcOfFour", laid_loop_example_g00129_impl_crcOfFour)], narrowed := true }
def FnRtuUptoSaid : Prop := fnRtuUptoRow.holds Tryd.pinned (OpenSpec.upto fnRtuSpec)

/-- 'laws.FnTold', WHERE WHAT IT READS IS OF BULK AT MOST 1048576: true; the input reads as it did. -/
def fnToldUptoRow : OpenClaim := { program := "ytoofkikenfgbpaadoor", sum := "fe042dec73b68e673fbc690835a4583041033aa7adea8b24fc2ce264abef0928", func := "loop.example/g00129/laws.FnTold", spec := "fnTold", inPlace := ["internal/reflectlite.ValueOf", "(internal/reflectlite.Value).Type", "(internal/reflectlite.Value).IsNil", "internal/reflectlite.TypeOf", "(internal/reflectlite.Value).Elem", "(internal/reflectlite.Value).Set"], unfollowed := true, recurses := true, named := ["errors.errorType"], apart := false, laid := [("errors.errorType", laid_errors_errorType)], narrowed := true }
def FnToldUptoSaid : Prop := fnToldUptoRow.holds Tryd.pinned (OpenSpec.upto fnToldSpec)

end Rows
end Go.Proofs.YtoofkikenfgbpaaDoor
