/-
  No cell of these rows narrows 'for every input' (looked for: loops, veiled, ifaces, maps, wideKeys, modest, calm, conditions, laid).
  DERIVED. THE GIVEN ROWS OF THIS SEAT. 3 by the template 'for every input the law returns true; each argument reads behind the call as it read before'; 0 by the template 'total and deterministic' (their statements: YtimgohnnapaafaaTotals.lean).
  GIVEN WITH THE SEED: the statements are not yours to turn. If you find one false, say at which input.
  Laid BY PROGRAM, IN A SANDBOX (cutbox-rows.mjs): the forced cells as the released guide's own fill.sh prints them over the translation 08c52563516bd9e4… (all of the seat's roots in one cut). By AI agents, Wed Nov 11 2026. No macro, syntax, notation, axiom, sorry.
-/
import Derived.Test.YtimgohnnapaafaaChecked
import GoSem.Claim
import GoSem.ClaimJoined
import GoSem.ClaimMapViews
import Derived.JoinedTies
import Derived.KernelRfl
namespace Go.Proofs.Ytimgohnnapaafaa
/- THE CELL 'sum', in the pinned program and in every row, IS THE sha256 OF THE DUMP (.gsa) THAT YtimgohnnapaafaaProg.lean LOADS. Nothing in Lean hashes anything: it is a label: what it is worth is what the hold of that sum in a sandbox is worth. -/
noncomputable def Try.pinned : Pinned := { name := "ytimgohnnapaafaa", sum := "08c52563516bd9e420d088b1536c97d7911129d7124d65c64d7036fa5fef2b79", checked := Try.checked }
namespace Rows
def none {H : Type} : Left H := { results := [], args := [] }

/-- 'laws.FnExactPortNew': WHATEVER THE INPUT: true; the input reads as it did. -/
def fnExactPortNewSpec : ChangeSpec := { name := "fnExactPortNew", fn := fun _ => fun
  | [d1, d2] => { results := [.lit (.bool true)], args := [d1, d2] }
  | _ => none }
def fnExactPortNewRow : OpenClaim := { program := "ytimgohnnapaafaa", sum := "08c52563516bd9e420d088b1536c97d7911129d7124d65c64d7036fa5fef2b79", func := "loop.example/g00129/laws.FnExactPortNew", spec := "fnExactPortNew", unfollowed := true, recurses := true, apart := false }
def FnExactPortNewSaid : Prop := fnExactPortNewRow.holds Try.pinned (OpenSpec.ofChange fnExactPortNewSpec)

/-- ITS FALSE NEIGHBOUR: 'it returns false'. Refute it at one input. -/
def fnExactPortNewWrong : ChangeSpec := { name := "fnExactPortNew", fn := fun _ => fun
  | [d1, d2] => { results := [.lit (.bool false)], args := [d1, d2] }
  | _ => none }
def FnExactPortNewWrongFalsely : Prop := fnExactPortNewRow.holds Try.pinned (OpenSpec.ofChange fnExactPortNewWrong)

/-- 'laws.FnExactPortOk': WHATEVER THE INPUT: true; the input reads as it did. -/
def fnExactPortOkSpec : ChangeSpec := { name := "fnExactPortOk", fn := fun _ => fun
  | [d] => { results := [.lit (.bool true)], args := [d] }
  | _ => none }
def fnExactPortOkRow : OpenClaim := { program := "ytimgohnnapaafaa", sum := "08c52563516bd9e420d088b1536c97d7911129d7124d65c64d7036fa5fef2b79", func := "loop.example/g00129/laws.FnExactPortOk", spec := "fnExactPortOk", unfollowed := true, recurses := true, apart := false }
def FnExactPortOkSaid : Prop := fnExactPortOkRow.holds Try.pinned (OpenSpec.ofChange fnExactPortOkSpec)

/-- ITS FALSE NEIGHBOUR: 'it returns false'. Refute it at one input. -/
def fnExactPortOkWrong : ChangeSpec := { name := "fnExactPortOk", fn := fun _ => fun
  | [d] => { results := [.lit (.bool false)], args := [d] }
  | _ => none }
def FnExactPortOkWrongFalsely : Prop := fnExactPortOkRow.holds Try.pinned (OpenSpec.ofChange fnExactPortOkWrong)

/-- 'laws.FnExactPortSay': WHATEVER THE INPUT: true; the input reads as it did. -/
def fnExactPortSaySpec : ChangeSpec := { name := "fnExactPortSay", fn := fun _ => fun
  | [d1, d2] => { results := [.lit (.bool true)], args := [d1, d2] }
  | _ => none }
def fnExactPortSayRow : OpenClaim := { program := "ytimgohnnapaafaa", sum := "08c52563516bd9e420d088b1536c97d7911129d7124d65c64d7036fa5fef2b79", func := "loop.example/g00129/laws.FnExactPortSay", spec := "fnExactPortSay", unfollowed := true, recurses := true, apart := false }
def FnExactPortSaySaid : Prop := fnExactPortSayRow.holds Try.pinned (OpenSpec.ofChange fnExactPortSaySpec)

/-- ITS FALSE NEIGHBOUR: 'it returns false'. Refute it at one input. -/
def fnExactPortSayWrong : ChangeSpec := { name := "fnExactPortSay", fn := fun _ => fun
  | [d1, d2] => { results := [.lit (.bool false)], args := [d1, d2] }
  | _ => none }
def FnExactPortSayWrongFalsely : Prop := fnExactPortSayRow.holds Try.pinned (OpenSpec.ofChange fnExactPortSayWrong)

/- THE SECOND FORM. 'bulk': how many values and letters a reading holds, each counted each time it is reached (what is shared counts as often as it is met; a slice's spare places count too). A statement '..UptoSaid' is the law's where the arguments, and the package variables that the reading takes, are together of bulk at most 1048576: NARROWER than '..Said'. Prove '..Said' where nothing that the law and all that it calls make is longer than what came in: it says more and counts as full. Else prove '..UptoSaid'. A law counts once. -/
mutual
def uptoBulk {H : Type} : DataW H → Nat
  | .lit (.string bytes) => bytes.length + 1
  | .lit _ => 1
  | .nil => 1
  | .ptr d => uptoBulk d + 1
  | .slice elems spare => uptoBulkAll elems + uptoBulkAll spare + 1
  | .agg parts => uptoBulkAll parts + 1
  | .iface _ d => uptoBulk d + 1
  | .map entries => uptoBulkEntries entries + 1
  | .held _ => 1
def uptoBulkAll {H : Type} : List (DataW H) → Nat
  | [] => 0
  | d :: r => uptoBulk d + uptoBulkAll r
def uptoBulkEntries {H : Type} : List (Lit × DataW H) → Nat
  | [] => 0
  | x :: r => uptoBulkEntry x + uptoBulkEntries r
def uptoBulkEntry {H : Type} : Lit × DataW H → Nat
  | (.string bytes, d) => bytes.length + uptoBulk d + 1
  | (_, d) => uptoBulk d + 1
 end
def uptoSmall : (H : Type) → List (DataW H) → Bool := fun _ ds => decide (uptoBulkAll ds ≤ 1048576)
def OpenSpec.upto (s : _root_.Go.ChangeSpec) : _root_.Go.OpenSpec := { _root_.Go.OpenSpec.ofChange s with cond := some uptoSmall }

/-- 'laws.FnExactPortNew', WHERE WHAT IT READS IS OF BULK AT MOST 1048576: true; the input reads as it did. -/
def fnExactPortNewUptoRow : OpenClaim := { program := "ytimgohnnapaafaa", sum := "08c52563516bd9e420d088b1536c97d7911129d7124d65c64d7036fa5fef2b79", func := "loop.example/g00129/laws.FnExactPortNew", spec := "fnExactPortNew", unfollowed := true, recurses := true, apart := false, narrowed := true }
def FnExactPortNewUptoSaid : Prop := fnExactPortNewUptoRow.holds Try.pinned (OpenSpec.upto fnExactPortNewSpec)

/-- 'laws.FnExactPortOk', WHERE WHAT IT READS IS OF BULK AT MOST 1048576: true; the input reads as it did. -/
def fnExactPortOkUptoRow : OpenClaim := { program := "ytimgohnnapaafaa", sum := "08c52563516bd9e420d088b1536c97d7911129d7124d65c64d7036fa5fef2b79", func := "loop.example/g00129/laws.FnExactPortOk", spec := "fnExactPortOk", unfollowed := true, recurses := true, apart := false, narrowed := true }
def FnExactPortOkUptoSaid : Prop := fnExactPortOkUptoRow.holds Try.pinned (OpenSpec.upto fnExactPortOkSpec)

/-- 'laws.FnExactPortSay', WHERE WHAT IT READS IS OF BULK AT MOST 1048576: true; the input reads as it did. -/
def fnExactPortSayUptoRow : OpenClaim := { program := "ytimgohnnapaafaa", sum := "08c52563516bd9e420d088b1536c97d7911129d7124d65c64d7036fa5fef2b79", func := "loop.example/g00129/laws.FnExactPortSay", spec := "fnExactPortSay", unfollowed := true, recurses := true, apart := false, narrowed := true }
def FnExactPortSayUptoSaid : Prop := fnExactPortSayUptoRow.holds Try.pinned (OpenSpec.upto fnExactPortSaySpec)

end Rows
end Go.Proofs.Ytimgohnnapaafaa
