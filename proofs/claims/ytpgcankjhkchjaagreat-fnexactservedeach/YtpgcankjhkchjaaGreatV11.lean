/- Texts that the proof needs, joined: P2. -/
import Derived.Test.YtpgcankjhkchjaaGreatV1
import Derived.Test.YtpgcankjhkchjaaGreatV10
namespace Go.Proofs.YtpgcankjhkchjaaGreat
open Go.RowKit
set_option linter.unusedVariables false
set_option linter.unusedSimpArgs false
def zr4 (a n w b : Bool) (pl nn : Int) (l1 l2 : Nat) : Bool := (a || decide (pl = 0)) && ((n || decide (nn = 0)) && ((w || decide (l1 = 0)) && (b || decide (l2 = 0))))
def okAK (kd pl nn : Int) (l1 l2 : Nat) : Bool :=
  if kd = 1 ∨ kd = 2 then zr4 false false false true pl nn l1 l2 && (inB l2 1 2000 && decide (l2 % 8 = 0))
  else if kd = 3 ∨ kd = 4 ∨ kd = 23 then zr4 false false true false pl nn l1 l2 && inB l1 1 125
  else if kd = 5 then zr4 true false false true pl nn l1 l2 && decide (l2 = 1)
  else if kd = 6 then zr4 true false true false pl nn l1 l2 && decide (l1 = 1)
  else if kd = 22 then zr4 true false true false pl nn l1 l2 && decide (l1 = 2)
  else if kd = 15 then zr4 true true false false pl nn l1 l2 && inB nn 1 1968
  else zr4 true true false false pl nn l1 l2 && inB nn 1 123
def okA (kd fl pl nn : Int) (ws : List Int) (l1 l2 : Nat) : Bool := kindB kd && (inB fl 0 255 && (allW ws && (inB pl 0 65535 && (if 0 < fl then zr4 false false false false pl nn l1 l2 else okAK kd pl nn l1 l2))))
end Go.Proofs.YtpgcankjhkchjaaGreat
