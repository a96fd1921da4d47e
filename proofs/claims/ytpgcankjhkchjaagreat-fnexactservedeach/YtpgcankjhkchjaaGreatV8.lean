/- Texts that the proof needs, joined: Q2. -/
import Derived.Test.YtpgcankjhkchjaaGreatV7
namespace Go.Proofs.YtpgcankjhkchjaaGreat
open Go.RowKit
set_option linter.unusedVariables false
def okK (kd pl nn wa : Int) (l1 l2 : Nat) : Bool :=
  if kd = 1 ∨ kd = 2 then zrB true false false false nn l1 l2 wa && (inB nn 1 2000 && fitB pl nn)
  else if kd = 3 ∨ kd = 4 then zrB true false false false nn l1 l2 wa && (inB nn 1 125 && fitB pl nn)
  else if kd = 5 then zrB false false true false nn l1 l2 wa && decide (l2 = 1)
  else if kd = 6 then zrB false true false false nn l1 l2 wa && decide (l1 = 1)
  else if kd = 15 then zrB false false true false nn l1 l2 wa && (inB l2 1 1968 && fitB pl l2)
  else if kd = 16 then zrB false true false false nn l1 l2 wa && (inB l1 1 123 && fitB pl l1)
  else if kd = 22 then zrB false true false false nn l1 l2 wa && decide (l1 = 2)
  else if kd = 23 then zrB true true false true nn l1 l2 wa && (inB nn 1 125 && (fitB pl nn && (inB l1 1 121 && fitB wa l1)))
  else false
def okR (kd pl nn wa : Int) (ws : List Int) (l1 l2 : Nat) : Bool := allW ws && (inB pl 0 65535 && okK kd pl nn wa l1 l2)
end Go.Proofs.YtpgcankjhkchjaaGreat
