/- Answers out of bytes: the model, whole; the program's tests of many bits. -/
import Derived.Test.YtoofkikenfgbpaaDoorGB
import Derived.Test.YtoofkikenfgbpaaDoorGC
import Derived.Test.YtoofkikenfgbpaaDoorGE
namespace Go.Proofs.YtoofkikenfgbpaaDoor
open Go.RowKit

set_option linter.unusedVariables false

set_option linter.unusedSimpArgs false

/-- The program's test of an answer that may have many bits. -/
theorem checkAnswer_w (kd fl pl nn : Int) (a1 a2 : Option Addr) (l1 l2 c1 c2 : Nat) (ws : List Int) (bs : List Bool) (w : World) (h1 : l1 = ws.length) (h2 : l2 = bs.length) (s1 : SlI w a1 ws) (s2 : SlB w a2 bs) (hl1 : ws.length ≤ 2000000) (hl2 : bs.length ≤ 20000000) (hw : bs.length ≤ 2000000 ∨ (fl = 0 ∧ (kd = 1 ∨ kd = 2))) :
    Calls Tryd.prog 42 #[rp kd fl pl nn a1 a2 l1 l2 c1 c2] w fun e w' => e = .returned (chk kd (okA kd fl pl nn ws l1 l2)) ∧ Below w.heap.size w w' := by
  by_cases hs : bs.length ≤ 2000000
  · exact checkAnswer_q kd fl pl nn a1 a2 l1 l2 c1 c2 ws bs w h1 h2 s1 s2 hl1 hs
  · obtain ⟨rfl, hk⟩ : fl = 0 ∧ (kd = 1 ∨ kd = 2) := hw.resolve_left hs
    have hkb : kindB kd = true := decide_eq_true (by omega)
    have hT : tB kd 0 pl nn ws l1 l2 = false := by
      have e : inB (l2 : Int) 1 2000 = false := decide_eq_false (by omega)
      rcases hk with rfl | rfl <;> simp [tB, e]
    have e : chk kd (okA kd 0 pl nn ws l1 l2) = ansE 3 := by rw [okA_told kd 0 pl nn ws l1 l2 h1 hkb, hT]; simp [chk, hkb]
    rw [e]
    exact checkAnswer_f kd 0 pl nn a1 a2 l1 l2 c1 c2 ws w h1 s1 hl1 (by omega) hkb hT

end Go.Proofs.YtoofkikenfgbpaaDoor
