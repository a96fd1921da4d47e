/- Listeners of frames by silences: what the laws' own helpers do with one; which are right; a new one. -/
import Derived.Test.YtbdlppihiffjgaaReq1
import Derived.Test.YtbdlppihiffjgaaBys
import Derived.Test.YtbdlppihiffjgaaMarks2
namespace Go.Proofs.Ytbdlppihiffjgaa
open Go.RowKit

set_option linter.unusedVariables false

set_option linter.unusedSimpArgs false

/-- A listener as a value. -/
abbrev rt (a : Option Addr) (l c : Nat) (ls : Int) (bd : Bool) (hf wh : Int) : Value := .agg #[.slice a l c, .int .i64 ls, .bool bd, .int .i64 hf, .int .i64 wh]

theorem Blk.five {w : World} {g : Nat} {t : TypeId} {v0 v1 v2 v3 v4 : Value} (h : Blk w g t #[v0, v1, v2, v3, v4]) : w.cell? ⟨g, 0, none⟩ = some v0 ∧ w.cell? ⟨g, 1, none⟩ = some v1 ∧ w.cell? ⟨g, 2, none⟩ = some v2 ∧ w.cell? ⟨g, 3, none⟩ = some v3 ∧ w.cell? ⟨g, 4, none⟩ = some v4 :=
  ⟨h.cell 0 rfl, h.cell 1 rfl, h.cell 2 rfl, h.cell 3 rfl, h.cell 4 rfl⟩

theorem Own.monoT {w : World} {base base' : Nat} {v : Value} {zs : List Int} (h : Own w base v zs) (hb : base' ≤ base) : Own w base' v zs := by
  obtain ⟨h1, h2⟩ := h
  refine ⟨h1, ?_⟩
  rcases h2 with h2 | ⟨g, cap, cur, hv, hg, r⟩
  · exact .inl h2
  · exact .inr ⟨g, cap, cur, hv, by omega, r⟩

theorem toByteS_t (a : Option Addr) (n cap : Nat) (zs : List Int) (w : World) (hn : n = zs.length) (hs : Sl w a zs) (hl : zs.length ≤ 2000000) :
    Calls Try.prog 21 #[.slice a n cap] w fun e w' => ∃ g, e = .returned (.slice (some ⟨g, 0, none⟩) n n) ∧ Own w' w.heap.size (.slice (some ⟨g, 0, none⟩) n n) zs ∧ Below w.heap.size w w' := by
  refine (toByteS_any a n cap zs w hn hs hl).mono ?_
  rintro e w' ⟨rfl, q, b⟩
  exact ⟨_, rfl, Own.ofRow q hn (Nat.le_refl _) (by unfold maxLen; omega), b⟩

theorem eqByteS_t (a a' : Option Addr) (n n' cap cap' : Nat) (zs : List Int) (w : World) (hn : n = zs.length) (hn' : n' = zs.length) (hs : Sl w a zs) (hs' : Sl w a' zs) (hl : zs.length ≤ 2000000) :
    Calls Try.prog 22 #[.slice a n cap, .slice a' n' cap'] w fun e w' => e = .returned (.bool true) ∧ Below w.heap.size w w' := by
  refine (eqByteS_true a a' n n' cap cap' zs w hn hn' hs hs' hl).mono ?_
  rintro e w' ⟨rfl, k, rfl⟩
  exact ⟨rfl, drew_refl _ _⟩

/-- A listener is right. -/
def okT (l : Nat) (ls : Int) (bd : Bool) (hf wh : Int) : Bool := decide (1 ≤ hf ∧ hf ≤ 1000 ∧ hf ≤ wh ∧ wh ≤ 1000 ∧ l ≤ 257 ∧ 0 ≤ ls ∧ ls ≤ 4294967295) && (!bd || decide (0 < l))

def okSl (hf wh : Int) : Bool := decide (1 ≤ hf ∧ hf ≤ 1000 ∧ hf ≤ wh ∧ wh ≤ 1000)

theorem grown_trT {w w1 w2 : World} {row : Option Nat} (h1 : w.grownBy w1 row) (h2 : w1.grownBy w2 row) : w.grownBy w2 row :=
  ⟨h2.os.trans h1.os, h2.tape.trans h1.tape, h2.output.trans h1.output, Nat.le_trans h1.size h2.size, fun k hk hne => (h2.block k (Nat.lt_of_lt_of_le hk h1.size) hne).trans (h1.block k hk hne)⟩

end Go.Proofs.Ytbdlppihiffjgaa
