/- Frames that ended, none or one: what the laws' own helpers do with them. -/
import Derived.Test.YtoofkikenfgbpaaDoorRtu1
import Derived.LoopN
import Derived.Deep.RegionWith
namespace Go.Proofs.YtoofkikenfgbpaaDoor
open Go.RowKit

set_option linter.unusedVariables false

set_option linter.unusedSimpArgs false

theorem Blk.three {w : World} {g : Nat} {t : TypeId} {v0 v1 v2 : Value} (h : Blk w g t #[v0, v1, v2]) : w.cell? ⟨g, 0, none⟩ = some v0 ∧ w.cell? ⟨g, 1, none⟩ = some v1 ∧ w.cell? ⟨g, 2, none⟩ = some v2 :=
  ⟨h.cell 0 rfl, h.cell 1 rfl, h.cell 2 rfl⟩

/-- Two values lie in no common block. -/
def DfT (v u : Value) : Prop := v.ownBlock = none ∨ u.ownBlock = none ∨ v.ownBlock ≠ u.ownBlock

theorem DfT.ne {v u : Value} (h : DfT v u) : v.ownBlock = none ∨ v.ownBlock ≠ u.ownBlock := by
  rcases h with h | h | h
  · exact .inl h
  · cases e : v.ownBlock with
    | none => exact .inl rfl
    | some k => exact .inr (by rw [h]; simp)
  · exact .inr h

theorem DfT.symm {v u : Value} (h : DfT v u) : DfT u v := by
  rcases h with h | h | h
  · exact .inr (.inl h)
  · exact .inl h
  · exact .inr (.inr (fun e => h e.symm))

/-- None, or one frame that ended, from block B on; x lies elsewhere than its bytes. -/
def GotV (w : World) (B : Nat) (x : Value) (ga : Option Addr) (gn : Nat) (gs : Option (Int × Int × List Int)) : Prop :=
  (gs = none ∧ gn = 0) ∨ ∃ k u ps g pa pn pc, gs = some (k, u, ps) ∧ ga = some ⟨g, 0, none⟩ ∧ gn = 1 ∧ B ≤ g ∧ Blk w g 42 #[.int .i64 k, .int .i64 u, .slice pa pn pc] ∧ pn = ps.length ∧ Own w B (.slice pa pn pc) ps ∧ DfT x (.slice pa pn pc) ∧ ps.length ≤ 300

theorem GotV.below {w w' : World} {B : Nat} {x : Value} {ga : Option Addr} {gn : Nat} {gs : Option (Int × Int × List Int)} (h : GotV w B x ga gn gs) (hb : Below w.heap.size w w') : GotV w' B x ga gn gs := by
  rcases h with h | ⟨k, u, ps, g, pa, pn, pc, h1, h2, h3, h4, h5, h6, h7, h8, h9⟩
  · exact .inl h
  · exact .inr ⟨k, u, ps, g, pa, pn, pc, h1, h2, h3, h4, h5.below hb, h6, h7.below hb, h8, h9⟩

theorem GotV.mono {w : World} {B B' : Nat} {x : Value} {ga : Option Addr} {gn : Nat} {gs : Option (Int × Int × List Int)} (h : GotV w B x ga gn gs) (hb : B' ≤ B) : GotV w B' x ga gn gs := by
  rcases h with h | ⟨k, u, ps, g, pa, pn, pc, h1, h2, h3, h4, h5, h6, h7, h8, h9⟩
  · exact .inl h
  · exact .inr ⟨k, u, ps, g, pa, pn, pc, h1, h2, h3, by omega, h5, h6, h7.monoT hb, h8, h9⟩

/-- Where a block below is written. -/
theorem GotV.kept {w w' : World} {B : Nat} {x : Value} {ga : Option Addr} {gn : Nat} {gs : Option (Int × Int × List Int)} {row : Option Nat} (h : GotV w B x ga gn gs) (hg : w.grownBy w' row) (hr : ∀ k, row = some k → k < B) : GotV w' B x ga gn gs := by
  rcases h with h | ⟨k, u, ps, g, pa, pn, pc, h1, h2, h3, h4, h5, h6, h7, h8, h9⟩
  · exact .inl h
  · refine .inr ⟨k, u, ps, g, pa, pn, pc, h1, h2, h3, h4, h5.grown hg (fun e => by have := hr g e; omega), h6, h7.kept hg ?_, h8, h9⟩
    cases e : (Value.slice pa pn pc).ownBlock with
    | none => exact .inl rfl
    | some j => exact .inr (fun e2 => by have := hr j e2.symm; have := (World.ownsRow.lt h7 j e).1; omega)

/-- Where x itself is written. -/
theorem GotV.keptX {w w' : World} {B base : Nat} {x : Value} {ga : Option Addr} {gn : Nat} {gs : Option (Int × Int × List Int)} {zs : List Int} (h : GotV w B x ga gn gs) (ho : Own w base x zs) (hg : w.grownBy w' x.ownBlock) : GotV w' B x ga gn gs := by
  rcases h with h | ⟨k, u, ps, g, pa, pn, pc, h1, h2, h3, h4, h5, h6, h7, h8, h9⟩
  · exact .inl h
  · exact .inr ⟨k, u, ps, g, pa, pn, pc, h1, h2, h3, h4, h5.grown hg (row_noBlk ho h5 (by decide)), h6, h7.kept hg h8.symm.ne, h8, h9⟩

/-- The marks of a frame that ended. -/
def mkG (s : Nat) (gs : Option (Int × Int × List Int)) : Option (Int × Int × List Int) := gs.map (fun p => ((s : Int), (s : Int) + 1, marksF (s + 2) p.2.2.length))

def cnG (gs : Option (Int × Int × List Int)) : Nat := match gs with | none => 0 | some p => 2 + p.2.2.length

theorem GotV.one {w : World} {B g : Nat} {x : Value} {k u : Int} {ps : List Int} {pa : Option Addr} {pn pc : Nat} (h4 : B ≤ g) (h5 : Blk w g 42 #[.int .i64 k, .int .i64 u, .slice pa pn pc]) (h6 : pn = ps.length) (h7 : Own w B (.slice pa pn pc) ps) (h8 : DfT x (.slice pa pn pc)) (h9 : ps.length ≤ 300) : GotV w B x (some ⟨g, 0, none⟩) 1 (some (k, u, ps)) :=
  .inr ⟨k, u, ps, g, pa, pn, pc, rfl, rfl, rfl, h4, h5, h6, h7, h8, h9⟩

end Go.Proofs.YtoofkikenfgbpaaDoor
