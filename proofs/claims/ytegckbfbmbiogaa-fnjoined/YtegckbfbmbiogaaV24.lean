/- Texts that the proof needs, joined: Pt9. -/
import Derived.Test.YtegckbfbmbiogaaV19
import Derived.Test.YtegckbfbmbiogaaV23
import Derived.Test.YtegckbfbmbiogaaV3
namespace Go.Proofs.Ytegckbfbmbiogaa
open Go.RowKit Go.Joins
set_option linter.unusedVariables false
set_option linter.unusedSimpArgs false
def bothM (f : Nat → Ru) (n : Nat) (un pl nn wa : Int) (ws : List Int) : Option Pa :=
  if atR f n un 2 pl < 0 then none else
    if ((f (atR f n un 2 pl).toNat).lo ≤ pl ∧ pl + nn - 1 ≤ (f (atR f n un 2 pl).toNat).hi) ∧ ((f (atR f n un 2 pl).toNat).lo ≤ wa ∧ wa + (ws.length : Int) - 1 ≤ (f (atR f n un 2 pl).toNat).hi) then
      some ⟨(f (atR f n un 2 pl).toNat).p, (f (atR f n un 2 pl).toNat).t, 23, pl + (f (atR f n un 2 pl).toNat).sh, nn, wa + (f (atR f n un 2 pl).toNat).sh, ws, []⟩ else none
def PartsPw (w w' : World) (e : Ending) (R : Option (List Pa)) : Prop :=
  ∃ v Ps b, e = .returned (.tuple #[v, .bool b]) ∧ OwnPs w' w.heap.size v Ps ∧ (b = true → R = some Ps) ∧ (b = false → R = none) ∧ Below w.heap.size w w'
theorem ownPs_one (Y : World) (base : Nat) (P : Pa) (a1 a2 : Option Addr) (c1 c2 : Nat) (h1 : OwnI Y base (.slice a1 P.ws.length c1) P.ws) (h2 : OwnB Y base (.slice a2 P.bs.length c2) P.bs) (hb : base ≤ Y.heap.size) :
    OwnPs (Y.alloc (.cells #[.int .i64 P.p, .int .i64 P.t, .int .i64 P.kd, .int .i64 P.pl, .int .i64 P.n, .slice a1 P.ws.length c1, .slice a2 P.bs.length c2, .int .i64 P.wa] 37)) base (.slice (some ⟨Y.heap.size, 0, none⟩) 1 1) [P] := by
  refine ⟨fun _ => ptl P a1 a2 c1 c2, fun k => if k = 0 then base else Y.heap.size, .inr ⟨Y.heap.size, 1, rfl, hb, ⟨(ptl P a1 a2 c1 c2).toArray, (by show (Y.heap.push _)[Y.heap.size]? = _; simp), by simp, fun k hk j hj => ?_⟩⟩, Nat.le_refl _, fun k => ?_, fun k hk => ?_⟩
  · have : k = 0 := by simp at hk; omega
    subst this
    simp
  · by_cases e : k = 0
    · simp [e, hb]
    · simp [e]
  · have : k = 0 := by simp at hk; omega
    subst this
    exact ⟨a1, a2, c1, c2, rfl, h1.below (bel_alloc _ _), h2.below (bel_alloc _ _), fun k hk => (World.ownsRow.lt h1 k hk).2, fun k hk => (World.ownsRow.lt h2 k hk).2⟩
end Go.Proofs.Ytegckbfbmbiogaa
