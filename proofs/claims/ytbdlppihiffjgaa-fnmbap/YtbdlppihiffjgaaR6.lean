/- PutReq of the program; marks in questions. -/
import Derived.Test.YtbdlppihiffjgaaR5
import Derived.Test.YtbdlppihiffjgaaMarks2
namespace Go.Proofs.Ytbdlppihiffjgaa
open Go.RowKit

set_option linter.unusedVariables false

set_option linter.unusedSimpArgs false

theorem nwo_next {w u w' : World} {e : Ending} {zs : List Int} (hb : Below w.heap.size w u) (h : NwO u w' e zs) : NwO w w' e zs := by
  obtain ⟨a, c, n, he, hn, ho, hb'⟩ := h
  exact ⟨a, c, n, he, hn, own_mono ho hb.size, bel_next hb hb'⟩

theorem putL6 (pl nn wa : Int) (ws : List Int) (bs : List Bool) (h : ws.length = 1) : putL 6 pl nn wa ws bs = 6 % 256 :: wbs [pl, ws.getD 0 0] := by
  match ws, h with
  | [x], _ => rfl

theorem putL22 (pl nn wa : Int) (ws : List Int) (bs : List Bool) (h : ws.length = 2) : putL 22 pl nn wa ws bs = 22 % 256 :: wbs [pl, ws.getD 0 0, ws.getD 1 0] := by
  match ws, h with
  | [x, y], _ => rfl

theorem putV_len (kd pl nn wa : Int) (ws : List Int) (bs : List Bool) (l1 l2 : Nat) (h1 : l1 = ws.length) (h2 : l2 = bs.length) : (putV (okR kd pl nn wa ws l1 l2) kd pl nn wa ws bs).length ≤ 300 := by
  cases hb : okR kd pl nn wa ws l1 l2
  · simp [putV]
  · obtain rfl | rfl | rfl | rfl | rfl | rfl | rfl | rfl | rfl | rfl := okR_kind hb
    · simp [putV, putL, wbs]
    · simp [putV, putL, wbs]
    · simp [putV, putL, wbs]
    · simp [putV, putL, wbs]
    · have hL : l2 = 1 := by rw [okI_5 _ _ _ _ _ _ h1] at hb; simp [rnB, inB] at hb; omega
      simp [putV, putL, wbs, wbs_length, packL_length]
    · have hL : l1 = 1 := by rw [okI_6 _ _ _ _ _ _ h1] at hb; simp [rnB, inB] at hb; omega
      simp [putV, putL, wbs, wbs_length, packL_length]; omega
    · have hL : 1 ≤ l2 ∧ l2 ≤ 1968 := by rw [okI_15 _ _ _ _ _ _ h1] at hb; simp [rnB, inB] at hb; omega
      simp [putV, putL, wbs, wbs_length, packL_length]; omega
    · have hL : 1 ≤ l1 ∧ l1 ≤ 123 := by rw [okI_16 _ _ _ _ _ _ h1] at hb; simp [rnB, inB] at hb; omega
      simp [putV, putL, wbs, wbs_length, packL_length]; omega
    · have hL : l1 = 2 := by rw [okI_22 _ _ _ _ _ _ h1] at hb; simp [rnB, inB] at hb; omega
      simp [putV, putL, wbs, wbs_length, packL_length]; omega
    · have hL : 1 ≤ l1 ∧ l1 ≤ 121 := by rw [okI_23 _ _ _ _ _ _ h1] at hb; simp [rnB, inB] at hb; omega
      simp [putV, putL, wbs, wbs_length, packL_length]; omega

theorem ne_types {w : World} {b1 b2 s1 s2 n1 n2 : Nat} {e1 e2 : TypeId} {v1 v2 : Value} {x1 x2 : List Value} (h1 : w.ownsRow b1 e1 s1 v1 n1 x1) (h2 : w.ownsRow b2 e2 s2 v2 n2 x2) (he : e1 ≠ e2) : v1.ownBlock = none ∨ v1.ownBlock ≠ v2.ownBlock := by
  obtain ⟨_, h1⟩ := h1
  rcases h1 with ⟨hv, _⟩ | ⟨g, cap, cur, hv, _, hh, _⟩
  · subst hv; exact .inl rfl
  · refine .inr ?_
    intro e
    exact row_noBlk (v := v2) (g := g) (t := e1) (cs := cur) h2 hh he (by rw [← e, hv]; rfl)

theorem Blk.row {w w' : World} {g : Nat} {t : TypeId} {cs : Array Value} {b s n : Nat} {e : TypeId} {v : Value} {x : List Value} (h : Blk w g t cs) (hr : w.ownsRow b e s v n x) (hg : w.grownBy w' v.ownBlock) (he : t ≠ e) : Blk w' g t cs :=
  h.grown hg (row_noBlk hr h he)

theorem below_rowG {B : Nat} {w0 w w' : World} {base size n : Nat} {e : TypeId} {v : Value} {xs : List Value} (hb : Below B w0 w) (h : w.ownsRow base e size v n xs) (hg : w.grownBy w' v.ownBlock) (h1 : B ≤ base) (h2 : B ≤ w.heap.size) : Below B w0 w' :=
  hb.grown hg h2 (fun k hk => by have := (World.ownsRow.lt h k hk).1; omega)

theorem eqB_ok (a a' : Option Addr) (n n' cap cap' : Nat) (zs : List Int) (w : World) (hn : n = zs.length) (hn' : n' = zs.length) (hs : Sl w a zs) (hs' : Sl w a' zs) (hl : zs.length ≤ 300) :
    Calls Try.prog 22 #[.slice a n cap, .slice a' n' cap'] w fun e w' => e = .returned (.bool true) ∧ Below w.heap.size w w' := by
  refine (eqByteS_true a a' n n' cap cap' zs w hn hn' hs hs' (by omega)).mono ?_
  rintro e w' ⟨rfl, k, rfl⟩
  exact ⟨rfl, drew_refl _ _⟩

end Go.Proofs.Ytbdlppihiffjgaa
