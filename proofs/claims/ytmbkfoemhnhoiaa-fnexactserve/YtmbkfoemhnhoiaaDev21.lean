/- Serve of the program, whatever is asked; what is put behind a list that was just made. -/
import Derived.Test.YtmbkfoemhnhoiaaDev20
import Derived.Test.YtmbkfoemhnhoiaaRgI
import Derived.Deep.Upon
namespace Go.Proofs.Ytmbkfoemhnhoiaa
open Go.RowKit

set_option linter.unusedVariables false

set_option linter.unusedSimpArgs false

theorem implServe_q (a1 a2 a3 a4 : Option Addr) (l1 l2 l3 l4 c1 c2 c3 c4 : Nat) (cs is : List Bool) (hs rs : List Int) (kd pl nn wa : Int) (q1 q2 : Option Addr) (m1 m2 k1 k2 : Nat) (ws : List Int) (bs : List Bool) (w : World) (hn : LnD l1 l2 l3 l4 cs is hs rs) (hs0 : SlD w a1 a2 a3 a4 cs is hs rs) (hsm : SmD 2000000 cs is hs rs) (hq : SlI w q1 ws) (hq2 : SlB w q2 bs) (h1 : m1 = ws.length) (h2 : m2 = bs.length) (hl : ws.length ≤ 2000000) (hl2 : bs.length ≤ 2000000) (V : SvR) (hV : svV l1 l2 l3 l4 cs is hs rs kd pl nn wa m1 m2 ws bs = V) :
    Calls Try.prog 15 #[dv a1 a2 a3 a4 l1 l2 l3 l4 c1 c2 c3 c4, rq kd pl nn wa q1 q2 m1 m2 k1 k2] w fun e w' => SR w w' e V.cs is V.hs rs V.kd V.fl V.pl V.nn V.ws V.bs := by
  refine implServe_of a1 a2 a3 a4 l1 l2 l3 l4 c1 c2 c3 c4 cs is hs rs kd pl nn wa q1 q2 m1 m2 k1 k2 ws bs w hn hs0 hsm hq hq2 V.cs is V.hs rs V.kd V.fl V.pl V.nn V.ws V.bs ?_
  intro W0 u g1 g2 g3 g4 hB hD hq' hq2'
  exact serve_q _ _ _ _ l1 l2 l3 l4 l1 l2 l3 l4 cs is hs rs kd pl nn wa q1 q2 m1 m2 k1 k2 ws bs W0 u hB hD h1 h2 hq' hq2' hl hl2 hsm V hV

theorem app0B (w : World) (g B : Nat) (a : Option Addr) (n c : Nat) (xs : List Bool) (hn : n = xs.length) (hs : SlB w a xs) (hl : xs.length ≤ 2000000) (hB : B ≤ g) (hg : OwnB w B (.slice (some ⟨g, 0, none⟩) 0 0) []) :
    ∃ v w', (Builtin.append_ #[25, 25] 25 #[.slice (some ⟨g, 0, none⟩) 0 0, .slice a n c]).run Try.prog w = .ok v w' ∧ OwnB w' B v xs ∧ Below w.heap.size w w' ∧ (v = .slice (some ⟨g, 0, none⟩) 0 0 ∨ v.ownBlock = some w.heap.size) ∧ ∃ a' c', v = .slice a' n c' := by
  obtain ⟨i0, hi, hz0, hz1, hz2⟩ := info_parts Try.info4
  rcases Nat.eq_zero_or_pos xs.length with h0 | hp
  · have ex : xs = [] := List.eq_nil_of_length_eq_zero h0
    subst ex
    subst hn
    refine ⟨_, w, run_append_nothing w 25 25 25 4 i0 Try.underlying25 hi (some ⟨g, 0, none⟩) 0 0 (Nat.le_refl _) _ ?_, hg, Below.refl _ _, .inl rfl, _, _, rfl⟩
    cases a with
    | none => exact Src.ofNil w Try.underlying25 c
    | some ad => exact Src.ofSlice w Try.underlying25 ad 0 c [] (by simp) (fun j u hj => by simp at hj) (fun u hu => by simp at hu)
  · subst hn
    rcases hs with e | ⟨b, off, rfl, hb, hc⟩
    · subst e; simp at hp
    · have hr := run_append_grow (P := Try.prog) w 25 25 4 i0 (.bool false) Try.underlying25 hi hz0 ⟨g, 0, none⟩ 0 0 [] (by simp) (fun j v h => by simp at h) ⟨b, off, none⟩ xs.length c (xs.map Value.bool) (by simp [hz1]) (slB_at (.inr ⟨b, off, rfl, hb, hc⟩)) (by omega) (by omega) (growslice_fits (by omega) (by rw [hz2]; omega))
      have hG0 := grownCap_ge w (0 + xs.length) 0 4
      have hG1 := grownCap_le_maxLen w (0 + xs.length) 0 4 (by unfold maxLen; omega)
      generalize grownCap w (0 + xs.length) 0 4 = G at *
      rw [Nat.zero_add] at hr hG0
      refine ⟨_, _, hr, ⟨by simp, .inr ⟨w.heap.size, G, _, rfl, ?_, Blk.new w.drew _ 4, hG0, hG1, ?_, ?_⟩⟩, bel_next (Below.refl _ _).drew (bel_alloc _ _), .inr rfl, _, _, rfl⟩
      · have := (World.ownsRow.lt hg g rfl).2; omega
      · simp [Builtin.zeroCells, Value.cells]; omega
      · simp [Builtin.zeroCells]

/-- append onto a list that was just made, in a statement whose order is open. -/
theorem step_app0B {ops : Array Oper} {o : Oper} {act : Act} {w : World} {K : Act → World → Prop} {Q : Exit → Act → World → Prop} {E : Prop} (hgd : o.guard = none) (s x : Operand)
    (ho : o.op = .call { callee := .builtin .append, args := #[s, x], argTypes := #[25, 25] }) (hty : o.type = 25) (g B : Nat) (a : Option Addr) (n c : Nat) (xs : List Bool) (hs' : act.eval s = .slice (some ⟨g, 0, none⟩) 0 0) (hx : act.eval x = .slice a n c)
    (hn : n = xs.length) (hs : SlB w a xs) (hl : xs.length ≤ 2000000) (hB : B ≤ g) (hg : OwnB w B (.slice (some ⟨g, 0, none⟩) 0 0) [])
    (h : ∀ v w', OwnB w' B v xs → Below w.heap.size w w' → (v = .slice (some ⟨g, 0, none⟩) 0 0 ∨ v.ownBlock = some w.heap.size) → (∃ a' c', v = .slice a' n c') → K (act.put o.dst v) w') : if Region.wanted o (yielded ops act.tmps) = true then Oper.wp Try.prog o act w K Q else E := by
  have hw : Region.wanted o (yielded ops act.tmps) = true := by simp [Region.wanted, hgd]
  rw [if_pos hw]
  obtain ⟨v, w', hr, h1, h2, h3, h4⟩ := app0B w g B a n c xs hn hs hl hB hg
  unfold Oper.wp
  simp [execOp, ho, resolve, invoke, builtin, hs', hx, hty, hr, Result.andThen]
  exact h v w' h1 h2 h3 h4

theorem app0I (w : World) (g B : Nat) (a : Option Addr) (n c : Nat) (xs : List Int) (hn : n = xs.length) (hs : SlI w a xs) (hl : xs.length ≤ 2000000) (hB : B ≤ g) (hg : OwnI w B (.slice (some ⟨g, 0, none⟩) 0 0) []) :
    ∃ v w', (Builtin.append_ #[24, 24] 24 #[.slice (some ⟨g, 0, none⟩) 0 0, .slice a n c]).run Try.prog w = .ok v w' ∧ OwnI w' B v xs ∧ Below w.heap.size w w' ∧ (v = .slice (some ⟨g, 0, none⟩) 0 0 ∨ v.ownBlock = some w.heap.size) ∧ ∃ a' c', v = .slice a' n c' := by
  obtain ⟨i0, hi, hz0, hz1, hz2⟩ := info_parts Try.infoI3
  rcases Nat.eq_zero_or_pos xs.length with h0 | hp
  · have ex : xs = [] := List.eq_nil_of_length_eq_zero h0
    subst ex
    subst hn
    refine ⟨_, w, run_append_nothing w 24 24 24 3 i0 Try.underlying24 hi (some ⟨g, 0, none⟩) 0 0 (Nat.le_refl _) _ ?_, hg, Below.refl _ _, .inl rfl, _, _, rfl⟩
    cases a with
    | none => exact Src.ofNil w Try.underlying24 c
    | some ad => exact Src.ofSlice w Try.underlying24 ad 0 c [] (by simp) (fun j u hj => by simp at hj) (fun u hu => by simp at hu)
  · subst hn
    rcases hs with e | ⟨b, off, rfl, hb, hc⟩
    · subst e; simp at hp
    · have hr := run_append_grow (P := Try.prog) w 24 24 3 i0 (.int .i64 0) Try.underlying24 hi hz0 ⟨g, 0, none⟩ 0 0 [] (by simp) (fun j v h => by simp at h) ⟨b, off, none⟩ xs.length c (xs.map (Value.int .i64)) (by simp [hz1]) (slI_at (.inr ⟨b, off, rfl, hb, hc⟩)) (by omega) (by omega) (growslice_fits (by omega) (by rw [hz2]; omega))
      have hG0 := grownCap_ge w (0 + xs.length) 0 3
      have hG1 := grownCap_le_maxLen w (0 + xs.length) 0 3 (by unfold maxLen; omega)
      generalize grownCap w (0 + xs.length) 0 3 = G at *
      rw [Nat.zero_add] at hr hG0
      refine ⟨_, _, hr, ⟨by simp, .inr ⟨w.heap.size, G, _, rfl, ?_, Blk.new w.drew _ 3, hG0, hG1, ?_, ?_⟩⟩, bel_next (Below.refl _ _).drew (bel_alloc _ _), .inr rfl, _, _, rfl⟩
      · have := (World.ownsRow.lt hg g rfl).2; omega
      · simp [Builtin.zeroCells, Value.cells]; omega
      · simp [Builtin.zeroCells]

/-- append onto a list that was just made, in a statement whose order is open. -/
theorem step_app0I {ops : Array Oper} {o : Oper} {act : Act} {w : World} {K : Act → World → Prop} {Q : Exit → Act → World → Prop} {E : Prop} (hgd : o.guard = none) (s x : Operand)
    (ho : o.op = .call { callee := .builtin .append, args := #[s, x], argTypes := #[24, 24] }) (hty : o.type = 24) (g B : Nat) (a : Option Addr) (n c : Nat) (xs : List Int) (hs' : act.eval s = .slice (some ⟨g, 0, none⟩) 0 0) (hx : act.eval x = .slice a n c)
    (hn : n = xs.length) (hs : SlI w a xs) (hl : xs.length ≤ 2000000) (hB : B ≤ g) (hg : OwnI w B (.slice (some ⟨g, 0, none⟩) 0 0) [])
    (h : ∀ v w', OwnI w' B v xs → Below w.heap.size w w' → (v = .slice (some ⟨g, 0, none⟩) 0 0 ∨ v.ownBlock = some w.heap.size) → (∃ a' c', v = .slice a' n c') → K (act.put o.dst v) w') : if Region.wanted o (yielded ops act.tmps) = true then Oper.wp Try.prog o act w K Q else E := by
  have hw : Region.wanted o (yielded ops act.tmps) = true := by simp [Region.wanted, hgd]
  rw [if_pos hw]
  obtain ⟨v, w', hr, h1, h2, h3, h4⟩ := app0I w g B a n c xs hn hs hl hB hg
  unfold Oper.wp
  simp [execOp, ho, resolve, invoke, builtin, hs', hx, hty, hr, Result.andThen]
  exact h v w' h1 h2 h3 h4

end Go.Proofs.Ytmbkfoemhnhoiaa
