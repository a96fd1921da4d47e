/- A listener hears a byte more; a frame with a gap ends. -/
import Derived.Test.YtoofkikenfgbpaaDoorRtu11m
namespace Go.Proofs.YtoofkikenfgbpaaDoor
open Go.RowKit

set_option linter.unusedVariables false

set_option linter.unusedSimpArgs false

theorem Own.capT {w : World} {base : Nat} {a : Option Addr} {n c : Nat} {zs : List Int} (h : Own w base (.slice a n c) zs) : n ≤ c := by
  obtain ⟨_, h2⟩ := h
  rcases h2 with ⟨h2, h3⟩ | ⟨g, cap', cur, hv, _, _, hle, _⟩
  · simp only [Value.slice.injEq] at h2; omega
  · simp only [Value.slice.injEq] at hv; omega

theorem hear_step (a : Option Addr) (l c : Nat) (ls : Int) (bd : Bool) (hf wh tk by' : Int) (zs : List Int) (w : World) (hn : l = zs.length) (hlc : l ≤ c) (hs : Sl w a zs) (hr : ∀ z ∈ zs, 0 ≤ z ∧ z ≤ 255) (hl : l ≤ 256) (hT : Tab w) (hok : okT l ls bd hf wh = true) (htk : tkB tk = true) (hg : 0 < l → gap ls tk < wh) (D : Bool) (hD : D = (bd || (decide (0 < l) && decide (hf ≤ gap ls tk)))) :
    Calls Tryd.prog 12 #[rt a l c ls bd hf wh, .int .u8 by', .int .i64 tk] w fun e w' => ∃ a' c' n' ga gc, e = .returned (.tuple #[rt a' n' c' tk D hf wh, .slice ga 0 gc]) ∧ n' = l + 1 ∧ n' ≤ c' ∧ Own w' w.heap.size (.slice a' n' c') (zs ++ [by']) ∧ Below w.heap.size w w' := by
  subst hD
  have hE : wtE l ls bd hf wh tk = false := by
    unfold wtE
    by_cases h0 : 0 < l
    · rw [decide_eq_false (show ¬ wh ≤ gap ls tk by have := hg h0; omega)]; simp
    · rw [decide_eq_false h0]; simp
  refine (implRtuHear_yes a l c ls bd hf wh tk by' zs w hn hs (by omega) hlc hr hT (by rw [hok, htk]; rfl) zs bd none (by rw [hE]; rfl) (by rw [hE]; rfl) (by rw [hE]; rfl) _ (by rw [← hn])).mono ?_
  rintro e w' ⟨a', n', c', ga, gn, gc, bb, rfl, hn', o, hbb, _, U, b⟩
  have hZ : hrZ by' zs = zs ++ [by'] := by unfold hrZ; rw [if_pos (by omega)]
  rw [hZ] at hn' o
  have hgn : gn = 0 := by
    rcases U with ⟨_, h⟩ | ⟨k, u, ps, g, pa, pn, pc, h, _⟩
    · exact h
    · cases h
  subst hgn
  exact ⟨a', c', n', ga, gc, rfl, by rw [hn']; simp; omega, o.capT, o.monoT hbb, b⟩

theorem wait_gap (a : Option Addr) (l c : Nat) (ls hf wh tk : Int) (zs : List Int) (w : World) (hn : l = zs.length) (hlc : l ≤ c) (hs : Sl w a zs) (hr : ∀ z ∈ zs, 0 ≤ z ∧ z ≤ 255) (hl : l ≤ 256) (hT : Tab w) (hE : wtE l ls true hf wh tk = true) :
    Calls Tryd.prog 15 #[rt a l c ls true hf wh, .int .i64 tk] w fun e w' => ∃ a' c' n' g gc pa pc, e = .returned (.tuple #[rt a' n' c' ls false hf wh, .slice (some ⟨g, 0, none⟩) 1 gc]) ∧ Blk w' g 42 #[.int .i64 5, .int .i64 0, .slice pa 0 pc] ∧ Below w.heap.size w w' := by
  refine (implRtuWait_yes a l c ls true hf wh tk zs w hn hs (by omega) hlc hr hT hE).mono ?_
  rintro e w' ⟨a', n', c', ga, gn, gc, bb, rfl, hn', o, hbb, _, U, b⟩
  rcases U with ⟨h, _⟩ | ⟨k, u, ps, g, pa, pn, pc, h, rfl, rfl, _, hB, hpn, _⟩
  · cases h
  · simp only [gotOf, cond_true, Option.some.injEq, Prod.mk.injEq] at h
    obtain ⟨rfl, rfl, rfl⟩ := h
    simp at hpn
    subst hpn
    exact ⟨a', c', n', g, gc, pa, pc, rfl, hB, b⟩

theorem implRtuNew_ok (hf wh : Int) (w : World) (h : okSl hf wh = true) :
    Calls Tryd.prog 11 #[.int .i64 hf, .int .i64 wh] w fun e w' => e = .returned (.agg #[.slice none 0 0, .int .i64 0, .bool false, .int .i64 hf, .int .i64 wh]) ∧ Below w.heap.size w w' := by
  refine (implRtuNew_any hf wh w).mono ?_
  rintro e w' ⟨rfl, b⟩
  rw [if_pos h, if_pos h]
  exact ⟨rfl, b⟩

end Go.Proofs.YtoofkikenfgbpaaDoor
