/- Lists of calls that grow by append. -/
import Derived.Test.YtmhdneenjoelfaaCy2
import Derived.Test.YtmhdneenjoelfaaLn1
import Derived.Test.YtmhdneenjoelfaaSteps
namespace Go.Proofs.Ytmhdneenjoelfaa
open Go.RowKit Go.Joins

set_option linter.unusedVariables false

set_option linter.unusedSimpArgs false

theorem rfl_len (F : Nat → List Value) (s : Nat) : ∀ n, (∀ k, k < n → (F k).length = s) → ((List.range n).flatMap F).length = n * s
  | 0, _ => by simp
  | n + 1, h => by
    rw [List.range_succ, List.flatMap_append, List.length_append, rfl_len F s n (fun k hk => h k (by omega))]
    simp [h n (by omega), Nat.add_mul]

theorem rfl_at (F : Nat → List Value) (s : Nat) : ∀ n, (∀ k, k < n → (F k).length = s) → ∀ k j, k < n → j < s → ((List.range n).flatMap F)[k * s + j]? = (F k)[j]?
  | 0, _, k, j, hk, _ => by omega
  | n + 1, h, k, j, hk, hj => by
    have hl := rfl_len F s n (fun k hk => h k (by omega))
    rw [List.range_succ, List.flatMap_append]
    by_cases e : k = n
    · subst e
      rw [List.getElem?_append_right (by omega), hl, Nat.add_sub_cancel_left]
      simp
    · have hk' : k < n := by omega
      have : (k + 1) * s ≤ n * s := Nat.mul_le_mul_right s hk'
      rw [Nat.add_mul, Nat.one_mul] at this
      rw [List.getElem?_append_left (by omega)]
      exact rfl_at F s n (fun k hk => h k (by omega)) k j hk' hj

theorem rfl_push (F : Nat → List Value) (vs : List Value) (n : Nat) : (List.range (n + 1)).flatMap (fun k => if k = n then vs else F k) = (List.range n).flatMap F ++ vs := by
  rw [List.range_succ, List.flatMap_append]
  congr 1
  · have : ∀ l : List Nat, (∀ x ∈ l, x < n) → l.flatMap (fun k => if k = n then vs else F k) = l.flatMap F := by
      intro l
      induction l with
      | nil => intro _; rfl
      | cons x r ih =>
        intro h
        rw [List.flatMap_cons, List.flatMap_cons, ih (fun y hy => h y (by simp [hy]))]
        have := h x (by simp)
        rw [if_neg (by omega)]
    exact this _ (fun x hx => List.mem_range.1 hx)
  · simp

/-- A block of n structs, as a row. -/
theorem RowS.own {w : World} {g : Nat} {t : TypeId} {s n base : Nat} {F : Nat → List Value} (h : RowS w g t s n F) (hl : ∀ k, k < n → (F k).length = s) (hs : 0 < s) (hb : base ≤ g) (hn : n ≤ maxLen) : w.ownsRow base t s (.slice (some ⟨g, 0, none⟩) n n) n ((List.range n).flatMap F) := by
  obtain ⟨cs, h1, h2, h3⟩ := h
  have hlen := rfl_len F s n hl
  refine ⟨hlen, .inr ⟨g, n, cs, rfl, hb, h1, Nat.le_refl _, hn, h2, ?_⟩⟩
  apply List.ext_getElem?
  intro i
  by_cases hi : i < n * s
  · obtain ⟨k, j, hj, rfl⟩ : ∃ k j, j < s ∧ i = k * s + j := ⟨i / s, i % s, Nat.mod_lt _ hs, by rw [Nat.mul_comm]; exact (Nat.div_add_mod i s).symm⟩
    have hk : k < n := by
      rcases Nat.lt_or_ge k n with h | h
      · exact h
      · have : n * s ≤ k * s := Nat.mul_le_mul_right s h
        omega
    rw [rfl_at F s n hl k j hk hj, List.getElem?_take, if_pos hi, Array.getElem?_toList]
    exact h3 k hk j hj
  · rw [List.getElem?_eq_none (by simp; omega), List.getElem?_eq_none (by omega)]

theorem row_bel {w w' : World} {base s n : Nat} {e : TypeId} {v : Value} {xs : List Value} (h : w.ownsRow base e s v n xs) (hb : Below w.heap.size w w') : w'.ownsRow base e s v n xs :=
  row_same h (fun g hg => hb.block g (World.ownsRow.lt h g hg).2)

theorem row_lift {w : World} {base n : Nat} {t : TypeId} {a : Option Addr} {m c : Nat} {F : Nat → List Value} (h : w.ownsRow base t 9 (.slice a m c) n ((List.range n).flatMap F)) (hl : ∀ k, k < n → (F k).length = 9) : OwnO w base t 9 (.slice a n c) n F ∧ m = n := by
  rcases h.2 with ⟨hv, h0⟩ | ⟨g, cap, cur, hv, hb, hh, hle, _, hs, ht⟩
  · simp only [Value.slice.injEq] at hv
    obtain ⟨rfl, rfl, rfl⟩ := hv
    subst h0
    exact ⟨.inl ⟨rfl, none, 0, rfl⟩, rfl⟩
  · simp only [Value.slice.injEq] at hv
    obtain ⟨rfl, rfl, rfl⟩ := hv
    refine ⟨.inr ⟨g, 0, c, rfl, hb, cur, hh, by rw [hs]; have := Nat.mul_le_mul_right 9 hle; omega, fun k hk j hj => ?_⟩, rfl⟩
    have hlt : k * 9 + j < m * 9 := by omega
    rw [Nat.zero_add, ← rfl_at F 9 m hl k j hk hj, ← ht, List.getElem?_take, if_pos hlt, Array.getElem?_toList]

theorem InE.len9 {w : World} {base n : Nat} {β : Nat → Nat} {F : Nat → List Value} {f : Nat → Ca} (h : InE w base β F (fun k => caE (f k)) n) : ∀ k, k < n → (F k).length = 9 := fun k hk => (h.2.2 k hk).len

theorem Try.infoC30 : (Try.prog.info? 30).map (fun i => (i.zero, i.size, i.bytes)) = some (some (.agg ca0c), 9, 104) := by kernel_rfl

theorem step_appC {ops : Array Oper} {o : Oper} {a : Act} {w : World} {K : Act → World → Prop} {Q : Exit → Act → World → Prop} {E : Prop} (hgd : o.guard = none) (s x : Operand)
    (ho : o.op = .call { callee := .builtin .append, args := #[s, x], argTypes := #[24, 24] }) (base : Nat) (v : Value) (n : Nat) (xs : List Value) (hs : a.eval s = v) (hown : w.ownsRow base 30 9 v n xs)
    (g c : Nat) (C : Ca) (a1 a2 : Option Addr) (l1 l2 c1 c2 : Nat) (hx : a.eval x = .slice (some ⟨g, 0, none⟩) 1 c) (hb : Blk w g 30 (cac C a1 a2 l1 l2 c1 c2)) (hn : n ≤ 2000000) (hbase : base ≤ w.heap.size)
    (h : ∀ v' w', w'.ownsRow base 30 9 v' (n + 1) (xs ++ calL C a1 a2 l1 l2 c1 c2) → w.grownBy w' v.ownBlock → K (a.put o.dst v') w') :
    if Region.wanted o (yielded ops a.tmps) = true then Oper.wp Try.prog o a w K Q else E := by
  obtain ⟨i0, hi, hzz⟩ := Option.map_eq_some_iff.1 Try.infoC30
  simp only [Prod.mk.injEq] at hzz
  obtain ⟨hz0, hz1, hz2⟩ := hzz
  refine step_append_own hgd s x 24 ho base 30 i0 _ 9 104 Try.underlying24 hi hz0 hz1 hz2 rfl (by decide) v n xs hs hown ⟨g, 0, none⟩ 1 c (calL C a1 a2 l1 l2 c1 c2) hx rfl ?_ (fun u hu => by simp at hu; rcases hu with rfl | rfl | rfl | rfl | rfl | rfl | rfl | rfl | rfl <;> rfl) (by unfold maxLen; omega) (by omega) hbase h
  intro j u hu
  have e1 : (⟨g, 0, none⟩ : Addr).add j = ⟨g, j, none⟩ := by unfold Addr.add; split <;> simp_all
  rw [e1]
  exact hb.cell j (by simpa using hu)

/-- A line of the call's own, to whose calls more may be appended. -/
def LnO (w : World) (base n : Nat) (f : Nat → Ca) (L : La) (a : Option Addr) (cp : Nat) (a1 a2 : Option Addr) (l1 l2 c1 c2 : Nat) : Prop :=
  l1 = L.c.ws.length ∧ l2 = L.c.bs.length ∧ ∃ (F : Nat → List Value) (β : Nat → Nat), w.ownsRow base 30 9 (.slice a n cp) n ((List.range n).flatMap F) ∧ InE w base β F (fun k => caE (f k)) n ∧ β n ≤ w.heap.size ∧ OwnI w base (.slice a1 l1 c1) L.c.ws ∧ OwnB w base (.slice a2 l2 c2) L.c.bs ∧
    (∀ k, (Value.slice a1 l1 c1).ownBlock = some k → ∀ j, j < n → ¬ Ob (F j) k) ∧ (∀ k, (Value.slice a2 l2 c2).ownBlock = some k → ∀ j, j < n → ¬ Ob (F j) k)

theorem LnO.p {w : World} {base n cp l1 l2 c1 c2 : Nat} {f : Nat → Ca} {L : La} {a a1 a2 : Option Addr} (h : LnO w base n f L a cp a1 a2 l1 l2 c1 c2) : LnP w base n f L a cp a1 a2 l1 l2 c1 c2 := by
  obtain ⟨h1, h2, F, β, h3, h4, h5, h6⟩ := h
  exact ⟨h1, h2, F, β, (row_lift h3 h4.len9).1, h4, h6⟩

theorem LnO.below {w w' : World} {base n cp l1 l2 c1 c2 : Nat} {f : Nat → Ca} {L : La} {a a1 a2 : Option Addr} (h : LnO w base n f L a cp a1 a2 l1 l2 c1 c2) (hb : Below w.heap.size w w') : LnO w' base n f L a cp a1 a2 l1 l2 c1 c2 := by
  obtain ⟨h1, h2, F, β, h3, h4, h5, h6, h7, h8⟩ := h
  exact ⟨h1, h2, F, β, row_bel h3 hb, h4.below hb, Nat.le_trans h5 hb.size, h6.below hb, h7.below hb, h8⟩

theorem LnO.keptT {w w' : World} {base n cp l1 l2 c1 c2 gx : Nat} {f : Nat → Ca} {L : La} {a a1 a2 : Option Addr} {t' : TypeId} (h : LnO w base n f L a cp a1 a2 l1 l2 c1 c2) (hg : w.grownBy w' (some gx)) (hx : ExB w gx t') (h0 : t' ≠ 30) (k1 : t' ≠ 3) (k2 : t' ≠ 4) : LnO w' base n f L a cp a1 a2 l1 l2 c1 c2 := by
  obtain ⟨h1, h2, F, β, h3, h4, h5, h6, h7, h8⟩ := h
  have hx' := hx
  obtain ⟨cs, hb⟩ := hx'
  exact ⟨h1, h2, F, β, World.ownsRow.kept h3 hg (.inr (row_noBlk h3 hb h0)), h4.keptT hg hx k1 k2, Nat.le_trans h5 hg.size, h6.kept hg (.inr (row_noBlk h6 hb k1)), h7.kept hg (.inr (row_noBlk h7 hb k2)), h8⟩

theorem Ob_cal {C : Ca} {x1 x2 : Option Addr} {m1 m2 d1 d2 k : Nat} (h : Ob (calL C x1 x2 m1 m2 d1 d2) k) : (Value.slice x1 m1 d1).ownBlock = some k ∨ (Value.slice x2 m2 d2).ownBlock = some k := by
  obtain ⟨v, hv, hk⟩ := h
  simp at hv
  rcases hv with rfl | rfl | rfl | rfl | rfl | rfl | rfl | rfl | rfl <;> first | (exact .inl hk) | (exact .inr hk) | cases hk

/-- The list's row, and what follows where one call more is appended. -/
theorem LnO.row {w : World} {base n cp l1 l2 c1 c2 : Nat} {f : Nat → Ca} {L : La} {a a1 a2 : Option Addr} (h : LnO w base n f L a cp a1 a2 l1 l2 c1 c2) : ∃ xs, w.ownsRow base 30 9 (.slice a n cp) n xs ∧
    ∀ (u w7 : World) (a' : Option Addr) (cp' : Nat) (C : Ca) (x1 x2 : Option Addr) (m1 m2 d1 d2 : Nat) (cs : Array Value) (f' : Nat → Ca), Below w.heap.size w u → m1 = C.ws.length → m2 = C.bs.length → OwnI u w.heap.size (.slice x1 m1 d1) C.ws → OwnB u w.heap.size (.slice x2 m2 d2) C.bs → (u.alloc (.cells cs 30)).grownBy w7 (Value.slice a n cp).ownBlock →
      (∀ k, k < n → f' k = f k) → f' n = C → w7.ownsRow base 30 9 (.slice a' (n + 1) cp') (n + 1) (xs ++ calL C x1 x2 m1 m2 d1 d2) → LnO w7 base (n + 1) f' L a' cp' a1 a2 l1 l2 c1 c2 := by
  obtain ⟨h1, h2, F, β, h3, h4, h5, h6, h7, h8, h9⟩ := h
  refine ⟨_, h3, ?_⟩
  intro u w7 a' cp' C x1 x2 m1 m2 d1 d2 cs f' hb e1 e2 o1 o2 hg hf hfn hrow
  have hp := (h4.below hb).push (lo := w.heap.size) (vs := calL C x1 x2 m1 m2 d1 d2) (E := caE C) h5 hb.size ⟨x1, x2, d1, d2, cal_els _ _ _ _ _ _ _ e1 e2, by show OwnI _ _ (.slice _ C.ws.length _) C.ws; rw [← e1]; exact o1, by show OwnB _ _ (.slice _ C.bs.length _) C.bs; rw [← e2]; exact o2, fun x hx => by have hx' : (Value.slice x1 C.ws.length d1).ownBlock = some x := hx; rw [← e1] at hx'; exact (World.ownsRow.lt o1 x hx').2, fun x hx => by have hx' : (Value.slice x2 C.bs.length d2).ownBlock = some x := hx; rw [← e2] at hx'; exact (World.ownsRow.lt o2 x hx').2⟩
  have hp2 := (hp.congr (fun _ _ => rfl) (H := fun k => caE (f' k)) (fun i hi => by by_cases e : i = n; (subst e; simp [hfn]); (simp only [if_neg e]; rw [hf i (by omega)]))).below (bel_alloc u (.cells cs 30))
  have hrow1 := row_bel (row_bel h3 hb) (bel_alloc u (.cells cs 30))
  have q6 := (h6.below hb).below (bel_alloc u (.cells cs 30))
  have q7 := (h7.below hb).below (bel_alloc u (.cells cs 30))
  have hp3 : InE w7 base (fun k => if k ≤ n then β k else u.heap.size) (fun k => if k = n then calL C x1 x2 m1 m2 d1 d2 else F k) (fun k => caE (f' k)) (n + 1) := by
    cases hv : (Value.slice a n cp).ownBlock with
    | none => rw [hv] at hg; exact hp2.below (grown_no hg)
    | some gx =>
      rw [hv] at hg
      exact hp2.keptT hg (row_ex hrow1 hv) (by decide) (by decide)
  have hnew : ∀ k, k < w.heap.size → ¬ Ob (calL C x1 x2 m1 m2 d1 d2) k := fun k hk ho => by
    rcases Ob_cal ho with q | q
    · have := (World.ownsRow.lt o1 k q).1; omega
    · have := (World.ownsRow.lt o2 k q).1; omega
  refine ⟨h1, h2, _, _, ?_, hp3, ?_, q6.kept hg (ne_typesE q6 hrow1 (by decide)), q7.kept hg (ne_typesE q7 hrow1 (by decide)), fun k hk j hj => ?_, fun k hk j hj => ?_⟩
  · rw [rfl_push]; exact hrow
  · simp only [if_neg (show ¬ n + 1 ≤ n by omega)]
    have := hg.size
    simp at this
    omega
  · by_cases e : j = n
    · simp only [if_pos e]; exact hnew k (World.ownsRow.lt h6 k hk).2
    · simp only [if_neg e]; exact h8 k hk j (by omega)
  · by_cases e : j = n
    · simp only [if_pos e]; exact hnew k (World.ownsRow.lt h7 k hk).2
    · simp only [if_neg e]; exact h9 k hk j (by omega)

/-- A line of the call's own. -/
def LnQ (w w' : World) (e : Ending) (n : Nat) (f : Nat → Ca) (L : La) (l1 l2 : Nat) : Prop :=
  ∃ a cp a1 a2 c1 c2, e = .returned (.agg (lac L a n cp a1 a2 l1 l2 c1 c2)) ∧ LnO w' w.heap.size n f L a cp a1 a2 l1 l2 c1 c2 ∧ Below w.heap.size w w'

theorem row_form {w : World} {base s n : Nat} {e : TypeId} {v : Value} {xs : List Value} (h : w.ownsRow base e s v n xs) : ∃ a c, v = .slice a n c := by
  rcases h.2 with ⟨rfl, rfl⟩ | ⟨g, cap, cur, rfl, _⟩
  · exact ⟨none, 0, rfl⟩
  · exact ⟨_, cap, rfl⟩

end Go.Proofs.Ytmhdneenjoelfaa
