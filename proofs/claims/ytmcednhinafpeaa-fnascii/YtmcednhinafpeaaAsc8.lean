/- AsciiHear of the program. -/
import Derived.Test.YtmcednhinafpeaaAsc7
namespace Go.Proofs.Ytmcednhinafpeaa
open Go.RowKit

set_option linter.unusedVariables false

set_option linter.unusedSimpArgs false

/-- A listener and frames that ended, in memory of the call's own. -/
def XR (w w' : World) (e : Ending) (zs : List Int) (op : Bool) (ls wt : Int) (gs : Option (Int × Int × List Int)) : Prop :=
  ∃ a n c ga gn gc, e = .returned (.tuple #[sc a n c op ls wt, .slice ga gn gc]) ∧ n = zs.length ∧ Own w' w.heap.size (.slice a n c) zs ∧ GotX w' w.heap.size (.slice a n c) ga gn gs ∧ Below w.heap.size w w'

theorem blk_ne {w : World} {g g' : Nat} {t t' : TypeId} {cs cs' : Array Value} (h : Blk w g t cs) (h' : Blk w g' t' cs') (ht : t ≠ t') : g ≠ g' := fun e => by subst e; unfold Blk at h h'; rw [h] at h'; simp at h'; exact ht h'.2

theorem okAk_parts {zs : List Int} {op : Bool} {ls wt : Int} (h : okAk zs op ls wt = true) : 1 ≤ wt ∧ wt ≤ 1000 ∧ zs.length ≤ 600 ∧ 0 ≤ ls ∧ ls ≤ 4294967295 ∧ (op = decide (0 < zs.length)) := by
  unfold okAk at h
  simp only [Bool.and_eq_true, decide_eq_true_eq, beq_iff_eq] at h
  exact ⟨h.1.1, h.1.2.1, h.1.2.2.1, h.1.2.2.2.1, h.1.2.2.2.2, h.2.1⟩

theorem got_info : ∃ i, Try.prog.info? 39 = some i ∧ i.size = 3 ∧ i.bytes = 40 ∧ i.zero = some (.agg #[.int .i64 0, .int .i64 0, .slice none 0 0]) := by
  have h : (Try.prog.info? 39).map (fun i => (i.size, i.bytes, i.zero)) = some (3, 40, some (.agg #[.int .i64 0, .int .i64 0, .slice none 0 0])) := by kernel_rfl
  obtain ⟨i, hi, he⟩ := Option.map_eq_some_iff.1 h
  simp only [Prod.mk.injEq] at he
  exact ⟨i, hi, he.1, he.2.1, he.2.2⟩

theorem app_none (g n c : Nat) (h : n ≤ c) (w' : World) : (Builtin.append_ #[34, 34] 34 #[.slice (some ⟨g, 0, none⟩) n c, .slice none 0 0]).run Try.prog w' = .ok (.slice (some ⟨g, 0, none⟩) n c) w' := by
  obtain ⟨i, hi, _⟩ := got_info
  exact run_append_nothing w' 34 34 34 39 i Try.underlying34 hi (some ⟨g, 0, none⟩) n c h _ (Src.ofNil w' Try.underlying34 0)

theorem app_one (gT gg : Nat) (k u : Int) (pa : Option Addr) (pn pc : Nat) (w : World) (hG : Blk w gg 39 (gcs k u pa pn pc [])) :
    ∃ gN cN W' rs, (Builtin.append_ #[34, 34] 34 #[.slice (some ⟨gT, 0, none⟩) 0 0, .slice (some ⟨gg, 0, none⟩) 1 1]).run Try.prog w = .ok (.slice (some ⟨gN, 0, none⟩) 1 cN) W' ∧ w.heap.size ≤ gN ∧ Blk W' gN 39 (gcs k u pa pn pc rs) ∧ Below w.heap.size w W' := by
  obtain ⟨i, hi, h3, h40, hz⟩ := got_info
  obtain ⟨g0, g1, g2⟩ := gcs_three hG
  have hr := run_append_grow (P := Try.prog) w 34 34 39 i _ Try.underlying34 hi hz ⟨gT, 0, none⟩ 0 0 [] (by simp) (fun j v h => by simp at h) ⟨gg, 0, none⟩ 1 1 [.int .i64 k, .int .i64 u, .slice pa pn pc] (by simp [h3]) (fun j v h => by
    match j, h with
    | 0, h => simp at h; subst h; simpa [Addr.add] using g0
    | 1, h => simp at h; subst h; simpa [Addr.add] using g1
    | 2, h => simp at h; subst h; simpa [Addr.add] using g2
    | j + 3, h => simp at h) (by omega) (by simp) (by rw [h40]; decide)
  refine ⟨_, _, _, (Builtin.zeroCells (Value.agg #[.int .i64 0, .int .i64 0, .slice none 0 0]).cells (grownCap w (0 + 1) 0 39 - (0 + 1))).toList, hr, Nat.le_refl _, ?_, ?_⟩
  · have := Blk.new w.drew ((#[] : Array Value) ++ #[.int .i64 k, .int .i64 u, .slice pa pn pc] ++ Builtin.zeroCells (Value.agg #[.int .i64 0, .int .i64 0, .slice none 0 0]).cells (grownCap w (0 + 1) 0 39 - (0 + 1))) 39
    generalize Builtin.zeroCells (Value.agg #[.int .i64 0, .int .i64 0, .slice none 0 0]).cells (grownCap w (0 + 1) 0 39 - (0 + 1)) = zc at *
    have e : gcs k u pa pn pc zc.toList = (#[] : Array Value) ++ #[.int .i64 k, .int .i64 u, .slice pa pn pc] ++ zc := by apply Array.ext'; simp
    rw [e]
    exact this
  · exact bel_next (Below.refl _ _).drew (bel_alloc _ _)

/-- append of frames, in a statement whose order is open. -/
theorem step_appG {ops : Array Oper} {o : Oper} {a : Act} {w w' : World} {K : Act → World → Prop} {Q : Exit → Act → World → Prop} {E : Prop} (hgd : o.guard = none) (s x : Operand)
    (ho : o.op = .call { callee := .builtin .append, args := #[s, x], argTypes := #[34, 34] }) (v u v' : Value) (hs : a.eval s = v) (hx : a.eval x = u)
    (hr : (Builtin.append_ #[34, 34] o.type #[v, u]).run Try.prog w = .ok v' w') (h : K (a.put o.dst v') w') : if Region.wanted o (yielded ops a.tmps) = true then Oper.wp Try.prog o a w K Q else E := by
  have hw : Region.wanted o (yielded ops a.tmps) = true := by simp [Region.wanted, hgd]
  rw [if_pos hw]
  unfold Oper.wp
  simp [execOp, ho, resolve, invoke, builtin, hs, hx, hr, Result.andThen]
  exact h

theorem gaP_300 (zs : List Int) : (gaP zs).length ≤ 300 := by
  unfold gaP
  by_cases h : gaC zs = 0
  · rw [if_pos h]
    have h2 : ¬ 255 < (wiA zs).length := fun k => by
      unfold gaC at h
      rw [if_pos k] at h
      split at h
      · exact absurd h (by decide)
      · split at h <;> exact absurd h (by decide)
    simp; omega
  · rw [if_neg h]; simp

theorem tkB_parts {t : Int} (h : tkB t = true) : 0 ≤ t ∧ t ≤ 4294967295 := by unfold tkB at h; exact of_decide_eq_true h

set_option maxRecDepth 20000 in
set_option maxHeartbeats 2000000 in
theorem implAsciiHear_no (a : Option Addr) (l c : Nat) (op : Bool) (ls wt b tk : Int) (zs : List Int) (w : World) (hn : l = zs.length) (hs : Sl w a zs) (hl : zs.length ≤ 2000000) (hh : (okAk zs op ls wt && tkB tk) = false) :
    Calls Try.prog 16 #[sc a l c op ls wt, .int .u8 b, .int .i64 tk] w fun e w' => XR w w' e zs op ls wt none := by
  have HN : Hid (l = zs.length ∧ l ≤ 2000000 ∧ zs.length ≤ 2000000) := by show _ ∧ _; omega
  obtain ⟨W0, hW0'⟩ : ∃ W0, W0 = (w.alloc (.cells #[.slice a l c, .bool op, .int .i64 ls, .int .i64 wt] 31)).alloc (.cells #[.slice none 0 0, .bool false, .int .i64 0, .int .i64 0] 31) := ⟨_, rfl⟩
  have hW0 : Hid (W0 = _) := hW0'
  have hz : W0.heap.size = w.heap.size + 1 + 1 := by rw [hW0']; simp
  have B0 : Below w.heap.size w W0 := by rw [hW0']; exact bel_next (bel_alloc w _) (bel_alloc _ _)
  have X0 : Blk W0 w.heap.size 31 #[.slice a l c, .bool op, .int .i64 ls, .int .i64 wt] := by rw [hW0']; exact (Blk.new w _ _).below (bel_alloc _ _)
  have R0 : Blk W0 (w.heap.size + 1) 31 #[.slice none 0 0, .bool false, .int .i64 0, .int .i64 0] := by rw [hW0']; have := Blk.new (w.alloc (.cells #[.slice a l c, .bool op, .int .i64 ls, .int .i64 wt] 31)) #[.slice none 0 0, .bool false, .int .i64 0, .int .i64 0] 31; simpa using this
  have S1 : Hid (Sl W0 a zs) := hs.below B0
  clear hn hs hW0' hl
  cases ho : okAk zs op ls wt
  · clear hh
    go_enter Try.func16, Try.ntmps16
    go_wp2_with fail
    rw [← hW0.out]
    refine (implAsciiOk_any a l c op ls wt zs _ HN.out.1 S1.out HN.out.2.1 _ ho).mono ?_
    rintro e w1 ⟨rfl, b'⟩
    have b1 := bel_next B0 b'
    have X1 := X0.below b'
    have R1 := R0.below b'
    have S2 : Hid (Sl w1 a zs) := S1.out.below b'
    clear b' B0 X0 R0 S1
    obtain ⟨x0, x1, x2, x3⟩ := X1.four
    go_wp2_with fail
    refine (copyAscii_any a l c op ls wt zs _ HN.out.1 S2.out HN.out.2.2).mono ?_
    rintro e w9 ⟨g, rfl, o9, b'⟩
    have b9 := bel_next b1 b'
    have R9 := R1.below b'
    have o8 := o9.monoT b1.size
    clear b' o9 b1 R1 X1 x0 x1 x2 x3
    obtain ⟨r0, r1, r2, r3⟩ := R9.four
    have fr := R9.fro
    go_wp2
    refine bodyPost_ret (v := .tuple #[sc (some ⟨g, 0, none⟩) l l op ls wt, .slice none 0 0]) (by simp [results, Try.results16, go_sem, r0, r1, r2, r3]) rfl ?_
    exact ⟨_, l, l, none, 0, 0, rfl, HN.out.1, st4_own o8 ⟨_, R9⟩, .inl ⟨rfl, rfl⟩, st4_bel b9 (by omega)⟩
  · have ht : tkB tk = false := by rw [ho] at hh; simpa using hh
    have ht2 : ¬ (0 ≤ tk ∧ tk ≤ 4294967295) := by unfold tkB at ht; exact of_decide_eq_false ht
    clear hh ht
    by_cases h1 : 0 ≤ tk
    · have h2 : ¬ tk ≤ 4294967295 := fun h => ht2 ⟨h1, h⟩
      have h2d : decide (tk ≤ 4294967295) = false := decide_eq_false h2
      have h2e : (4294967295 : Int) < tk := by omega
      clear ht2
      go_enter Try.func16, Try.ntmps16
      go_wp2_with fail
      rw [← hW0.out]
      refine (implAsciiOk_any a l c op ls wt zs _ HN.out.1 S1.out HN.out.2.1 _ ho).mono ?_
      rintro e w1 ⟨rfl, b'⟩
      have b1 := bel_next B0 b'
      have X1 := X0.below b'
      have R1 := R0.below b'
      have S2 : Hid (Sl w1 a zs) := S1.out.below b'
      clear b' B0 X0 R0 S1
      obtain ⟨x0, x1, x2, x3⟩ := X1.four
      go_wp2_with (go_at_call 46; go_in)
      refine (copyAscii_any a l c op ls wt zs _ HN.out.1 S2.out HN.out.2.2).mono ?_
      rintro e w9 ⟨g, rfl, o9, b'⟩
      have b9 := bel_next b1 b'
      have R9 := R1.below b'
      have o8 := o9.monoT b1.size
      clear b' o9 b1 R1 X1 x0 x1 x2 x3
      obtain ⟨r0, r1, r2, r3⟩ := R9.four
      have fr := R9.fro
      go_wp2
      refine bodyPost_ret (v := .tuple #[sc (some ⟨g, 0, none⟩) l l op ls wt, .slice none 0 0]) (by simp [results, Try.results16, go_sem, r0, r1, r2, r3]) rfl ?_
      exact ⟨_, l, l, none, 0, 0, rfl, HN.out.1, st4_own o8 ⟨_, R9⟩, .inl ⟨rfl, rfl⟩, st4_bel b9 (by omega)⟩
    · clear ht2
      go_enter Try.func16, Try.ntmps16
      go_wp2_with fail
      rw [← hW0.out]
      refine (implAsciiOk_any a l c op ls wt zs _ HN.out.1 S1.out HN.out.2.1 _ ho).mono ?_
      rintro e w1 ⟨rfl, b'⟩
      have b1 := bel_next B0 b'
      have X1 := X0.below b'
      have R1 := R0.below b'
      have S2 : Hid (Sl w1 a zs) := S1.out.below b'
      clear b' B0 X0 R0 S1
      obtain ⟨x0, x1, x2, x3⟩ := X1.four
      go_wp2_with (go_at_call 46; go_in)
      refine (copyAscii_any a l c op ls wt zs _ HN.out.1 S2.out HN.out.2.2).mono ?_
      rintro e w9 ⟨g, rfl, o9, b'⟩
      have b9 := bel_next b1 b'
      have R9 := R1.below b'
      have o8 := o9.monoT b1.size
      clear b' o9 b1 R1 X1 x0 x1 x2 x3
      obtain ⟨r0, r1, r2, r3⟩ := R9.four
      have fr := R9.fro
      go_wp2
      refine bodyPost_ret (v := .tuple #[sc (some ⟨g, 0, none⟩) l l op ls wt, .slice none 0 0]) (by simp [results, Try.results16, go_sem, r0, r1, r2, r3]) rfl ?_
      exact ⟨_, l, l, none, 0, 0, rfl, HN.out.1, st4_own o8 ⟨_, R9⟩, .inl ⟨rfl, rfl⟩, st4_bel b9 (by omega)⟩

end Go.Proofs.Ytmcednhinafpeaa
