/- RingTake of the model. -/
import Derived.Test.YtckmffhdngfchaaRing6
import Derived.Test.YtckmffhdngfchaaRing5
import Derived.Deep.RegionLawGrows
import Derived.Deep.RegionHeld3
import Derived.Deep.Upon
namespace Go.Proofs.Ytckmffhdngfchaa
open Go.RowKit

/-- A row that lies below B and is read alone. -/
def OwnT (w : World) (B : Nat) (v : Value) (zs : List Int) : Prop :=
  (zs = [] ∧ ∃ a c, v = .slice a 0 c) ∨ (∃ base, Own w base v zs ∧ ∀ k, v.ownBlock = some k → k < B)

theorem OwnT.sl {w : World} {B n c : Nat} {a : Option Addr} {zs : List Int} (h : OwnT w B (.slice a n c) zs) : n = zs.length ∧ Sl w a zs := by
  rcases h with ⟨h, a', c', hv⟩ | ⟨_, h, _⟩
  · simp only [Value.slice.injEq] at hv
    exact ⟨by rw [hv.2.1, h]; rfl, .inl h⟩
  · exact h.sl

theorem OwnT.below {w w' : World} {B : Nat} {v : Value} {zs : List Int} (h : OwnT w B v zs) (hb : Below w.heap.size w w') : OwnT w' B v zs := by
  rcases h with h | ⟨base, h, hk⟩
  · exact .inl h
  · exact .inr ⟨base, h.below hb, hk⟩

theorem OwnT.keptT {w w' : World} {B : Nat} {v : Value} {zs : List Int} {row : Option Nat} (h : OwnT w B v zs) (hg : w.grownBy w' row) (hr : ∀ k, row = some k → B ≤ k) : OwnT w' B v zs := by
  rcases h with h | ⟨base, h, hk⟩
  · exact .inl h
  · refine .inr ⟨base, h.kept hg ?_, hk⟩
    cases e : v.ownBlock with
    | none => exact .inl rfl
    | some k => exact .inr (fun e2 => by have := hk k e; have := hr k e2.symm; omega)

theorem OwnT.mono {w : World} {B B' : Nat} {v : Value} {zs : List Int} (h : OwnT w B v zs) (hB : B ≤ B') : OwnT w B' v zs := by
  rcases h with h | ⟨base, h, hk⟩
  · exact .inl h
  · exact .inr ⟨base, h, fun k e => Nat.lt_of_lt_of_le (hk k e) hB⟩

theorem OwnT.shape {w : World} {B : Nat} {v : Value} {zs : List Int} (h : OwnT w B v zs) : ∃ a cap, v = .slice a zs.length cap := by
  rcases h with ⟨h, a', c', hv⟩ | ⟨_, h, _⟩
  · exact ⟨a', c', by rw [hv, h]; rfl⟩
  · exact h.shape'

theorem OwnT.setb {w : World} {B g : Nat} {v x y : Value} {t : TypeId} {zs : List Int} (h : OwnT w B v zs) (hb : Box w g t x) (ht : t ≠ 5) : OwnT (w.setCell ⟨g, 0, none⟩ y) B v zs := by
  rcases h with h | ⟨base, h, hk⟩
  · exact .inl h
  · exact .inr ⟨base, h.setb hb ht, hk⟩

theorem OwnT.ofOwn {w : World} {base : Nat} {v : Value} {zs : List Int} (h : Own w base v zs) : OwnT w w.heap.size v zs := .inr ⟨base, h, fun k e => (World.ownsRow.lt h k e).2⟩

/-- append onto an empty literal, as one step of a region that draws. -/
theorem step_append_e {ops : Array Oper} {o : Oper} {a : Act} {w : World} {K : Act → World → Prop} {Q : Exit → Act → World → Prop} {E : Prop}
    (hgd : o.guard = none) (s x : Operand) (ho : o.op = .call { callee := .builtin .append, args := #[s, x], argTypes := #[22, 22] })
    (ge : Nat) (hs : a.eval s = .slice (some ⟨ge, 0, none⟩) 0 0) (ad : Addr) (m c : Nat) (zs : List Int) (hx : a.eval x = .slice (some ad) m c) (hm : m = zs.length) (hl : m ≤ 1000)
    (hsl : Sl w (some ad) zs) (h : ∀ v' w', OwnT w' w'.heap.size v' zs → Below w.heap.size w w' → K (a.put o.dst v') w') :
    if Region.wanted o (yielded ops a.tmps) = true then Oper.wp Try.prog o a w K Q else E := by
  obtain ⟨i0, hi, hz0, hz1, hz2⟩ := info_parts Try.info5
  by_cases h0 : m = 0
  · subst h0
    have hw : Region.wanted o (yielded ops a.tmps) = true := by simp [Region.wanted, hgd]
    rw [if_pos hw]
    have e : zs = [] := List.eq_nil_of_length_eq_zero hm.symm
    have hrun := run_append_nothing (P := Try.prog) w 22 22 o.type 5 i0 Try.underlying22 hi (some ⟨ge, 0, none⟩) 0 0 (Nat.le_refl 0) (.slice (some ad) 0 c) (Src.ofSlice w Try.underlying22 ad 0 c [] (by simp) (by simp) (by simp))
    unfold Oper.wp
    simp [execOp, ho, resolve, invoke, builtin, hs, hx, hrun, Result.andThen]
    exact h _ _ (.inl ⟨e, _, _, rfl⟩) (Below.refl _ _)
  · refine step_append_grows hgd s x 22 ho 5 i0 (.int .u8 0) 1 1 Try.underlying22 hi hz0 hz1 hz2 rfl (by decide) (some ⟨ge, 0, none⟩) 0 0 [] hs (by simp) (by simp) (by simp) ad m c (zs.map (Value.int .u8)) hx (by rw [hm]; simp) hsl.cellsAt (ones zs) (by omega) (by unfold maxLen; omega) (by omega) ?_
    intro v' w' o1 g1
    refine h v' w' (OwnT.ofOwn (base := w.heap.size) (Own.ofRows (n := 0) (m := m) (xs := []) o1 (by simp) (by rw [Nat.zero_add]; exact hm))) ?_
    exact (Below.refl _ w).grown g1 (Nat.le_refl _) (fun k hk => by cases hk)

/-- What RingTake of the model ends with. -/
def TakeEndsT (zs : List Int) (x : Int) (w : World) (e : Ending) (w' : World) : Prop :=
  ∃ a c a' c', e = .returned (.tuple #[.slice a (takeK zs x) c, .agg #[.slice a' (zs.length - takeK zs x) c']]) ∧
    OwnT w' w'.heap.size (.slice a (takeK zs x) c) (zs.take (takeK zs x)) ∧ OwnT w' w'.heap.size (.slice a' (zs.length - takeK zs x) c') (zs.drop (takeK zs x)) ∧ Below w.heap.size w w'

set_option maxHeartbeats 4000000 in
theorem specRingTake_none (ad : Addr) (n cap : Nat) (zs : List Int) (x : Int) (w : World) (hn : n = zs.length) (hs : Sl w (some ad) zs) (hl : n ≤ 2000000) (h : ¬ n ≤ 300 ∨ (n ≤ 300 ∧ x < 0)) :
    Calls Try.prog 23 #[.agg #[.slice (some ad) n cap], .int .i64 x] w fun e w' => TakeEndsT zs x w e w' := by
  obtain ⟨i0, hi, hz0, hz1, hz2⟩ := info_parts Try.info5
  have hml : n + 2 ≤ maxLen := by unfold maxLen; omega
  have HN : Hid (n = zs.length) := hn
  have HK : Hid (takeK zs x = 0) := by show takeK zs x = 0; unfold takeK; rw [← hn]; split <;> omega
  obtain ⟨W0, hW0'⟩ : ∃ W0, W0 = (w.alloc (.cells #[.slice (some ad) n cap] 25)).alloc (.cells #[.slice none 0 0] 25) := ⟨_, rfl⟩
  have hW0 : Hid (W0 = _) := hW0'
  have B0 : Below w.heap.size w W0 := by rw [hW0']; exact ((Below.refl _ w).alloc (Nat.le_refl _) _).alloc (by simp) _
  have x0 : Box W0 w.heap.size 25 (.slice (some ad) n cap) := by rw [hW0']; exact (Box.new w _ _).below (bel_alloc _ _)
  have r0 : Box W0 (w.heap.size + 1) 25 (.slice none 0 0) := by
    rw [hW0']; have := Box.new (w.alloc (.cells #[.slice (some ad) n cap] 25)) (.slice none 0 0) 25; simpa using this
  have cx0 := x0.cell
  have Hs : Hid (Sl w (some ad) zs) := hs
  clear hs hn hW0'
  rcases h with h | ⟨h, hx0⟩
  all_goals
    go_enter Try.func23, Try.ntmps23
    go_upto_region 1 with fail
    rw [← hW0.out]
    go_wp2_with fail
    first
      | refine (specRingOk_no _ _ _ _ h).mono ?_
      | refine (specRingOk_yes _ _ _ _ h).mono ?_
    rintro e w1 ⟨rfl, b1'⟩
    have b1 := bel_next B0 b1'
    have x1 := x0.below b1'
    have r1 := r0.below b1'
    have s1 := (Hs.out.below (bel_next b1 (bel_next (bel_alloc w1 (.cells #[] 5)) (bel_alloc _ (.cells #[] 5))))).cellsAt
    have cx3 := (x1.below (bel_next (bel_alloc w1 (.cells #[] 5)) (bel_alloc _ (.cells #[] 5)))).cell
    have o0 := World.ownsRow_lit (base := w1.heap.size + 1) (e := 5) (size := 1) (w1.alloc (.cells #[] 5)) #[] 0 (by simp) (by omega) rfl
    have HX : Hid (Box w1 (w.heap.size + 1) 25 (.slice none 0 0) ∧ Below w.heap.size w w1) := ⟨r1, b1⟩
    clear b1' B0 x0 r0 cx0 x1 r1 b1
    go_wp2_with (at_builtin; (refine wpList_append_own _ rfl (.tmp 14) (.tmp 16) 22 rfl (w1.heap.size + 1) 5 i0 (.int .u8 0) 1 1 Try.underlying22 hi hz0 hz1 hz2 rfl (by decide) (.slice (some ⟨w1.heap.size + 1, 0, none⟩) 0 0) 0 [] rfl (by simpa using o0) ad n cap (zs.map (Value.int .u8)) rfl (by rw [HN.out]; simp) s1 (ones zs) (by omega) (by omega) (by simp) ?_); intro v2 w2 o2 g2 _; have b2 : Below w1.heap.size w1 w2 := (bel_next (bel_alloc w1 (.cells #[] 5)) (bel_alloc _ (.cells #[] 5))).grown g2 (by simp; omega) (fun k hk => by simp [Value.ownBlock] at hk; omega); have O2 : Own w2 (w1.heap.size + 1) v2 zs := Own.ofRows (n := 0) (m := n) (xs := []) o2 (by simp) (by rw [Nat.zero_add]; exact HN.out); obtain ⟨a2, c2, hv2⟩ := O2.shape'; rw [← HN.out] at hv2; subst hv2; have r2 := HX.out.1.below b2; have cr := r2.cell; have fr := r2.fro; have HO : Hid (Own w2 (w1.heap.size + 1) (.slice a2 n c2) zs ∧ Box w2 (w.heap.size + 1) 25 (.slice none 0 0) ∧ Below w.heap.size w w2) := ⟨O2, r2, bel_next HX.out.2 b2⟩; clear o2 g2 O2 r2 b2)
    refine bodyPost_ret (v := .tuple #[.slice (some ⟨w1.heap.size, 0, none⟩) 0 0, .agg #[.slice a2 n c2]]) (by simp [results, Try.results23, go_sem, cr]) rfl ?_
    unfold TakeEndsT
    rw [HK.out, Nat.sub_zero, ← HN.out, List.take_zero, List.drop_zero]
    refine ⟨_, _, a2, c2, rfl, .inl ⟨rfl, _, _, rfl⟩, ?_, ?_⟩
    · have := (OwnT.ofOwn HO.out.1).setb (y := .slice a2 n c2) HO.out.2.1 (by decide)
      exact this.mono (by simp [World.setCell])
    · exact HO.out.2.2.setCell (by show w.heap.size ≤ w.heap.size + 1; omega) _

theorem OwnT.later {wA wB : World} {v : Value} {zs : List Int} (h : OwnT wA wA.heap.size v zs) (hb : Below wA.heap.size wA wB) : OwnT wB wB.heap.size v zs := (h.below hb).mono hb.size

theorem take_end {w wl : World} {zs T S : List Int} {x : Int} {t s cA cB : Nat} {aA aB : Option Addr} (hA : OwnT wl wl.heap.size (.slice aA t cA) T) (hB : OwnT wl wl.heap.size (.slice aB s cB) S) (r : Box wl (w.heap.size + 1) 25 (.slice none 0 0)) (b : Below w.heap.size w wl)
    (hK : t = takeK zs x ∧ T = zs.take t ∧ S = zs.drop t) (hs : s = zs.length - t) :
    TakeEndsT zs x w (.returned (.tuple #[.slice aA t cA, .agg #[.slice aB s cB]])) (wl.setCell ⟨w.heap.size + 1, 0, none⟩ (.slice aB s cB)) := by
  obtain ⟨rfl, rfl, rfl⟩ := hK
  subst hs
  have e : (wl.setCell ⟨w.heap.size + 1, 0, none⟩ (.slice aB (zs.length - takeK zs x) cB)).heap.size = wl.heap.size := by simp [World.setCell]
  refine ⟨aA, cA, aB, cB, rfl, ?_, ?_, b.setCell (by show w.heap.size ≤ w.heap.size + 1; omega) _⟩
  · rw [e]; exact hA.setb r (by decide)
  · rw [e]; exact hB.setb r (by decide)

set_option maxRecDepth 20000 in
set_option maxHeartbeats 8000000 in
theorem specRingTake_part (g n t : Nat) (zs T S : List Int) (w : World) (hn : n = zs.length) (hs : Sl w (some ⟨g, 0, none⟩) zs) (h : n ≤ 300) (hlt : t < n) (hk : t = takeK zs (t : Int)) (hT : T = zs.take t) (hS : S = zs.drop t) :
    Calls Try.prog 23 #[.agg #[.slice (some ⟨g, 0, none⟩) n n], .int .i64 (t : Int)] w fun e w' => TakeEndsT zs (t : Int) w e w' := by
  have HN : Hid (n = zs.length) := hn
  have HK : Hid (t = takeK zs (t : Int) ∧ T = zs.take t ∧ S = zs.drop t) := ⟨hk, hT, hS⟩
  have htT : Hid (t = T.length) := by show _ = _; rw [hT]; simp; omega
  have hsS : Hid ((n - t) = S.length) := by show _ = _; rw [hS]; simp; omega
  obtain ⟨W0, hW0'⟩ : ∃ W0, W0 = (w.alloc (.cells #[.slice (some ⟨g, 0, none⟩) n n] 25)).alloc (.cells #[.slice none 0 0] 25) := ⟨_, rfl⟩
  have hW0 : Hid (W0 = _) := hW0'
  have B0 : Below w.heap.size w W0 := by rw [hW0']; exact ((Below.refl _ w).alloc (Nat.le_refl _) _).alloc (by simp) _
  have x0 : Box W0 w.heap.size 25 (.slice (some ⟨g, 0, none⟩) n n) := by rw [hW0']; exact (Box.new w _ _).below (bel_alloc _ _)
  have r0 : Box W0 (w.heap.size + 1) 25 (.slice none 0 0) := by
    rw [hW0']; have := Box.new (w.alloc (.cells #[.slice (some ⟨g, 0, none⟩) n n] 25)) (.slice none 0 0) 25; simpa using this
  have cx0 := x0.cell
  have hTl : Sl w (some ⟨g, 0, none⟩) T := by rw [hT]; exact hs.take _
  have hSl : Sl w (some ⟨g, t, none⟩) S := by rw [hS]; exact hs.drop t
  have Hs : Hid (Sl w (some ⟨g, 0, none⟩) T ∧ Sl w (some ⟨g, t, none⟩) S) := ⟨hTl, hSl⟩
  have hgt : ¬ ((n : Int) < (t : Int)) := by omega
  have hne : ¬ n = t := by omega
  have hx0 : ¬ ((t : Int) < 0) := by omega
  clear hs hn hW0' hk hT hS hTl hSl
  go_enter Try.func23, Try.ntmps23
  go_upto_region 1 with fail
  rw [← hW0.out]
  go_wp2_with fail
  refine (specRingOk_yes _ _ _ _ h).mono ?_
  rintro e w1 ⟨rfl, b1'⟩
  have b1 := bel_next B0 b1'
  have x1 := x0.below b1'
  have r1 := r0.below b1'
  have cx := x1.cell
  have cr := r1.cell
  have fr := r1.fro
  have HT1 : Hid (Sl w1 (some ⟨g, 0, none⟩) T ∧ Sl w1 (some ⟨g, t, none⟩) S) := ⟨Hs.out.1.below b1, Hs.out.2.below b1⟩
  have HX : Hid (Box w1 (w.heap.size + 1) 25 (.slice none 0 0) ∧ Below w.heap.size w w1) := ⟨r1, b1⟩
  clear b1' B0 x0 r0 cx0 x1 r1 b1
  go_upto_region 5 with fail
  have q1 : Below w1.heap.size w1 (w1.drew.alloc (.cells #[] 5)) := (Below.refl _ w1).drew.alloc (Nat.le_refl _) _
  have q2 : Below w1.heap.size w1 ((w1.drew.alloc (.cells #[] 5)).alloc (.cells #[] 5)) := bel_next q1 (bel_alloc _ _)
  go_region_held3 (fun w' => w'.cell? ⟨w.heap.size, 0, none⟩ = some (.slice (some ⟨g, 0, none⟩) n n)) (go_keep)
    (first
      | (refine step_append_e rfl (.tmp 27) (.tmp 31) rfl _ rfl ⟨g, 0, none⟩ t n T rfl htT.out (by omega) ?_ ?_; (first | exact HT1.out.1.below q1 | exact HT1.out.1.below q2 | exact HT1.out.1.below qB | exact HT1.out.1.below qB1); intro vA wA hA bA; obtain ⟨aA, cA, hvA⟩ := hA.shape; rw [← htT.out] at hvA; subst hvA; have qA := bel_next (w0 := w1) (by first | exact q1 | exact q2 | exact qB | exact qB1) bA; have qA1 := bel_next qA (bel_alloc wA (.cells #[] 5)); have cxA := keepc qA cx; have crA := keepc qA cr; have frA := keepf qA cr fr)
      | (refine step_append_e rfl (.tmp 33) (.tmp 37) rfl _ rfl ⟨g, t, none⟩ (n - t) (n - t) S rfl hsS.out (by omega) ?_ ?_; (first | exact HT1.out.2.below q1 | exact HT1.out.2.below q2 | exact HT1.out.2.below qA | exact HT1.out.2.below qA1); intro vB wB hB bB; obtain ⟨aB, cB, hvB⟩ := hB.shape; rw [← hsS.out] at hvB; subst hvB; have qB := bel_next (w0 := w1) (by first | exact q1 | exact q2 | exact qA | exact qA1) bB; have qB1 := bel_next qB (bel_alloc wB (.cells #[] 5)); have cxB := keepc qB cx; have crB := keepc qB cr; have frB := keepf qB cr fr))
  all_goals (go_wp2_with fail)
  all_goals first
    | (refine bodyPost_ret (v := .tuple #[.slice aA t cA, .agg #[.slice aB (n - t) cB]]) (by simp [results, Try.results23, go_sem, crB]) rfl ?_
       exact take_end (wl := wB) (hA.later (by first | exact bB | exact bel_next (bel_alloc _ _) bB)) hB (HX.out.1.below qB) (bel_next HX.out.2 qB) HK.out (by have := HN.out; omega))
    | (refine bodyPost_ret (v := .tuple #[.slice aA t cA, .agg #[.slice aB (n - t) cB]]) (by simp [results, Try.results23, go_sem, crA]) rfl ?_
       exact take_end (wl := wA) hA (hB.later (by first | exact bA | exact bel_next (bel_alloc _ _) bA)) (HX.out.1.below qA) (bel_next HX.out.2 qA) HK.out (by have := HN.out; omega))

set_option maxRecDepth 20000 in
set_option maxHeartbeats 8000000 in
theorem specRingTake_all (g n : Nat) (zs T S : List Int) (w : World) (hn : n = zs.length) (hs : Sl w (some ⟨g, 0, none⟩) zs) (h : n ≤ 300) (hk : n = takeK zs (n : Int)) (hT : T = zs.take n) (hS : S = zs.drop n) :
    Calls Try.prog 23 #[.agg #[.slice (some ⟨g, 0, none⟩) n n], .int .i64 (n : Int)] w fun e w' => TakeEndsT zs (n : Int) w e w' := by
  have HN : Hid (n = zs.length) := hn
  have HK : Hid (n = takeK zs (n : Int) ∧ T = zs.take n ∧ S = zs.drop n) := ⟨hk, hT, hS⟩
  have htT : Hid (n = T.length) := by show _ = _; rw [hT]; simp; omega
  have hsS : Hid (0 = S.length) := by show _ = _; rw [hS]; simp; omega
  obtain ⟨W0, hW0'⟩ : ∃ W0, W0 = (w.alloc (.cells #[.slice (some ⟨g, 0, none⟩) n n] 25)).alloc (.cells #[.slice none 0 0] 25) := ⟨_, rfl⟩
  have hW0 : Hid (W0 = _) := hW0'
  have B0 : Below w.heap.size w W0 := by rw [hW0']; exact ((Below.refl _ w).alloc (Nat.le_refl _) _).alloc (by simp) _
  have x0 : Box W0 w.heap.size 25 (.slice (some ⟨g, 0, none⟩) n n) := by rw [hW0']; exact (Box.new w _ _).below (bel_alloc _ _)
  have r0 : Box W0 (w.heap.size + 1) 25 (.slice none 0 0) := by
    rw [hW0']; have := Box.new (w.alloc (.cells #[.slice (some ⟨g, 0, none⟩) n n] 25)) (.slice none 0 0) 25; simpa using this
  have cx0 := x0.cell
  have hTl : Sl w (some ⟨g, 0, none⟩) T := by rw [hT]; exact hs.take _
  have hSl : Sl w (some ⟨g, 0, none⟩) S := by rw [hS]; exact .inl (List.drop_eq_nil_of_le (by omega))
  have Hs : Hid (Sl w (some ⟨g, 0, none⟩) T ∧ Sl w (some ⟨g, 0, none⟩) S) := ⟨hTl, hSl⟩
  have hgt : ¬ ((n : Int) < (n : Int)) := by omega
  have hx0 : ¬ ((n : Int) < 0) := by omega
  clear hs hn hW0' hk hT hS hTl hSl
  go_enter Try.func23, Try.ntmps23
  go_upto_region 1 with fail
  rw [← hW0.out]
  go_wp2_with fail
  refine (specRingOk_yes _ _ _ _ h).mono ?_
  rintro e w1 ⟨rfl, b1'⟩
  have b1 := bel_next B0 b1'
  have x1 := x0.below b1'
  have r1 := r0.below b1'
  have cx := x1.cell
  have cr := r1.cell
  have fr := r1.fro
  have HT1 : Hid (Sl w1 (some ⟨g, 0, none⟩) T ∧ Sl w1 (some ⟨g, 0, none⟩) S) := ⟨Hs.out.1.below b1, Hs.out.2.below b1⟩
  have HX : Hid (Box w1 (w.heap.size + 1) 25 (.slice none 0 0) ∧ Below w.heap.size w w1) := ⟨r1, b1⟩
  clear b1' B0 x0 r0 cx0 x1 r1 b1
  go_upto_region 5 with fail
  have q1 : Below w1.heap.size w1 (w1.drew.alloc (.cells #[] 5)) := (Below.refl _ w1).drew.alloc (Nat.le_refl _) _
  have q2 : Below w1.heap.size w1 ((w1.drew.alloc (.cells #[] 5)).alloc (.cells #[] 5)) := bel_next q1 (bel_alloc _ _)
  go_region_held3 (fun w' => w'.cell? ⟨w.heap.size, 0, none⟩ = some (.slice (some ⟨g, 0, none⟩) n n)) (go_keep)
    (first
      | (refine step_append_e rfl (.tmp 27) (.tmp 31) rfl _ rfl ⟨g, 0, none⟩ n n T rfl htT.out (by omega) ?_ ?_; (first | exact HT1.out.1.below q1 | exact HT1.out.1.below q2 | exact HT1.out.1.below qB | exact HT1.out.1.below qB1); intro vA wA hA bA; obtain ⟨aA, cA, hvA⟩ := hA.shape; rw [← htT.out] at hvA; subst hvA; have qA := bel_next (w0 := w1) (by first | exact q1 | exact q2 | exact qB | exact qB1) bA; have qA1 := bel_next qA (bel_alloc wA (.cells #[] 5)); have cxA := keepc qA cx; have crA := keepc qA cr; have frA := keepf qA cr fr)
      | (refine step_append_e rfl (.tmp 33) (.tmp 37) rfl _ rfl ⟨g, 0, none⟩ 0 0 S rfl hsS.out (by omega) ?_ ?_; (first | exact HT1.out.2.below q1 | exact HT1.out.2.below q2 | exact HT1.out.2.below qA | exact HT1.out.2.below qA1); intro vB wB hB bB; obtain ⟨aB, cB, hvB⟩ := hB.shape; rw [← hsS.out] at hvB; subst hvB; have qB := bel_next (w0 := w1) (by first | exact q1 | exact q2 | exact qA | exact qA1) bB; have qB1 := bel_next qB (bel_alloc wB (.cells #[] 5)); have cxB := keepc qB cx; have crB := keepc qB cr; have frB := keepf qB cr fr))
  all_goals (go_wp2_with fail)
  all_goals first
    | (refine bodyPost_ret (v := .tuple #[.slice aA n cA, .agg #[.slice aB 0 cB]]) (by simp [results, Try.results23, go_sem, crB]) rfl ?_
       exact take_end (wl := wB) (hA.later (by first | exact bB | exact bel_next (bel_alloc _ _) bB)) hB (HX.out.1.below qB) (bel_next HX.out.2 qB) HK.out (by have := HN.out; omega))
    | (refine bodyPost_ret (v := .tuple #[.slice aA n cA, .agg #[.slice aB 0 cB]]) (by simp [results, Try.results23, go_sem, crA]) rfl ?_
       exact take_end (wl := wA) hA (hB.later (by first | exact bA | exact bel_next (bel_alloc _ _) bA)) (HX.out.1.below qA) (bel_next HX.out.2 qA) HK.out (by have := HN.out; omega))

set_option maxRecDepth 20000 in
set_option maxHeartbeats 8000000 in
theorem specRingTake_more (g n : Nat) (x : Int) (zs T S : List Int) (w : World) (hn : n = zs.length) (hs : Sl w (some ⟨g, 0, none⟩) zs) (h : n ≤ 300) (hgt : (n : Int) < x) (hk : n = takeK zs x) (hT : T = zs.take n) (hS : S = zs.drop n) :
    Calls Try.prog 23 #[.agg #[.slice (some ⟨g, 0, none⟩) n n], .int .i64 x] w fun e w' => TakeEndsT zs x w e w' := by
  have HN : Hid (n = zs.length) := hn
  have HK : Hid (n = takeK zs x ∧ T = zs.take n ∧ S = zs.drop n) := ⟨hk, hT, hS⟩
  have htT : Hid (n = T.length) := by show _ = _; rw [hT]; simp; omega
  have hsS : Hid (0 = S.length) := by show _ = _; rw [hS]; simp; omega
  obtain ⟨W0, hW0'⟩ : ∃ W0, W0 = (w.alloc (.cells #[.slice (some ⟨g, 0, none⟩) n n] 25)).alloc (.cells #[.slice none 0 0] 25) := ⟨_, rfl⟩
  have hW0 : Hid (W0 = _) := hW0'
  have B0 : Below w.heap.size w W0 := by rw [hW0']; exact ((Below.refl _ w).alloc (Nat.le_refl _) _).alloc (by simp) _
  have x0 : Box W0 w.heap.size 25 (.slice (some ⟨g, 0, none⟩) n n) := by rw [hW0']; exact (Box.new w _ _).below (bel_alloc _ _)
  have r0 : Box W0 (w.heap.size + 1) 25 (.slice none 0 0) := by
    rw [hW0']; have := Box.new (w.alloc (.cells #[.slice (some ⟨g, 0, none⟩) n n] 25)) (.slice none 0 0) 25; simpa using this
  have cx0 := x0.cell
  have hTl : Sl w (some ⟨g, 0, none⟩) T := by rw [hT]; exact hs.take _
  have hSl : Sl w (some ⟨g, 0, none⟩) S := by rw [hS]; exact .inl (List.drop_eq_nil_of_le (by omega))
  have Hs : Hid (Sl w (some ⟨g, 0, none⟩) T ∧ Sl w (some ⟨g, 0, none⟩) S) := ⟨hTl, hSl⟩
  have hx0 : ¬ (x < 0) := by omega
  clear hs hn hW0' hk hT hS hTl hSl
  go_enter Try.func23, Try.ntmps23
  go_upto_region 1 with fail
  rw [← hW0.out]
  go_wp2_with fail
  refine (specRingOk_yes _ _ _ _ h).mono ?_
  rintro e w1 ⟨rfl, b1'⟩
  have b1 := bel_next B0 b1'
  have x1 := x0.below b1'
  have r1 := r0.below b1'
  have cx := x1.cell
  have cr := r1.cell
  have fr := r1.fro
  have HT1 : Hid (Sl w1 (some ⟨g, 0, none⟩) T ∧ Sl w1 (some ⟨g, 0, none⟩) S) := ⟨Hs.out.1.below b1, Hs.out.2.below b1⟩
  have HX : Hid (Box w1 (w.heap.size + 1) 25 (.slice none 0 0) ∧ Below w.heap.size w w1) := ⟨r1, b1⟩
  clear b1' B0 x0 r0 cx0 x1 r1 b1
  go_upto_region 5 with fail
  have q1 : Below w1.heap.size w1 (w1.drew.alloc (.cells #[] 5)) := (Below.refl _ w1).drew.alloc (Nat.le_refl _) _
  have q2 : Below w1.heap.size w1 ((w1.drew.alloc (.cells #[] 5)).alloc (.cells #[] 5)) := bel_next q1 (bel_alloc _ _)
  go_region_held3 (fun w' => w'.cell? ⟨w.heap.size, 0, none⟩ = some (.slice (some ⟨g, 0, none⟩) n n)) (go_keep)
    (first
      | (refine step_append_e rfl (.tmp 27) (.tmp 31) rfl _ rfl ⟨g, 0, none⟩ n n T rfl htT.out (by omega) ?_ ?_; (first | exact HT1.out.1.below q1 | exact HT1.out.1.below q2 | exact HT1.out.1.below qB | exact HT1.out.1.below qB1); intro vA wA hA bA; obtain ⟨aA, cA, hvA⟩ := hA.shape; rw [← htT.out] at hvA; subst hvA; have qA := bel_next (w0 := w1) (by first | exact q1 | exact q2 | exact qB | exact qB1) bA; have qA1 := bel_next qA (bel_alloc wA (.cells #[] 5)); have cxA := keepc qA cx; have crA := keepc qA cr; have frA := keepf qA cr fr)
      | (refine step_append_e rfl (.tmp 33) (.tmp 37) rfl _ rfl ⟨g, 0, none⟩ 0 0 S rfl hsS.out (by omega) ?_ ?_; (first | exact HT1.out.2.below q1 | exact HT1.out.2.below q2 | exact HT1.out.2.below qA | exact HT1.out.2.below qA1); intro vB wB hB bB; obtain ⟨aB, cB, hvB⟩ := hB.shape; rw [← hsS.out] at hvB; subst hvB; have qB := bel_next (w0 := w1) (by first | exact q1 | exact q2 | exact qA | exact qA1) bB; have qB1 := bel_next qB (bel_alloc wB (.cells #[] 5)); have cxB := keepc qB cx; have crB := keepc qB cr; have frB := keepf qB cr fr))
  all_goals (go_wp2_with fail)
  all_goals first
    | (refine bodyPost_ret (v := .tuple #[.slice aA n cA, .agg #[.slice aB 0 cB]]) (by simp [results, Try.results23, go_sem, crB]) rfl ?_
       exact take_end (wl := wB) (hA.later (by first | exact bB | exact bel_next (bel_alloc _ _) bB)) hB (HX.out.1.below qB) (bel_next HX.out.2 qB) HK.out (by have := HN.out; omega))
    | (refine bodyPost_ret (v := .tuple #[.slice aA n cA, .agg #[.slice aB 0 cB]]) (by simp [results, Try.results23, go_sem, crA]) rfl ?_
       exact take_end (wl := wA) hA (hB.later (by first | exact bA | exact bel_next (bel_alloc _ _) bA)) (HX.out.1.below qA) (bel_next HX.out.2 qA) HK.out (by have := HN.out; omega))

theorem takeK_at {zs : List Int} {x : Int} (h : zs.length ≤ 300) : (takeK zs x : Int) = max 0 (min x zs.length) := by
  unfold takeK; rw [if_pos h]; omega

theorem specRingTake_any (g n : Nat) (zs : List Int) (x : Int) (w : World) (hn : n = zs.length) (hs : Sl w (some ⟨g, 0, none⟩) zs) (hl : n ≤ 2000000) :
    Calls Try.prog 23 #[.agg #[.slice (some ⟨g, 0, none⟩) n n], .int .i64 x] w fun e w' => TakeEndsT zs x w e w' := by
  by_cases h : n ≤ 300
  · by_cases hx : x < 0
    · exact specRingTake_none _ n n zs x w hn hs hl (.inr ⟨h, hx⟩)
    · have hk := takeK_at (zs := zs) (x := x) (by omega)
      by_cases h2 : (n : Int) < x
      · exact specRingTake_more g n x zs _ _ w hn hs h h2 (by omega) rfl rfl
      · by_cases h3 : x = (n : Int)
        · subst h3
          exact specRingTake_all g n zs _ _ w hn hs h (by omega) rfl rfl
        · obtain ⟨k, rfl⟩ := Int.eq_ofNat_of_zero_le (a := x) (by omega)
          exact specRingTake_part g n k zs _ _ w hn hs h (by omega) (by omega) rfl rfl
  · exact specRingTake_none _ n n zs x w hn hs hl (.inl h)

end Go.Proofs.Ytckmffhdngfchaa
