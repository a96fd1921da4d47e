/- Texts that the proof needs, joined. -/
import Derived.Test.YtgnmnbimmfknpaaDr2
import Derived.Test.YtgnmnbimmfknpaaArgU
import Derived.Deep.Upon
import Derived.Lib.AppendZerosOnto
import Derived.Test.YtgnmnbimmfknpaaCur3
import Derived.Deep.Cut
import Derived.Deep.CutRange
namespace Go.Proofs.Ytgnmnbimmfknpaa
open Go.RowKit

set_option linter.unusedVariables false

set_option linter.unusedSimpArgs false

def updR (r : Ru) (j : Nat) (x : Int) : Ru :=
  match j with
  | 0 => { r with u := x }
  | 1 => { r with s := x }
  | 2 => { r with lo := x }
  | 3 => { r with hi := x }
  | 4 => { r with p := x }
  | 5 => { r with t := x }
  | _ => { r with sh := x }

theorem updR_rul (r : Ru) (x : Int) : ∀ j, j < 7 → rul (updR r j x) = (rul r).set j (.int .i64 x)
  | 0, _ => rfl
  | 1, _ => rfl
  | 2, _ => rfl
  | 3, _ => rfl
  | 4, _ => rfl
  | 5, _ => rfl
  | 6, _ => rfl

theorem updR_sh (r : Ru) (j : Nat) (x : Int) : (updR r j x).sh = r.sh ∨ (updR r j x).sh = x := by
  unfold updR
  split <;> simp

theorem flatMap_set : ∀ (l : List Ru) (k j : Nat) (x : Int), k < l.length → j < 7 → ∃ r0, l[k]? = some r0 ∧ (l.set k (updR r0 j x)).flatMap rul = (l.flatMap rul).set (k * 7 + j) (.int .i64 x)
  | [], k, j, x, hk, _ => by simp at hk
  | r :: t, 0, j, x, hk, hj => by
    refine ⟨r, rfl, ?_⟩
    rw [List.set_cons_zero, List.flatMap_cons, List.flatMap_cons, updR_rul r x j hj, Nat.zero_mul, Nat.zero_add, List.set_append_left _ _ (by simp; omega)]
  | r :: t, k + 1, j, x, hk, hj => by
    obtain ⟨r0, h1, h2⟩ := flatMap_set t k j x (by simpa using hk) hj
    refine ⟨r0, by simpa using h1, ?_⟩
    rw [List.set_cons_succ, List.flatMap_cons, List.flatMap_cons, h2, List.set_append_right _ _ (by simp; omega)]
    congr 2
    simp
    omega

theorem OwnU.set {w : World} {base gO n c k j : Nat} {l : List Ru} (h : OwnU w base (.slice (some ⟨gO, 0, none⟩) n c) l) (hk : k < l.length) (hj : j < 7) (x : Int) :
    ∃ l', OwnU (w.setCell ⟨gO, k * 7 + j, none⟩ (.int .i64 x)) base (.slice (some ⟨gO, 0, none⟩) n c) l' ∧ l'.length = l.length ∧ (∀ r ∈ l', r.sh = x ∨ ∃ r0 ∈ l, r.sh = r0.sh) := by
  obtain ⟨r0, e0, e1⟩ := flatMap_set l k j x hk hj
  refine ⟨l.set k (updR r0 j x), ?_, by simp, fun r hr => ?_⟩
  · rcases h.2 with ⟨e, _⟩ | ⟨g, cap', cur, hv, hb, hh, hle, hm, hs, ht⟩
    · cases e
    · simp only [Value.slice.injEq, Option.some.injEq, Addr.mk.injEq] at hv
      obtain ⟨⟨rfl, _, _⟩, rfl, rfl⟩ := hv
      refine ⟨by rw [e1]; simpa using h.1, .inr ⟨gO, c, cur.setIfInBounds (k * 7 + j) (.int .i64 x), by simp, hb, Go.Joins.block_setCell hh _, by simpa using hle, hm, by simpa using hs, ?_⟩⟩
      rw [e1, Array.toList_setIfInBounds, List.length_set, ← ht]
      rw [List.take_set]
  · rcases List.mem_or_eq_of_mem_set hr with h9 | h9
    · exact .inr ⟨r, h9, rfl⟩
    · subst h9
      rcases updR_sh r0 j x with e | e
      · exact .inr ⟨r0, List.mem_of_getElem? e0, e⟩
      · exact .inl e

theorem OwnU.cells {w : World} {base gO n c : Nat} {l : List Ru} (h : OwnU w base (.slice (some ⟨gO, 0, none⟩) n c) l) : n = l.length ∧ (∀ o, w.frozen? ⟨gO, o, none⟩ = false) ∧ ∀ i, i < l.length * 7 → (w.cell? ⟨gO, i, none⟩) = (l.flatMap rul)[i]? := by
  rcases h.2 with ⟨e, _⟩ | ⟨g, cap', cur, hv, hb, hh, hle, hm, hs, ht⟩
  · cases e
  · simp only [Value.slice.injEq, Option.some.injEq, Addr.mk.injEq] at hv
    obtain ⟨⟨rfl, _, _⟩, rfl, rfl⟩ := hv
    refine ⟨rfl, fun o => Go.Joins.unfrozen_of_block hh o, fun i hi => ?_⟩
    rw [← ht, List.getElem?_take, if_pos hi, Array.getElem?_toList]
    simp [World.cell?, hh]

theorem flatMap_at7 : ∀ (l : List Ru) (k j : Nat), k < l.length → j < 7 → (l.flatMap rul)[k * 7 + j]? = (rul (l.getD k default))[j]?
  | [], k, j, hk, _ => by simp at hk
  | x :: r, 0, j, hk, hj => by
    rw [List.flatMap_cons, List.getElem?_append_left (by simp; omega)]
    simp
  | x :: r, k + 1, j, hk, hj => by
    rw [List.flatMap_cons, List.getElem?_append_right (by simp; omega)]
    have e : (k + 1) * 7 + j - (rul x).length = k * 7 + j := by simp; omega
    rw [e, flatMap_at7 r k j (by simpa using hk) hj]
    simp

theorem OwnU.sl {w : World} {base n c : Nat} {a : Option Addr} {l : List Ru} (h : OwnU w base (.slice a n c) l) : n = l.length ∧ SlU w a l.length (fun k => l.getD k default) := by
  rcases h.2 with ⟨e, h0⟩ | ⟨g, cap', cur, hv, _, hh, hle, _, hs, ht⟩
  · simp only [Value.slice.injEq] at e
    exact ⟨by rw [h0]; exact e.2.1, .inl h0⟩
  · simp only [Value.slice.injEq] at hv
    refine ⟨hv.2.1, .inr ⟨g, 0, hv.1, (Array.getElem?_eq_some_iff.1 hh).1, fun k hk j hj => ?_⟩⟩
    have hlt : k * 7 + j < l.length * 7 := by omega
    have e1 : (l.flatMap rul)[k * 7 + j]? = cur[k * 7 + j]? := by
      rw [← ht, List.getElem?_take, if_pos hlt, Array.getElem?_toList]
    have e2 : w.cell? ⟨g, 0 + k * 7 + j, none⟩ = cur[k * 7 + j]? := by simp [World.cell?, hh]
    rw [e2, ← e1]
    exact flatMap_at7 l k j hk hj

end Go.Proofs.Ytgnmnbimmfknpaa

namespace Go.Proofs.Ytgnmnbimmfknpaa
open Go.RowKit

set_option linter.unusedVariables false

set_option linter.unusedSimpArgs false

/-- A list of rules behind a list of the call's own. -/
theorem wpList_appUM {w : World} {ops : Array Oper} {rest : List Oper} {o : Oper} {a : Act} {Q : Exit → Act → World → Prop} (hgd : o.guard = none) (s x : Operand)
    (ho : o.op = .call { callee := .builtin .append, args := #[s, x], argTypes := #[24, 24] }) (base : Nat) (v : Value) (l : List Ru) (hs : a.eval s = v) (hown : OwnU w base v l)
    (ad : Option Addr) (m c : Nat) (l2 : List Ru) (hx : a.eval x = .slice ad m c) (hm : m = l2.length) (hsl : SlU w ad l2.length (fun k => l2.getD k default)) (hlen : l.length + l2.length ≤ 1000000) (hbase : base ≤ w.heap.size)
    (h : ∀ v' w', OwnU w' base v' (l ++ l2) → w.grownBy w' v.ownBlock → wpList Try.prog ops Q rest (a.put o.dst v') w') : wpList Try.prog ops Q (o :: rest) a w := by
  obtain ⟨i0, hi, hzz⟩ := Option.map_eq_some_iff.1 Try.info30
  simp only [Prod.mk.injEq] at hzz
  obtain ⟨hz0, hz1, hz2⟩ := hzz
  have len7 : ∀ q : List Ru, (q.flatMap rul).length = q.length * 7 := by
    intro q
    induction q with
    | nil => rfl
    | cons y r ih => rw [List.flatMap_cons, List.length_append, ih]; simp; omega
  subst hm
  cases ad with
  | none =>
    have h0 : l2 = [] := by
      rcases hsl with h0 | ⟨b, off, e, _⟩
      · exact List.eq_nil_of_length_eq_zero h0
      · cases e
    subst h0
    have hgo : ∀ (sa : Option Addr) (sn sc : Nat), sn ≤ sc → v = .slice sa sn sc → wpList Try.prog ops Q (o :: rest) a w := by
      rintro sa sn sc hcap rfl
      exact Lib.wpList_append_run _ hgd s x _ _ ho _ _ hs hx _ _ (run_append_nothing w 24 24 o.type 30 i0 Try.underlying24 hi sa sn sc hcap _ (Src.ofNil w Try.underlying24 c)) (h _ w (by simpa using hown) ⟨rfl, rfl, rfl, Nat.le_refl _, fun _ _ _ => rfl⟩)
    rcases hown.2 with ⟨e, _⟩ | ⟨g, cap', cur, hv, _, hh, h3, _⟩
    · exact hgo _ _ _ (Nat.le_refl 0) e
    · exact hgo _ _ _ h3 hv
  | some ad =>
    have hcells : ∀ j u, (l2.flatMap rul)[j]? = some u → w.cell? (ad.add j) = some u := by
      intro j u hu
      have hj : j < l2.length * 7 := by rw [← len7]; exact (List.getElem?_eq_some_iff.1 hu).1
      rcases hsl with h0 | ⟨b, off, e, _, hc⟩
      · omega
      · simp only [Option.some.injEq] at e
        subst e
        have hk : j / 7 < l2.length := by omega
        have hm7 : j % 7 < 7 := by omega
        have ej : j / 7 * 7 + j % 7 = j := by omega
        have e1 : (⟨b, off, none⟩ : Addr).add j = ⟨b, off + j / 7 * 7 + j % 7, none⟩ := by
          rw [Nat.add_assoc, ej]
          unfold Addr.add
          split
          · rename_i h0; subst h0; rfl
          · rfl
        rw [e1, hc _ hk _ hm7, ← flatMap_at7 l2 _ _ hk hm7, ej]
        exact hu
    refine wpList_append_own w hgd s x 24 ho base 30 i0 _ 7 56 Try.underlying24 hi hz0 hz1 hz2 rfl (by decide) v l.length (l.flatMap rul) hs hown ad l2.length c (l2.flatMap rul) hx (len7 l2) hcells (fun u hu => by
      obtain ⟨r, _, hr⟩ := List.mem_flatMap.1 hu
      simp at hr; rcases hr with rfl | rfl | rfl | rfl | rfl | rfl | rfl <;> rfl) (by unfold maxLen; omega) (by omega) hbase ?_
    intro v' w' h1 h2 _
    refine h v' w' ?_ h2
    show w'.ownsRow base _ 7 v' (l ++ l2).length ((l ++ l2).flatMap rul)
    rw [List.length_append, List.flatMap_append]
    exact h1

theorem DU.bend {w0 : World} {a : Option Addr} {cap : Nat} {zs : List Int} {w : World} {g gO n c : Nat} {l : List Ru} {u : World} (h : DU w0 a cap zs w g (.slice (some ⟨gO, 0, none⟩) n c) l u) (hw0 : w0.heap.size ≤ w.heap.size) {k j : Nat} (hk : k < l.length) (hj : j < 7) (y : Int) (hy : -9223372036854775808 ≤ y ∧ y ≤ 9223372036854775807) :
    ∃ l', l'.length = l.length ∧ DU w0 a cap zs w g (.slice (some ⟨gO, 0, none⟩) n c) l' (u.setCell ⟨gO, k * 7 + j, none⟩ (.int .i64 y)) := by
  obtain ⟨l', o, e, hsh⟩ := h.own.set hk hj y
  have hb := (World.ownsRow.lt h.own gO rfl).1
  have hg : g ≠ gO := by have := h.lt; omega
  refine ⟨l', e, h.cur.grown (grown_setb u gO (k * 7 + j) (.int .i64 y)) (by simpa using hg) (fun q hq => by have := Option.some.inj hq; omega), ?_, o, h.lt, fun r hr => ?_⟩
  · refine ⟨h.gr.os, h.gr.tape, h.gr.output, by simpa [World.setCell] using h.gr.size, fun q hq hne => ?_⟩
    rw [(grown_setb u gO (k * 7 + j) (.int .i64 y)).block q (Nat.lt_of_lt_of_le hq h.gr.size) (fun e9 => by have := Option.some.inj e9; omega)]
    exact h.gr.block q hq hne
  · rcases hsh r hr with e9 | ⟨r0, h0, e9⟩
    · unfold S64; rw [e9]; exact hy
    · unfold S64; rw [e9]; exact h.s64 r0 h0

theorem DU.at7 {w0 : World} {a : Option Addr} {cap : Nat} {zs : List Int} {w : World} {g gO n c : Nat} {l : List Ru} {u : World} (h : DU w0 a cap zs w g (.slice (some ⟨gO, 0, none⟩) n c) l u) {k j : Nat} (hk : k < l.length) (hj : j < 7) :
    (∃ old, u.cell? ⟨gO, k * 7 + j, none⟩ = some old) ∧ u.frozen? ⟨gO, k * 7 + j, none⟩ = false := by
  obtain ⟨_, h2, h3⟩ := h.own.cells
  refine ⟨?_, h2 _⟩
  rw [h3 _ (by omega), flatMap_at7 l k j hk hj]
  exact ⟨_, List.getElem?_eq_getElem (by simp; omega)⟩

theorem DU.appM {w0 : World} {a : Option Addr} {cap : Nat} {zs : List Int} {w : World} {g : Nat} {v v' : Value} {l l2 : List Ru} {u u' : World} (h : DU w0 a cap zs w g v l u) (hy : ∀ r ∈ l2, S64 r) (ho : OwnU u' w.heap.size v' (l ++ l2)) (hg : u.grownBy u' v.ownBlock) (hw0 : w0.heap.size ≤ w.heap.size) : DU w0 a cap zs w g v' (l ++ l2) u' := by
  have hne : ∀ k, v.ownBlock = some k → w.heap.size ≤ k := fun k hk => (World.ownsRow.lt h.own k hk).1
  have hg' : some g ≠ v.ownBlock := fun e => by have := hne g e.symm; have := h.lt; omega
  refine ⟨h.cur.grown hg hg' (fun k hk => Nat.le_trans hw0 (hne k hk)), ?_, ho, h.lt, fun r hr => ?_⟩
  · refine ⟨hg.os.trans h.gr.os, hg.tape.trans h.gr.tape, hg.output.trans h.gr.output, Nat.le_trans h.gr.size hg.size, fun k hk hn => ?_⟩
    rw [hg.block k (Nat.lt_of_lt_of_le hk h.gr.size) (fun e => by have := hne k e.symm; omega)]
    exact h.gr.block k hk hn
  · rcases List.mem_append.1 hr with h9 | h9
    · exact h.s64 r h9
    · exact hy r h9

set_option maxRecDepth 20000 in
set_option maxHeartbeats 4000000 in
theorem l10Bend_any (w0 : World) (a : Option Addr) (cap : Nat) (zs : List Int) (w : World) (g : Nat) (hC : Cur w0 a cap zs w g) (hw0 : w0.heap.size ≤ w.heap.size) (va : Option Addr) (vn vc : Nat) (l0 : List Ru) (hvn : vn = l0.length) (hs : SlU w va l0.length (fun k => l0.getD k default)) (hl : l0.length ≤ 30) (h64 : ∀ r ∈ l0, S64 r) :
    Calls Try.prog 91 #[.pointer (some ⟨g, 0, none⟩), .slice va vn vc] w fun e w' => DrawnU w0 a cap zs w g (l0.length + 1) e w' := by
  have hlt := hC.hi
  have D0 : DU w0 a cap zs w g (.slice (some ⟨w.heap.size, 0, none⟩) 0 0) [] (w.alloc (.cells #[] 30)) := ⟨hC.alloc _, World.grownBy_alloc w _ _, World.ownsRow_made w #[] 0 (Nat.le_refl _) (by unfold maxLen; omega) (by simp), hlt, fun r hr => by cases hr⟩
  have HD0 : Hid (DU w0 a cap zs w g (.slice (some ⟨w.heap.size, 0, none⟩) 0 0) [] (w.alloc (.cells #[] 30)) ∧ SlU (w.alloc (.cells #[] 30)) va l0.length (fun k => l0.getD k default) ∧ vn = l0.length ∧ l0.length ≤ 30 ∧ ∀ r ∈ l0, S64 r) := ⟨D0, SlS.below hs ((Below.refl _ _).alloc (Nat.le_refl _) _), hvn, hl, h64⟩
  clear D0 hs hvn hl h64 hC
  go_enter Try.func91, Try.ntmps91
  go_upto_region 2 with (at_builtin; refine wpList_appUM rfl (.tmp 7) (.tmp 8) rfl w.heap.size (.slice (some ⟨w.heap.size, 0, none⟩) 0 0) [] rfl HD0.out.1.own va vn vc l0 rfl HD0.out.2.2.1 HD0.out.2.1 (by have := HD0.out.2.2.2.1; simp; omega) HD0.out.1.gr.size ?_; intro v' u1 O1 gg)
  have D1 := HD0.out.1.appM HD0.out.2.2.2.2 O1 gg hw0
  rw [List.nil_append] at D1
  have HL0 : Hid (l0.length ≤ 30) := HD0.out.2.2.2.1
  clear O1 gg HD0
  by_cases h0 : l0 = []
  · subst h0
    obtain ⟨sa, sc, rfl⟩ := D1.own.shape
    go_wp2
    go_ret
    exact ⟨sa, _, sc, [], rfl, rfl, by simp, D1⟩
  · obtain ⟨gO, c, hv'⟩ : ∃ gO c, v' = .slice (some ⟨gO, 0, none⟩) l0.length c := by
      rcases D1.own.2 with ⟨_, e⟩ | ⟨gO, c, cur, e, _⟩
      · exact absurd (List.eq_nil_of_length_eq_zero e) h0
      · exact ⟨gO, c, e⟩
    subst hv'
    obtain ⟨n, hn⟩ : ∃ n, n = l0.length := ⟨_, rfl⟩
    rw [← hn] at D1 ⊢
    have hn1 : 1 ≤ n := by
      rw [hn]
      cases l0 with
      | nil => exact absurd rfl h0
      | cons _ _ => simp
    have hn30 : n ≤ 30 := by rw [hn]; exact HL0.out
    have HN : Hid (n = l0.length) := hn
    have e0 : ((n : Int) == 0) = false := by simp; omega
    have e0' : ¬ (n : Int) = 0 := by omega
    clear hn h0 HL0
    go_wp2_with fail
    refine (l1Below_any w0 a cap zs _ g (n : Int) (by omega) D1.cur).mono ?_
    rintro e u1' ⟨x, rfl, hx, C', g'⟩
    have D1' := D1.call C' g'
    clear D1 C' g'
    obtain ⟨xn, rfl⟩ : ∃ xn : Nat, x = (xn : Int) := ⟨x.toNat, by omega⟩
    have HL : Hid (n = l0.length ∧ xn < l0.length ∧ l0.length ≤ 30) := ⟨HN.out, by have := HN.out; omega, by have := HN.out; omega⟩
    have hxn : (xn : Int) < (n : Int) := hx.2
    clear hx HN
    go_wp2_with fail
    refine (l1Below_any w0 a cap zs _ g 7 (by decide) D1'.cur).mono ?_
    rintro e u2 ⟨sw, rfl, hsw, C', g'⟩
    have D2 := D1'.call C' g'
    clear D1' C' g'
    obtain rfl | rfl | rfl | rfl | rfl | rfl | rfl : sw = 0 ∨ sw = 1 ∨ sw = 2 ∨ sw = 3 ∨ sw = 4 ∨ sw = 5 ∨ sw = 6 := by omega
    all_goals clear hsw
    · have I : Ints (u2.alloc (.cells #[.int .i64 0, .int .i64 247, .int .i64 248] 3)) ⟨u2.heap.size, 0, none⟩ [0, 247, 248] := ints_lit u2 [0, 247, 248] 3
      have HI : Hid (Ints (u2.alloc (.cells #[.int .i64 0, .int .i64 247, .int .i64 248] 3)) ⟨u2.heap.size, 0, none⟩ [0, 247, 248] ∧ DU w0 a cap zs w g (.slice (some ⟨gO, 0, none⟩) n c) l0 (u2.alloc (.cells #[.int .i64 0, .int .i64 247, .int .i64 248] 3)) ∧ u2.heap.size ≠ g) := ⟨I, D2.alloc _, by have := D2.lt; have := D2.gr.size; omega⟩
      clear I D2
      go_wp2_with fail
      refine (l1Int_any w0 a cap zs _ g ⟨u2.heap.size, 0, none⟩ 3 3 [0, 247, 248] rfl (by omega) (by omega) HI.out.1 HI.out.2.2 HI.out.2.1.cur).mono ?_
      rintro e u3 ⟨y, rfl, hy, C', g'⟩
      have D3 := HI.out.2.1.call C' g'
      clear HI C' g'
      have hy64 : -9223372036854775808 ≤ y ∧ y ≤ 9223372036854775807 := by simp at hy; omega
      clear hy
      have HD := D3.bend hw0 HL.out.2.1 (j := 0) (by decide) y hy64
      obtain ⟨hcl, hfr⟩ := D3.at7 HL.out.2.1 (j := 0) (by decide)
      obtain ⟨old, hold⟩ := hcl
      try simp only [Nat.add_zero] at hold hfr
      have HDD : Hid (∃ l', l'.length = l0.length ∧ DU w0 a cap zs w g (.slice (some ⟨gO, 0, none⟩) n c) l' (u3.setCell ⟨gO, xn * 7, none⟩ (.int .i64 y))) := HD
      clear HD D3
      go_wp2
      go_ret
      obtain ⟨l', e1, D9⟩ := HDD.out
      exact ⟨_, n, c, l', rfl, by rw [e1]; exact HL.out.1, by have := HL.out; omega, D9⟩
    · have I : Ints (u2.alloc (.cells #[.int .i64 (-1), .int .i64 65535, .int .i64 65536, .int .i64 3] 3)) ⟨u2.heap.size, 0, none⟩ [-1, 65535, 65536, 3] := ints_lit u2 [-1, 65535, 65536, 3] 3
      have HI : Hid (Ints (u2.alloc (.cells #[.int .i64 (-1), .int .i64 65535, .int .i64 65536, .int .i64 3] 3)) ⟨u2.heap.size, 0, none⟩ [-1, 65535, 65536, 3] ∧ DU w0 a cap zs w g (.slice (some ⟨gO, 0, none⟩) n c) l0 (u2.alloc (.cells #[.int .i64 (-1), .int .i64 65535, .int .i64 65536, .int .i64 3] 3)) ∧ u2.heap.size ≠ g) := ⟨I, D2.alloc _, by have := D2.lt; have := D2.gr.size; omega⟩
      clear I D2
      go_wp2_with fail
      refine (l1Int_any w0 a cap zs _ g ⟨u2.heap.size, 0, none⟩ 4 4 [-1, 65535, 65536, 3] rfl (by omega) (by omega) HI.out.1 HI.out.2.2 HI.out.2.1.cur).mono ?_
      rintro e u3 ⟨y, rfl, hy, C', g'⟩
      have D3 := HI.out.2.1.call C' g'
      clear HI C' g'
      have hy64 : -9223372036854775808 ≤ y ∧ y ≤ 9223372036854775807 := by simp at hy; omega
      clear hy
      have HD := D3.bend hw0 HL.out.2.1 (j := 3) (by decide) y hy64
      obtain ⟨hcl, hfr⟩ := D3.at7 HL.out.2.1 (j := 3) (by decide)
      obtain ⟨old, hold⟩ := hcl
      try simp only [Nat.add_zero] at hold hfr
      have HDD : Hid (∃ l', l'.length = l0.length ∧ DU w0 a cap zs w g (.slice (some ⟨gO, 0, none⟩) n c) l' (u3.setCell ⟨gO, xn * 7 + 3, none⟩ (.int .i64 y))) := HD
      clear HD D3
      go_wp2
      go_ret
      obtain ⟨l', e1, D9⟩ := HDD.out
      exact ⟨_, n, c, l', rfl, by rw [e1]; exact HL.out.1, by have := HL.out; omega, D9⟩
    · have I : Ints (u2.alloc (.cells #[.int .i64 (-1), .int .i64 65535, .int .i64 (-65535), .int .i64 9223372036854775807] 3)) ⟨u2.heap.size, 0, none⟩ [-1, 65535, -65535, 9223372036854775807] := ints_lit u2 [-1, 65535, -65535, 9223372036854775807] 3
      have HI : Hid (Ints (u2.alloc (.cells #[.int .i64 (-1), .int .i64 65535, .int .i64 (-65535), .int .i64 9223372036854775807] 3)) ⟨u2.heap.size, 0, none⟩ [-1, 65535, -65535, 9223372036854775807] ∧ DU w0 a cap zs w g (.slice (some ⟨gO, 0, none⟩) n c) l0 (u2.alloc (.cells #[.int .i64 (-1), .int .i64 65535, .int .i64 (-65535), .int .i64 9223372036854775807] 3)) ∧ u2.heap.size ≠ g) := ⟨I, D2.alloc _, by have := D2.lt; have := D2.gr.size; omega⟩
      clear I D2
      go_wp2_with fail
      refine (l1Int_any w0 a cap zs _ g ⟨u2.heap.size, 0, none⟩ 4 4 [-1, 65535, -65535, 9223372036854775807] rfl (by omega) (by omega) HI.out.1 HI.out.2.2 HI.out.2.1.cur).mono ?_
      rintro e u3 ⟨y, rfl, hy, C', g'⟩
      have D3 := HI.out.2.1.call C' g'
      clear HI C' g'
      have hy64 : -9223372036854775808 ≤ y ∧ y ≤ 9223372036854775807 := by simp at hy; omega
      clear hy
      have HD := D3.bend hw0 HL.out.2.1 (j := 6) (by decide) y hy64
      obtain ⟨hcl, hfr⟩ := D3.at7 HL.out.2.1 (j := 6) (by decide)
      obtain ⟨old, hold⟩ := hcl
      try simp only [Nat.add_zero] at hold hfr
      have HDD : Hid (∃ l', l'.length = l0.length ∧ DU w0 a cap zs w g (.slice (some ⟨gO, 0, none⟩) n c) l' (u3.setCell ⟨gO, xn * 7 + 6, none⟩ (.int .i64 y))) := HD
      clear HD D3
      go_wp2
      go_ret
      obtain ⟨l', e1, D9⟩ := HDD.out
      exact ⟨_, n, c, l', rfl, by rw [e1]; exact HL.out.1, by have := HL.out; omega, D9⟩
    · obtain ⟨x0, x1, x2, x3, x4, x5, x6⟩ : u2.cell? ⟨gO, xn * 7, none⟩ = some (.int .i64 (l0.getD xn default).u) ∧ u2.cell? ⟨gO, xn * 7 + 1, none⟩ = some (.int .i64 (l0.getD xn default).s) ∧ u2.cell? ⟨gO, xn * 7 + 2, none⟩ = some (.int .i64 (l0.getD xn default).lo) ∧ u2.cell? ⟨gO, xn * 7 + 3, none⟩ = some (.int .i64 (l0.getD xn default).hi) ∧ u2.cell? ⟨gO, xn * 7 + 4, none⟩ = some (.int .i64 (l0.getD xn default).p) ∧ u2.cell? ⟨gO, xn * 7 + 5, none⟩ = some (.int .i64 (l0.getD xn default).t) ∧ u2.cell? ⟨gO, xn * 7 + 6, none⟩ = some (.int .i64 (l0.getD xn default).sh) := by
        obtain ⟨bb, off, e, _, q⟩ := SlU.seven D2.own.sl.2 HL.out.2.1
        simp only [Option.some.injEq, Addr.mk.injEq] at e
        obtain ⟨rfl, rfl, _⟩ := e
        simpa using q
      obtain ⟨y, hy⟩ : ∃ y, y = l0.getD xn default := ⟨_, rfl⟩
      rw [← hy] at x0 x1 x2 x3 x4 x5 x6
      have HS : Hid (S64 y) := D2.s64 y (by rw [hy, List.getD_eq_getElem?_getD, List.getElem?_eq_getElem HL.out.2.1]; simp)
      have HE6 : Hid (DU w0 a cap zs w g (.slice (some ⟨gO, 0, none⟩) n c) l0 (u2.alloc (.cells (ruc y) 30)) ∧ Blk (u2.alloc (.cells (ruc y) 30)) u2.heap.size 30 (ruc y)) := ⟨D2.alloc _, Blk.new u2 _ 30⟩
      have hl9 : l0.length ≤ 1000000 := by have := HL.out; omega
      clear D2 hy
      go_upto_region 18 with (at_builtin; refine wpList_appU rfl (.tmp 49) (.tmp 54) rfl w.heap.size (.slice (some ⟨gO, 0, none⟩) n c) l0 rfl HE6.out.1.own u2.heap.size 1 y rfl (cellsAt7 HE6.out.2) hl9 HE6.out.1.gr.size ?_; intro v' u7 O7 gg)
      have D7 := HE6.out.1.app HS.out O7 gg hw0
      obtain ⟨va', vc', rfl⟩ := O7.shape
      clear O7 gg HE6 HS hl9 x0 x1 x2 x3 x4 x5 x6
      go_wp2
      go_ret
      exact ⟨va', _, vc', _, rfl, rfl, by simp, D7⟩
    · have I : Ints (u2.alloc (.cells #[.int .i64 (-1), .int .i64 5, .int .i64 6] 3)) ⟨u2.heap.size, 0, none⟩ [-1, 5, 6] := ints_lit u2 [-1, 5, 6] 3
      have HI : Hid (Ints (u2.alloc (.cells #[.int .i64 (-1), .int .i64 5, .int .i64 6] 3)) ⟨u2.heap.size, 0, none⟩ [-1, 5, 6] ∧ DU w0 a cap zs w g (.slice (some ⟨gO, 0, none⟩) n c) l0 (u2.alloc (.cells #[.int .i64 (-1), .int .i64 5, .int .i64 6] 3)) ∧ u2.heap.size ≠ g) := ⟨I, D2.alloc _, by have := D2.lt; have := D2.gr.size; omega⟩
      clear I D2
      go_wp2_with fail
      refine (l1Int_any w0 a cap zs _ g ⟨u2.heap.size, 0, none⟩ 3 3 [-1, 5, 6] rfl (by omega) (by omega) HI.out.1 HI.out.2.2 HI.out.2.1.cur).mono ?_
      rintro e u3 ⟨y, rfl, hy, C', g'⟩
      have D3 := HI.out.2.1.call C' g'
      clear HI C' g'
      have hy64 : -9223372036854775808 ≤ y ∧ y ≤ 9223372036854775807 := by simp at hy; omega
      clear hy
      have HD := D3.bend hw0 HL.out.2.1 (j := 4) (by decide) y hy64
      obtain ⟨hcl, hfr⟩ := D3.at7 HL.out.2.1 (j := 4) (by decide)
      obtain ⟨old, hold⟩ := hcl
      try simp only [Nat.add_zero] at hold hfr
      have HDD : Hid (∃ l', l'.length = l0.length ∧ DU w0 a cap zs w g (.slice (some ⟨gO, 0, none⟩) n c) l' (u3.setCell ⟨gO, xn * 7 + 4, none⟩ (.int .i64 y))) := HD
      clear HD D3
      go_wp2
      go_ret
      obtain ⟨l', e1, D9⟩ := HDD.out
      exact ⟨_, n, c, l', rfl, by rw [e1]; exact HL.out.1, by have := HL.out; omega, D9⟩
    · have I : Ints (u2.alloc (.cells #[.int .i64 (-1), .int .i64 4] 3)) ⟨u2.heap.size, 0, none⟩ [-1, 4] := ints_lit u2 [-1, 4] 3
      have HI : Hid (Ints (u2.alloc (.cells #[.int .i64 (-1), .int .i64 4] 3)) ⟨u2.heap.size, 0, none⟩ [-1, 4] ∧ DU w0 a cap zs w g (.slice (some ⟨gO, 0, none⟩) n c) l0 (u2.alloc (.cells #[.int .i64 (-1), .int .i64 4] 3)) ∧ u2.heap.size ≠ g) := ⟨I, D2.alloc _, by have := D2.lt; have := D2.gr.size; omega⟩
      clear I D2
      go_wp2_with fail
      refine (l1Int_any w0 a cap zs _ g ⟨u2.heap.size, 0, none⟩ 2 2 [-1, 4] rfl (by omega) (by omega) HI.out.1 HI.out.2.2 HI.out.2.1.cur).mono ?_
      rintro e u3 ⟨y, rfl, hy, C', g'⟩
      have D3 := HI.out.2.1.call C' g'
      clear HI C' g'
      have hy64 : -9223372036854775808 ≤ y ∧ y ≤ 9223372036854775807 := by simp at hy; omega
      clear hy
      have HD := D3.bend hw0 HL.out.2.1 (j := 1) (by decide) y hy64
      obtain ⟨hcl, hfr⟩ := D3.at7 HL.out.2.1 (j := 1) (by decide)
      obtain ⟨old, hold⟩ := hcl
      try simp only [Nat.add_zero] at hold hfr
      have HDD : Hid (∃ l', l'.length = l0.length ∧ DU w0 a cap zs w g (.slice (some ⟨gO, 0, none⟩) n c) l' (u3.setCell ⟨gO, xn * 7 + 1, none⟩ (.int .i64 y))) := HD
      clear HD D3
      go_wp2
      go_ret
      obtain ⟨l', e1, D9⟩ := HDD.out
      exact ⟨_, n, c, l', rfl, by rw [e1]; exact HL.out.1, by have := HL.out; omega, D9⟩
    · go_wp2
      go_ret
      exact ⟨_, n, c, l0, rfl, HL.out.1, by omega, D2⟩

end Go.Proofs.Ytgnmnbimmfknpaa

namespace Go.Proofs.Ytgnmnbimmfknpaa
open Go.RowKit

set_option linter.unusedVariables false

set_option linter.unusedSimpArgs false

theorem DU.mono {w0 : World} {a : Option Addr} {cap : Nat} {zs : List Int} {w w2 : World} {g : Nat} {v : Value} {l : List Ru} {u : World} (h : DU w0 a cap zs w2 g v l u) (hg : w.grownBy w2 (some g)) (hlt : g < w.heap.size) : DU w0 a cap zs w g v l u :=
  ⟨h.cur, grown_trans hg h.gr, Go.Joins.ownsRow_le h.own hg.size, hlt, h.s64⟩

/-- Rules that were drawn, or the first ones of them. -/
def VU (w0 : World) (a : Option Addr) (cap : Nat) (zs : List Int) (w : World) (g m : Nat) (v : Value) (u : World) : Prop :=
  ∃ va vn vc l k, v = .slice va k vc ∧ vn = l.length ∧ k ≤ l.length ∧ k ≤ m ∧ DU w0 a cap zs w g (.slice va vn vc) l u

theorem VU.call {w0 : World} {a : Option Addr} {cap : Nat} {zs : List Int} {w : World} {g m : Nat} {v : Value} {u u' : World} (h : VU w0 a cap zs w g m v u) (c : Cur w0 a cap zs u' g) (hg : u.grownBy u' (some g)) : VU w0 a cap zs w g m v u' := by
  obtain ⟨va, vn, vc, l, k, e1, e2, e3, e4, D⟩ := h
  exact ⟨va, vn, vc, l, k, e1, e2, e3, e4, D.call c hg⟩

theorem VU.of {w0 : World} {a : Option Addr} {cap : Nat} {zs : List Int} {w w2 : World} {g m : Nat} {e : Ending} {u : World} (h : DrawnU w0 a cap zs w2 g m e u) (hg : w.grownBy w2 (some g)) (hlt : g < w.heap.size) : ∃ va vn vc, e = .returned (.slice va vn vc) ∧ VU w0 a cap zs w g m (.slice va vn vc) u := by
  obtain ⟨va, vn, vc, l, rfl, hvn, hl, D⟩ := h
  exact ⟨va, vn, vc, rfl, va, vn, vc, l, vn, rfl, hvn, by omega, by omega, D.mono hg hlt⟩

theorem VU.read {w0 : World} {a : Option Addr} {cap : Nat} {zs : List Int} {w : World} {g m k vc : Nat} {va : Option Addr} {u : World} (h : VU w0 a cap zs w g m (.slice va k vc) u) :
    k ≤ m ∧ k ≤ vc ∧ Cur w0 a cap zs u g ∧ w.grownBy u (some g) ∧ ∃ l : List Ru, k = l.length ∧ SlU u va l.length (fun i => l.getD i default) ∧ ∀ r ∈ l, S64 r := by
  obtain ⟨va', vn, vc', l, k', e1, e2, e3, e4, D⟩ := h
  simp only [Value.slice.injEq] at e1
  obtain ⟨rfl, rfl, rfl⟩ := e1
  have hcap : vn ≤ vc := by
    rcases D.own.2 with ⟨e, h0⟩ | ⟨g', c', cur, e, _, _, hle, _⟩
    · simp only [Value.slice.injEq] at e; omega
    · simp only [Value.slice.injEq] at e; omega
  refine ⟨e4, by omega, D.cur, D.gr, l.take k, by simp; omega, ?_, fun r hr => D.s64 r (List.mem_of_mem_take hr)⟩
  have hs := D.own.sl.2
  have el : (l.take k).length = k := by simp; omega
  rw [el]
  rcases hs with h0 | ⟨b, off, ha, hlt, hc⟩
  · exact .inl (by omega)
  · exact .inr ⟨b, off, ha, hlt, fun i hi j hj => by
      rw [hc i (by omega) j hj]
      have e9 : (l.take k).getD i default = l.getD i default := by
        rw [List.getD_eq_getElem?_getD, List.getD_eq_getElem?_getD, List.getElem?_take, if_pos hi]
      show (rul (l.getD i default))[j]? = (rul ((l.take k).getD i default))[j]?
      rw [e9]⟩

set_option maxRecDepth 20000 in
set_option maxHeartbeats 2000000 in
theorem l10DrawAny_any (w0 : World) (a : Option Addr) (cap : Nat) (zs : List Int) (w : World) (g : Nat) (hC : Cur w0 a cap zs w g) (hw0 : w0.heap.size ≤ w.heap.size) :
    Calls Try.prog 45 #[.pointer (some ⟨g, 0, none⟩)] w fun e w' => ∃ va vn vc, e = .returned (.slice va vn vc) ∧ VU w0 a cap zs w g 25 (.slice va vn vc) w' := by
  have hlt := hC.hi
  go_enter Try.func45, Try.ntmps45
  go_wp2_with fail
  refine (l10Rules_any w0 a cap zs _ g hC hw0).mono ?_
  intro e w1 h1
  obtain ⟨va, vn, vc, rfl, V1⟩ := VU.of h1 (World.grownBy.refl w _) hlt
  clear h1 hC
  go_wp2_with fail
  refine (l1Once_any w0 a cap zs _ g 2 (by decide) V1.read.2.2.1).mono ?_
  rintro e w2 ⟨t, rfl, C2, g2⟩
  have V2 := V1.call C2 g2
  clear V1 C2 g2
  have HV2 : Hid (VU w0 a cap zs w g 12 (.slice va vn vc) w2) := V2
  clear V2
  go_upto_if 7 with fail
  go_cut [3] (fun sv wx => ∃ va vn vc, sv = .slice va vn vc ∧ VU w0 a cap zs w g 28 (.slice va vn vc) wx)
  case first =>
    cases t with
    | false =>
      go_wp2_with fail
      go_meet
      obtain ⟨va', vn', vc', l, k, q1, q2, q3, q4, D⟩ := HV2.out
      exact ⟨va, vn, vc, rfl, va', vn', vc', l, k, q1, q2, q3, by omega, D⟩
    | true =>
      go_wp2_with fail
      refine (l10One_any w0 a cap zs _ g HV2.out.read.2.2.1 (Nat.le_trans hw0 HV2.out.read.2.2.2.1.size)).mono ?_
      intro e w3 h3
      obtain ⟨va3, vn3, vc3, rfl, V3⟩ := VU.of h3 HV2.out.read.2.2.2.1 hlt
      have HV3 : Hid (VU w0 a cap zs w g 28 (.slice va3 vn3 vc3) w3) := V3
      clear h3 V3 HV2
      go_wp2_with fail
      go_meet
      exact ⟨va3, vn3, vc3, rfl, HV3.out⟩
  case rest =>
  obtain ⟨va3, vn3, vc3, rfl, V3⟩ := hcut
  have HV3 : Hid (VU w0 a cap zs w g 28 (.slice va3 vn3 vc3) wc) := V3
  clear V3 HV2
  obtain ⟨W3, hW3⟩ : ∃ W3, W3 = wc := ⟨_, rfl⟩
  rw [← hW3] at HV3 ⊢
  clear hW3
  go_upto_if 12 with fail
  go_cut [3] (fun sv wx => ∃ va vn vc, sv = .slice va vn vc ∧ VU w0 a cap zs w g 24 (.slice va vn vc) wx)
  case first =>
    by_cases h24 : 24 < vn3
    · have d : (24 : Int) < (vn3 : Int) := by omega
      have hc24 : vn3 ≤ vc3 := HV3.out.read.2.1
      have hc24' : (24 : Int) ≤ (vc3 : Int) := by omega
      go_wp2_with fail
      go_meet
      obtain ⟨va', vn', vc', l, k, q1, q2, q3, q4, D⟩ := HV3.out
      simp only [Value.slice.injEq] at q1
      obtain ⟨rfl, rfl, rfl⟩ := q1
      exact ⟨_, _, _, rfl, va3, vn', vc3, l, 24, by first | rfl | simp, q2, by omega, by omega, D⟩
    · have d : ¬ (24 : Int) < (vn3 : Int) := by omega
      go_wp2_with fail
      go_meet
      obtain ⟨va', vn', vc', l, k, q1, q2, q3, q4, D⟩ := HV3.out
      simp only [Value.slice.injEq] at q1
      obtain ⟨rfl, rfl, rfl⟩ := q1
      exact ⟨_, _, _, rfl, va3, vn', vc3, l, vn3, rfl, q2, q3, by omega, D⟩
  case rest =>
  obtain ⟨va4, vn4, vc4, rfl, V4⟩ := hcut
  clear HV3
  go_wp2_with fail
  refine (l1Once_any w0 a cap zs _ g 8 (by decide) V4.read.2.2.1).mono ?_
  rintro e w5 ⟨t5, rfl, C5, g5⟩
  have HV5 : Hid (VU w0 a cap zs w g 24 (.slice va4 vn4 vc4) w5) := V4.call C5 g5
  clear V4 C5 g5
  cases t5 with
  | false =>
    go_wp2
    go_ret
    obtain ⟨va', vn', vc', l, k, q1, q2, q3, q4, D⟩ := HV5.out
    exact ⟨va4, vn4, vc4, rfl, va', vn', vc', l, k, q1, q2, q3, by omega, D⟩
  | true =>
    have HR := HV5.out.read
    have HR5 : Hid _ := HR
    clear HR
    go_wp2_with fail
    obtain ⟨hk, _, C5, g5, l5, e5, s5, h5⟩ := HR5.out
    refine (l10Bend_any w0 a cap zs _ g C5 (Nat.le_trans hw0 g5.size) va4 vn4 vc4 l5 e5 s5 (by omega) h5).mono ?_
    intro e w6 h6
    obtain ⟨va6, vn6, vc6, rfl, V6⟩ := VU.of h6 g5 hlt
    have HV6 : Hid (VU w0 a cap zs w g 25 (.slice va6 vn6 vc6) w6) := by
      obtain ⟨va', vn', vc', l, k, q1, q2, q3, q4, D⟩ := V6
      exact ⟨va', vn', vc', l, k, q1, q2, q3, by omega, D⟩
    clear h6 V6 HV5 HR5 C5 g5 s5 h5 e5 hk
    go_wp2
    go_ret
    exact ⟨va6, vn6, vc6, rfl, HV6.out⟩

end Go.Proofs.Ytgnmnbimmfknpaa

namespace Go.Proofs.Ytgnmnbimmfknpaa
open Go.RowKit

set_option linter.unusedVariables false

set_option linter.unusedSimpArgs false

set_option maxRecDepth 20000 in
set_option maxHeartbeats 2000000 in
theorem drawRuleAt_any (w : World) (a : Option Addr) (n cap : Nat) (zs : List Int) (hn : n = zs.length) (hs : Sl w a zs) (hr : ∀ z ∈ zs, 0 ≤ z ∧ z ≤ 255) (hl : zs.length ≤ 1048576) :
    Calls Try.prog 10 #[.slice a n cap] w fun e w' => ∃ (w1 : World) (va : Option Addr) (vn vc : Nat) (p s y : Int), e = .returned (.tuple #[.slice va vn vc, .int .i64 p, .int .i64 s, .int .i64 y]) ∧ 1 ≤ p ∧ p ≤ 3 ∧ 0 ≤ s ∧ s ≤ 3 ∧ 0 ≤ y ∧ y ≤ 23 ∧ w.grownBy w1 none ∧ VU w a cap zs w1 w.heap.size 25 (.slice va vn vc) w' := by
  have HNN : Hid (n = zs.length) := hn
  have Hs : Hid (Sl _ a zs) := hs
  clear hs hn
  go_enter Try.func10, Try.ntmps10
  go_wp2_with fail
  refine (l1New_any _ a _ cap zs HNN.out Hs.out hr hl).mono ?_
  rintro e w1 ⟨rfl, C1, g1⟩
  have HG1 : Hid (w.grownBy w1 none) := g1
  have HC1 : Hid (Cur w a cap zs w1 w.heap.size) := C1
  clear hr C1 g1 Hs HNN
  go_wp2_with fail
  refine (l10DrawAny_any w a cap zs w1 w.heap.size HC1.out HG1.out.size).mono ?_
  rintro e w2 ⟨va, vn, vc, rfl, V2⟩
  have HV2 : Hid (VU w a cap zs w1 w.heap.size 25 (.slice va vn vc) w2) := V2
  clear V2
  go_wp2_with fail
  refine (l1Below_any w a cap zs w2 w.heap.size 3 (by decide) HV2.out.read.2.2.1).mono ?_
  rintro e w3 ⟨p, rfl, ⟨hp0, hp1⟩, C3, g3⟩
  have HV3 : Hid (VU w a cap zs w1 w.heap.size 25 (.slice va vn vc) w3) := HV2.out.call C3 g3
  clear C3 g3 HV2
  go_wp2_with fail
  refine (l1Below_any w a cap zs w3 w.heap.size 4 (by decide) HV3.out.read.2.2.1).mono ?_
  rintro e w4 ⟨s, rfl, ⟨hs0, hs1⟩, C4, g4⟩
  have HV4 : Hid (VU w a cap zs w1 w.heap.size 25 (.slice va vn vc) w4) := HV3.out.call C4 g4
  clear C4 g4 HV3
  go_wp2_with fail
  refine (l1Below_any w a cap zs w4 w.heap.size 24 (by decide) HV4.out.read.2.2.1).mono ?_
  rintro e w5 ⟨y, rfl, ⟨hy0, hy1⟩, C5, g5⟩
  have HV5 : Hid (VU w a cap zs w1 w.heap.size 25 (.slice va vn vc) w5) := HV4.out.call C5 g5
  clear C5 g5 HV4
  go_wp2
  refine bodyPost_ret (v := .tuple #[.slice va vn vc, .int .i64 (1 + p), .int .i64 s, .int .i64 y]) (by simp [results, Try.results10, go_sem]) rfl ?_
  exact ⟨w1, va, vn, vc, 1 + p, s, y, rfl, by omega, by omega, by omega, by omega, by omega, by omega, HG1.out, HV5.out⟩

end Go.Proofs.Ytgnmnbimmfknpaa
