/- Rules that are drawn: lists of rules of the call's own. -/
import Derived.Test.YtgnmnbimmfknpaaPt2
import Derived.Test.YtgnmnbimmfknpaaAskU
namespace Go.Proofs.Ytgnmnbimmfknpaa
open Go.RowKit

set_option linter.unusedVariables false

set_option linter.unusedSimpArgs false

/-- A list of rules of the call's own. -/
def OwnU (w : World) (base : Nat) (v : Value) (l : List Ru) : Prop := w.ownsRow base 30 7 v l.length (l.flatMap rul)

theorem OwnU.kept {w w' : World} {base : Nat} {v : Value} {l : List Ru} {row : Option Nat} (h : OwnU w base v l) (hg : w.grownBy w' row) (hne : v.ownBlock = none ∨ v.ownBlock ≠ row) : OwnU w' base v l := World.ownsRow.kept h hg hne

theorem OwnU.shape {w : World} {base : Nat} {v : Value} {l : List Ru} (h : OwnU w base v l) : ∃ a cap, v = .slice a l.length cap := by
  rcases h.2 with ⟨rfl, h0⟩ | ⟨g, cap, cur, rfl, _⟩
  · exact ⟨none, 0, by rw [h0]⟩
  · exact ⟨_, cap, rfl⟩

/-- A shift that a number of 64 bits may be. -/
def S64 (r : Ru) : Prop := -9223372036854775808 ≤ r.sh ∧ r.sh ≤ 9223372036854775807

theorem wpList_appU {w : World} {ops : Array Oper} {rest : List Oper} {o : Oper} {a : Act} {Q : Exit → Act → World → Prop} (hgd : o.guard = none) (s x : Operand)
    (ho : o.op = .call { callee := .builtin .append, args := #[s, x], argTypes := #[24, 24] }) (base : Nat) (v : Value) (l : List Ru) (hs : a.eval s = v) (hown : OwnU w base v l)
    (g c : Nat) (y : Ru) (hx : a.eval x = .slice (some ⟨g, 0, none⟩) 1 c) (hy : ∀ j u, (rul y)[j]? = some u → w.cell? ((⟨g, 0, none⟩ : Addr).add j) = some u) (hlen : l.length ≤ 1000000) (hbase : base ≤ w.heap.size)
    (h : ∀ v' w', OwnU w' base v' (l ++ [y]) → w.grownBy w' v.ownBlock → wpList Try.prog ops Q rest (a.put o.dst v') w') : wpList Try.prog ops Q (o :: rest) a w := by
  obtain ⟨i0, hi, hzz⟩ := Option.map_eq_some_iff.1 Try.info30
  simp only [Prod.mk.injEq] at hzz
  obtain ⟨hz0, hz1, hz2⟩ := hzz
  refine wpList_append_own w hgd s x 24 ho base 30 i0 _ 7 56 Try.underlying24 hi hz0 hz1 hz2 rfl (by decide) v l.length (l.flatMap rul) hs hown ⟨g, 0, none⟩ 1 c (rul y) hx rfl hy (fun u hu => by simp at hu; rcases hu with rfl | rfl | rfl | rfl | rfl | rfl | rfl <;> rfl) (by unfold maxLen; omega) (by omega) hbase ?_
  intro v' w' h1 h2 _
  refine h v' w' ?_ h2
  show w'.ownsRow base _ 7 v' (l ++ [y]).length ((l ++ [y]).flatMap rul)
  rw [List.length_append, List.flatMap_append]
  simpa using h1

/-- What is known while rules are drawn. -/
structure DU (w0 : World) (a : Option Addr) (cap : Nat) (zs : List Int) (w : World) (g : Nat) (v : Value) (l : List Ru) (u : World) : Prop where
  cur : Cur w0 a cap zs u g
  gr : w.grownBy u (some g)
  own : OwnU u w.heap.size v l
  lt : g < w.heap.size
  s64 : ∀ r ∈ l, S64 r

theorem DU.call {w0 : World} {a : Option Addr} {cap : Nat} {zs : List Int} {w : World} {g : Nat} {v : Value} {l : List Ru} {u u' : World} (h : DU w0 a cap zs w g v l u) (c : Cur w0 a cap zs u' g) (hg : u.grownBy u' (some g)) : DU w0 a cap zs w g v l u' :=
  ⟨c, grown_trans h.gr hg, h.own.kept hg (.inr (fun e => by have := (World.ownsRow.lt h.own g e).1; have := h.lt; omega)), h.lt, h.s64⟩

theorem DU.alloc {w0 : World} {a : Option Addr} {cap : Nat} {zs : List Int} {w : World} {g : Nat} {v : Value} {l : List Ru} {u : World} (h : DU w0 a cap zs w g v l u) (o : Obj) : DU w0 a cap zs w g v l (u.alloc o) :=
  h.call (h.cur.alloc o) (World.grownBy_alloc u o (some g))

theorem DU.app {w0 : World} {a : Option Addr} {cap : Nat} {zs : List Int} {w : World} {g : Nat} {v v' : Value} {l : List Ru} {u u' : World} {y : Ru} (h : DU w0 a cap zs w g v l u) (hy : S64 y) (ho : OwnU u' w.heap.size v' (l ++ [y])) (hg : u.grownBy u' v.ownBlock) (hw0 : w0.heap.size ≤ w.heap.size) : DU w0 a cap zs w g v' (l ++ [y]) u' := by
  have hne : ∀ k, v.ownBlock = some k → w.heap.size ≤ k := fun k hk => (World.ownsRow.lt h.own k hk).1
  have hg' : some g ≠ v.ownBlock := fun e => by have := hne g e.symm; have := h.lt; omega
  refine ⟨h.cur.grown hg hg' (fun k hk => Nat.le_trans hw0 (hne k hk)), ?_, ho, h.lt, fun r hr => ?_⟩
  · refine ⟨hg.os.trans h.gr.os, hg.tape.trans h.gr.tape, hg.output.trans h.gr.output, Nat.le_trans h.gr.size hg.size, fun k hk hn => ?_⟩
    rw [hg.block k (Nat.lt_of_lt_of_le hk h.gr.size) (fun e => by have := hne k e.symm; omega)]
    exact h.gr.block k hk hn
  · rcases List.mem_append.1 hr with h9 | h9
    · exact h.s64 r h9
    · obtain rfl := List.mem_singleton.1 h9; exact hy

/-- What a draw of rules tells. -/
def DrawnU (w0 : World) (a : Option Addr) (cap : Nat) (zs : List Int) (w : World) (g m : Nat) (e : Ending) (w' : World) : Prop :=
  ∃ va vn vc l, e = .returned (.slice va vn vc) ∧ vn = l.length ∧ l.length ≤ m ∧ DU w0 a cap zs w g (.slice va vn vc) l w'

theorem cellsAt7 {w : World} {g : Nat} {r : Ru} (h : Blk w g 30 (ruc r)) : ∀ j u, (rul r)[j]? = some u → w.cell? ((⟨g, 0, none⟩ : Addr).add j) = some u := by
  intro j u hu
  have e1 : (⟨g, 0, none⟩ : Addr).add j = ⟨g, j, none⟩ := by unfold Addr.add; split <;> simp_all
  rw [e1]
  exact h.cell j (by rw [show ruc r = (rul r).toArray from rfl, List.getElem?_toArray]; exact hu)

set_option maxRecDepth 20000 in
set_option maxHeartbeats 2000000 in
theorem l10Rules_any (w0 : World) (a : Option Addr) (cap : Nat) (zs : List Int) (w : World) (g : Nat) (hC : Cur w0 a cap zs w g) (hw0 : w0.heap.size ≤ w.heap.size) :
    Calls Try.prog 89 #[.pointer (some ⟨g, 0, none⟩)] w fun e w' => DrawnU w0 a cap zs w g 12 e w' := by
  have hlt := hC.hi
  have D0 : DU w0 a cap zs w g (.slice (some ⟨w.heap.size, 0, none⟩) 0 0) [] (w.alloc (.cells #[] 30)) := ⟨hC.alloc _, World.grownBy_alloc w _ _, World.ownsRow_made w #[] 0 (Nat.le_refl _) (by unfold maxLen; omega) (by simp), hlt, fun r hr => by cases hr⟩
  go_enter Try.func89, Try.ntmps89
  go_wp2
  go_loopw [3, 4] (fun v i wr => ∃ (z : Nat) (va : Option Addr) (vn vc : Nat) (l : List Ru), z ≤ 4 ∧ i = .int .i64 z ∧ v = .slice va vn vc ∧ vn = l.length ∧ l.length ≤ 3 * z ∧ DU w0 a cap zs w g (.slice va vn vc) l wr) (fun v i _ => 4 - (intOf i).toNat)
  case atStart => exact ⟨0, _, _, _, [], by omega, rfl, rfl, rfl, by simp, D0⟩
  case round =>
    clear D0
    obtain ⟨z, va, vn, vc, l, hz, rfl, rfl, hvn, hl, D⟩ := hrel
    by_cases hz4 : z < 4
    · have hi : (z : Int) < 4 := by omega
      have HL : Hid (vn = l.length ∧ l.length ≤ 3 * z) := ⟨hvn, hl⟩
      clear hvn hl
      go_wp2_with fail
      refine (l1Below_any w0 a cap zs _ g 2 (by decide) D.cur).mono ?_
      rintro e u1 ⟨lo, rfl, hlo, C1, g1⟩
      have D1 := D.call C1 g1
      clear D C1 g1
      go_wp2_with fail
      refine (l1Below_any w0 a cap zs _ g 4 (by decide) D1.cur).mono ?_
      rintro e u2 ⟨cnt, rfl, hcnt, C2, g2⟩
      have D2 := D1.call C2 g2
      clear D1 C2 g2
      go_wp2
      go_loopw [3, 5, 6] (fun v lov i wr => ∃ (k lo : Int) (va : Option Addr) (vn vc : Nat) (l : List Ru), 0 ≤ k ∧ i = .int .i64 k ∧ lov = .int .i64 lo ∧ v = .slice va vn vc ∧ vn = l.length ∧ (l.length : Int) + k ≤ 3 * z + 3 ∧ 0 ≤ lo ∧ lo + 11 * k ≤ 40 ∧ DU w0 a cap zs w g (.slice va vn vc) l wr) (fun v lov i _ => (intOf i).toNat)
      case atStart => exact ⟨cnt, lo, _, _, _, l, by omega, rfl, rfl, rfl, HL.out.1, by have := HL.out; omega, by omega, by omega, D2⟩
      case round =>
        clear D2 HL
        obtain ⟨k, lo, va, vn, vc, l, hk, rfl, rfl, rfl, hvn, hl, hlo, hb, D⟩ := hrel
        have HL : Hid (vn = l.length ∧ (l.length : Int) + k ≤ 3 * z + 3 ∧ lo + 11 * k ≤ 40) := ⟨hvn, hl, hb⟩
        by_cases hk0 : 0 < k
        · clear hvn hl
          have wl : IntKind.i64.wrap (lo + 1) = lo + 1 := by rw [IntKind.wrap_i64]; omega
          go_wp2_with fail
          refine (l1Below_any w0 a cap zs _ g 7 (by decide) D.cur).mono ?_
          rintro e u1 ⟨x1, rfl, hx1, C1, g1⟩
          have D1 := D.call C1 g1
          clear D C1 g1
          obtain ⟨hiv, hhi⟩ : ∃ hiv, hiv = lo + 1 + x1 := ⟨_, rfl⟩
          have wh : IntKind.i64.wrap (lo + 1 + x1) = hiv := by rw [IntKind.wrap_i64]; omega
          have HH : Hid (hiv = lo + 1 + x1) := hhi
          have hb2 : 0 ≤ hiv ∧ hiv ≤ 60 := by omega
          clear hhi
          go_wp2_with fail
          refine (l1Below_any w0 a cap zs _ g 2 (by decide) D1.cur).mono ?_
          rintro e u2 ⟨p1, rfl, hp1, C', g'⟩
          have D2 := D1.call C' g'
          clear D1 C' g'
          have wp1 : IntKind.i64.wrap (1 + p1) = 1 + p1 := by rw [IntKind.wrap_i64]; omega
          go_wp2_with fail
          refine (l1Below_any w0 a cap zs _ g 3 (by decide) D2.cur).mono ?_
          rintro e u3 ⟨p2, rfl, hp2, C', g'⟩
          have D3 := D2.call C' g'
          clear D2 C' g'
          go_wp2_with fail
          refine (l1Below_any w0 a cap zs _ g 3 (by decide) D3.cur).mono ?_
          rintro e u4 ⟨p3, rfl, hp3, C', g'⟩
          have D4 := D3.call C' g'
          clear D3 C' g'
          have wp3 : IntKind.i64.wrap (1 + p3) = 1 + p3 := by rw [IntKind.wrap_i64]; omega
          have I5 : Ints (u4.alloc (.cells #[.int .i64 0, .int .i64 0, .int .i64 3, .int .i64 10] 3)) ⟨u4.heap.size, 0, none⟩ [0, 0, 3, 10] := ints_lit u4 [0, 0, 3, 10] 3
          have E5 := D4.alloc (.cells #[.int .i64 0, .int .i64 0, .int .i64 3, .int .i64 10] 3)
          have ne5 : u4.heap.size ≠ g := by have := D4.lt; have := D4.gr.size; omega
          have HI5 : Hid (Ints (u4.alloc (.cells #[.int .i64 0, .int .i64 0, .int .i64 3, .int .i64 10] 3)) ⟨u4.heap.size, 0, none⟩ [0, 0, 3, 10] ∧ DU w0 a cap zs w g (.slice va vn vc) l (u4.alloc (.cells #[.int .i64 0, .int .i64 0, .int .i64 3, .int .i64 10] 3)) ∧ u4.heap.size ≠ g) := ⟨I5, E5, ne5⟩
          clear I5 E5 ne5 D4
          go_wp2_with fail
          refine (l1Int_any w0 a cap zs _ g ⟨u4.heap.size, 0, none⟩ 4 4 [0, 0, 3, 10] rfl (by omega) (by omega) HI5.out.1 HI5.out.2.2 HI5.out.2.1.cur).mono ?_
          rintro e u5 ⟨t1, rfl, ht1, C', g'⟩
          have D5 := HI5.out.2.1.call C' g'
          clear HI5 C' g'
          have bt1 : 0 ≤ t1 ∧ t1 ≤ 10 := by simp at ht1; omega
          have I6 : Ints (u5.alloc (.cells #[.int .i64 0, .int .i64 lo] 3)) ⟨u5.heap.size, 0, none⟩ [0, lo] := ints_lit u5 [0, lo] 3
          have E6 := D5.alloc (.cells #[.int .i64 0, .int .i64 lo] 3)
          have ne6 : u5.heap.size ≠ g := by have := D5.lt; have := D5.gr.size; omega
          have HI6 : Hid (Ints (u5.alloc (.cells #[.int .i64 0, .int .i64 lo] 3)) ⟨u5.heap.size, 0, none⟩ [0, lo] ∧ DU w0 a cap zs w g (.slice va vn vc) l (u5.alloc (.cells #[.int .i64 0, .int .i64 lo] 3)) ∧ u5.heap.size ≠ g) := ⟨I6, E6, ne6⟩
          clear I6 E6 ne6 D5
          go_wp2_with fail
          refine (l1Int_any w0 a cap zs _ g ⟨u5.heap.size, 0, none⟩ 2 2 [0, lo] rfl (by omega) (by omega) HI6.out.1 HI6.out.2.2 HI6.out.2.1.cur).mono ?_
          rintro e u6 ⟨t2, rfl, ht2, C', g'⟩
          have D6 := HI6.out.2.1.call C' g'
          clear HI6 C' g'
          have bt2 : 0 ≤ t2 ∧ t2 ≤ 60 := by simp at ht2; omega
          have wt : IntKind.i64.wrap (t1 - t2) = t1 - t2 := by rw [IntKind.wrap_i64]; omega
          clear ht1 ht2
          obtain ⟨y, hy⟩ : ∃ y : Ru, y = ⟨1 + p1, z, lo, hiv, p2, 1 + p3, t1 - t2⟩ := ⟨_, rfl⟩
          have HS : Hid (S64 ⟨1 + p1, z, lo, hiv, p2, 1 + p3, t1 - t2⟩) := by show -9223372036854775808 ≤ t1 - t2 ∧ t1 - t2 ≤ 9223372036854775807; omega
          have E6 := D6.alloc (.cells (ruc ⟨1 + p1, z, lo, hiv, p2, 1 + p3, t1 - t2⟩) 30)
          have HE6 : Hid (DU w0 a cap zs w g (.slice va vn vc) l (u6.alloc (.cells (ruc ⟨1 + p1, z, lo, hiv, p2, 1 + p3, t1 - t2⟩) 30)) ∧ Blk (u6.alloc (.cells (ruc ⟨1 + p1, z, lo, hiv, p2, 1 + p3, t1 - t2⟩) 30)) u6.heap.size 30 (ruc ⟨1 + p1, z, lo, hiv, p2, 1 + p3, t1 - t2⟩)) := ⟨E6, Blk.new u6 _ 30⟩
          have hl9 : l.length ≤ 1000000 := by have := HL.out; omega
          clear D6 E6 hy
          go_upto_region 11 with (at_builtin; refine wpList_appU rfl (.tmp 26) (.tmp 47) rfl w.heap.size (.slice va vn vc) l rfl HE6.out.1.own u6.heap.size 1 ⟨1 + p1, z, lo, hiv, p2, 1 + p3, t1 - t2⟩ rfl (cellsAt7 HE6.out.2) hl9 HE6.out.1.gr.size ?_; intro v' u7 O7 gg)
          have D7 := HE6.out.1.app HS.out O7 gg hw0
          obtain ⟨va', vc', rfl⟩ := O7.shape
          obtain ⟨vn', hvn'⟩ : ∃ vn', vn' = (l ++ [(⟨1 + p1, z, lo, hiv, p2, 1 + p3, t1 - t2⟩ : Ru)]).length := ⟨_, rfl⟩
          rw [← hvn'] at D7 ⊢
          obtain ⟨l', hl'⟩ : ∃ l', l' = l ++ [(⟨1 + p1, z, lo, hiv, p2, 1 + p3, t1 - t2⟩ : Ru)] := ⟨_, rfl⟩
          have HL7 : Hid (vn' = l'.length ∧ l'.length = l.length + 1) := ⟨by rw [hl']; exact hvn', by rw [hl']; simp⟩
          rw [← hl'] at D7
          clear hl' hvn' O7 gg HE6 HS hl9
          have wh1 : IntKind.i64.wrap (hiv + 1) = hiv + 1 := by rw [IntKind.wrap_i64]; omega
          have I8 : Ints (u7.alloc (.cells #[.int .i64 0, .int .i64 0, .int .i64 0, .int .i64 2] 3)) ⟨u7.heap.size, 0, none⟩ [0, 0, 0, 2] := ints_lit u7 [0, 0, 0, 2] 3
          have HI8 : Hid (Ints (u7.alloc (.cells #[.int .i64 0, .int .i64 0, .int .i64 0, .int .i64 2] 3)) ⟨u7.heap.size, 0, none⟩ [0, 0, 0, 2] ∧ DU w0 a cap zs w g (.slice va' vn' vc') l' (u7.alloc (.cells #[.int .i64 0, .int .i64 0, .int .i64 0, .int .i64 2] 3)) ∧ u7.heap.size ≠ g) := ⟨I8, D7.alloc _, by have := D7.lt; have := D7.gr.size; omega⟩
          clear I8 D7
          go_wp2_with fail
          refine (l1Int_any w0 a cap zs _ g ⟨u7.heap.size, 0, none⟩ 4 4 [0, 0, 0, 2] rfl (by omega) (by omega) HI8.out.1 HI8.out.2.2 HI8.out.2.1.cur).mono ?_
          rintro e u8 ⟨d, rfl, hd, C', g'⟩
          have D8 := HI8.out.2.1.call C' g'
          clear HI8 C' g'
          have bd : 0 ≤ d ∧ d ≤ 2 := by simp at hd; omega
          have wd : IntKind.i64.wrap (hiv + 1 + d) = hiv + 1 + d := by rw [IntKind.wrap_i64]; omega
          have wk : IntKind.i64.wrap (k - 1) = k - 1 := by rw [IntKind.wrap_i64]; omega
          clear hd
          go_wp2
          go_roundw
          case rel => (have h1 := HL.out; have h2 := HL7.out; have h3 := HH.out; exact ⟨k - 1, hiv + 1 + d, va', vn', vc', l', by omega, rfl, rfl, rfl, h2.1, by omega, by omega, by omega, D8⟩)
          case measure => simp [intOf]; omega
        · have hk1 : ¬ 0 < k := hk0
          go_wp2
          go_roundw
          case rel => exact ⟨z + 1, va, vn, vc, l, by omega, by go_num, rfl, hvn, by omega, D⟩
          case measure => simp [intOf]; omega
    · have hi : ¬ (z : Int) < 4 := by omega
      have HX : Hid (vn = l.length ∧ l.length ≤ 12 ∧ DU w0 a cap zs w g (.slice va vn vc) l wr) := ⟨hvn, by omega, D⟩
      clear hvn hl D
      go_wp2
      go_ret
      exact ⟨va, vn, vc, l, rfl, HX.out⟩

end Go.Proofs.Ytgnmnbimmfknpaa
