/- Texts that the proof needs, joined: AskU Dr1 Dr2 ArgQ ArgU Dr3. -/
import Derived.Test.YtegckbfbmbiogaaV28
import Derived.Test.YtegckbfbmbiogaaV5
import Derived.Test.YtegckbfbmbiogaaV1
import Derived.Deep.Slices
import Derived.Deep.Upon
import Derived.Lib.AppendZerosOnto
namespace Go.Proofs.Ytegckbfbmbiogaa
open Go.RowKit
set_option linter.unusedVariables false
set_option linter.unusedSimpArgs false
end Go.Proofs.Ytegckbfbmbiogaa
namespace Go.Proofs.Ytegckbfbmbiogaa
open Go.RowKit
set_option linter.unusedVariables false
set_option linter.unusedSimpArgs false
def OwnU (w : World) (base : Nat) (v : Value) (l : List Ru) : Prop := w.ownsRow base 41 7 v l.length (l.flatMap rul)
theorem OwnU.kept {w w' : World} {base : Nat} {v : Value} {l : List Ru} {row : Option Nat} (h : OwnU w base v l) (hg : w.grownBy w' row) (hne : v.ownBlock = none ∨ v.ownBlock ≠ row) : OwnU w' base v l := World.ownsRow.kept h hg hne
theorem OwnU.shape {w : World} {base : Nat} {v : Value} {l : List Ru} (h : OwnU w base v l) : ∃ a cap, v = .slice a l.length cap := by
  rcases h.2 with ⟨rfl, h0⟩ | ⟨g, cap, cur, rfl, _⟩
  · exact ⟨none, 0, by rw [h0]⟩
  · exact ⟨_, cap, rfl⟩
def S64 (r : Ru) : Prop := -9223372036854775808 ≤ r.sh ∧ r.sh ≤ 9223372036854775807
theorem wpList_appU {w : World} {ops : Array Oper} {rest : List Oper} {o : Oper} {a : Act} {Q : Exit → Act → World → Prop} (hgd : o.guard = none) (s x : Operand)
    (ho : o.op = .call { callee := .builtin .append, args := #[s, x], argTypes := #[24, 24] }) (base : Nat) (v : Value) (l : List Ru) (hs : a.eval s = v) (hown : OwnU w base v l)
    (g c : Nat) (y : Ru) (hx : a.eval x = .slice (some ⟨g, 0, none⟩) 1 c) (hy : ∀ j u, (rul y)[j]? = some u → w.cell? ((⟨g, 0, none⟩ : Addr).add j) = some u) (hlen : l.length ≤ 1000000) (hbase : base ≤ w.heap.size)
    (h : ∀ v' w', OwnU w' base v' (l ++ [y]) → w.grownBy w' v.ownBlock → wpList Try.prog ops Q rest (a.put o.dst v') w') : wpList Try.prog ops Q (o :: rest) a w := by
  obtain ⟨i0, hi, hzz⟩ := Option.map_eq_some_iff.1 Try.info41
  simp only [Prod.mk.injEq] at hzz
  obtain ⟨hz0, hz1, hz2⟩ := hzz
  refine wpList_append_own w hgd s x 24 ho base 41 i0 _ 7 56 Try.underlying24 hi hz0 hz1 hz2 rfl (by decide) v l.length (l.flatMap rul) hs hown ⟨g, 0, none⟩ 1 c (rul y) hx rfl hy (fun u hu => by simp at hu; rcases hu with rfl | rfl | rfl | rfl | rfl | rfl | rfl <;> rfl) (by unfold maxLen; omega) (by omega) hbase ?_
  intro v' w' h1 h2 _
  refine h v' w' ?_ h2
  show w'.ownsRow base _ 7 v' (l ++ [y]).length ((l ++ [y]).flatMap rul)
  rw [List.length_append, List.flatMap_append]
  simpa using h1
structure DU (w0 : World) (a : Option Addr) (cap : Nat) (zs : List Int) (w : World) (g : Nat) (v : Value) (l : List Ru) (u : World) : Prop where
  cur : Cur w0 a cap zs u g
  gr : w.grownBy u (some g)
  own : OwnU u w.heap.size v l
  lt : g < w.heap.size
  s64 : ∀ r ∈ l, S64 r
theorem DU.call {w0 : World} {a : Option Addr} {cap : Nat} {zs : List Int} {w : World} {g : Nat} {v : Value} {l : List Ru} {u u' : World} (h : DU w0 a cap zs w g v l u) (c : Cur w0 a cap zs u' g) (hg : u.grownBy u' (some g)) : DU w0 a cap zs w g v l u' :=
  ⟨c, grown_trans h.gr hg, h.own.kept hg (.inr (fun e => by have := (World.ownsRow.lt h.own g e).1; have := h.lt; omega)), h.lt, h.s64⟩
theorem DU.alloc {w0 : World} {a : Option Addr} {cap : Nat} {zs : List Int} {w : World} {g : Nat} {v : Value} {l : List Ru} {u : World} (h : DU w0 a cap zs w g v l u) (o : Obj) : DU w0 a cap zs w g v l (u.alloc o) :=
  h.call (h.cur.alloc o) (World.grownBy_alloc u o (some g))
theorem DU.app {w0 : World} {a : Option Addr} {cap : Nat} {zs : List Int} {w : World} {g : Nat} {v v' : Value} {l : List Ru} {u u' : World} {y : Ru} (h : DU w0 a cap zs w g v l u) (hy : S64 y) (ho : OwnU u' w.heap.size v' (l ++ [y])) (hg : u.grownBy u' v.ownBlock) (hw0 : w0.heap.size ≤ w.heap.size) : DU w0 a cap zs w g v' (l ++ [y]) u' := by
  have hne : ∀ k, v.ownBlock = some k → w.heap.size ≤ k := fun k hk => (World.ownsRow.lt h.own k hk).1
  have hg' : some g ≠ v.ownBlock := fun e => by have := hne g e.symm; have := h.lt; omega
  refine ⟨h.cur.grown hg hg' (fun k hk => Nat.le_trans hw0 (hne k hk)), ?_, ho, h.lt, fun r hr => ?_⟩
  · refine ⟨hg.os.trans h.gr.os, hg.tape.trans h.gr.tape, hg.output.trans h.gr.output, Nat.le_trans h.gr.size hg.size, fun k hk hn => ?_⟩
    rw [hg.block k (Nat.lt_of_lt_of_le hk h.gr.size) (fun e => by have := hne k e.symm; omega)]
    exact h.gr.block k hk hn
  · rcases List.mem_append.1 hr with h9 | h9
    · exact h.s64 r h9
    · obtain rfl := List.mem_singleton.1 h9; exact hy
def DrawnU (w0 : World) (a : Option Addr) (cap : Nat) (zs : List Int) (w : World) (g m : Nat) (e : Ending) (w' : World) : Prop :=
  ∃ va vn vc l, e = .returned (.slice va vn vc) ∧ vn = l.length ∧ l.length ≤ m ∧ DU w0 a cap zs w g (.slice va vn vc) l w'
theorem cellsAt7 {w : World} {g : Nat} {r : Ru} (h : Blk w g 41 (ruc r)) : ∀ j u, (rul r)[j]? = some u → w.cell? ((⟨g, 0, none⟩ : Addr).add j) = some u := by
  intro j u hu
  have e1 : (⟨g, 0, none⟩ : Addr).add j = ⟨g, j, none⟩ := by unfold Addr.add; split <;> simp_all
  rw [e1]
  exact h.cell j (by rw [show ruc r = (rul r).toArray from rfl, List.getElem?_toArray]; exact hu)
end Go.Proofs.Ytegckbfbmbiogaa
namespace Go.Proofs.Ytegckbfbmbiogaa
open Go.RowKit
set_option linter.unusedVariables false
set_option linter.unusedSimpArgs false
set_option maxRecDepth 20000 in
set_option maxHeartbeats 2000000 in
theorem l10One_any (w0 : World) (a : Option Addr) (cap : Nat) (zs : List Int) (w : World) (g : Nat) (hC : Cur w0 a cap zs w g) (hw0 : w0.heap.size ≤ w.heap.size) :
    Calls Try.prog 34 #[.pointer (some ⟨g, 0, none⟩)] w fun e w' => DrawnU w0 a cap zs w g 28 e w' := by
  have hlt := hC.hi
  have D0 : DU w0 a cap zs w g (.slice (some ⟨w.heap.size, 0, none⟩) 0 0) [] (w.alloc (.cells #[] 41)) := ⟨hC.alloc _, World.grownBy_alloc w _ _, World.ownsRow_made w #[] 0 (Nat.le_refl _) (by unfold maxLen; omega) (by simp), hlt, fun r hr => by cases hr⟩
  go_enter Try.func34, Try.ntmps34
  go_wp2
  go_loopw [3, 4] (fun v i wr => ∃ (z : Nat) (va : Option Addr) (vn vc : Nat) (l : List Ru), z ≤ 4 ∧ i = .int .i64 z ∧ v = .slice va vn vc ∧ vn = l.length ∧ l.length ≤ 7 * z ∧ DU w0 a cap zs w g (.slice va vn vc) l wr) (fun v i _ => 4 - (intOf i).toNat)
  case atStart => exact ⟨0, _, _, _, [], by omega, rfl, rfl, rfl, by simp, D0⟩
  case round =>
    clear D0
    obtain ⟨z, va, vn, vc, l, hz, rfl, rfl, hvn, hl, D⟩ := hrel
    by_cases hz4 : z < 4
    · have hi : (z : Int) < 4 := by omega
      have HL : Hid (vn = l.length ∧ l.length ≤ 7 * z) := ⟨hvn, hl⟩
      clear hvn hl
      go_wp2
      go_loopw [3, 5] (fun v lov wr => ∃ (lo : Int) (va : Option Addr) (vn vc : Nat) (l : List Ru), lov = .int .i64 lo ∧ v = .slice va vn vc ∧ vn = l.length ∧ 3 * (l.length : Int) ≤ 21 * z + lo ∧ 0 ≤ lo ∧ lo ≤ 21 ∧ DU w0 a cap zs w g (.slice va vn vc) l wr) (fun v lov _ => 30 - (intOf lov).toNat)
      case atStart => exact ⟨0, _, _, _, l, rfl, rfl, HL.out.1, by have := HL.out; omega, by omega, by omega, D⟩
      case round =>
        clear D HL
        obtain ⟨lo, va, vn, vc, l, rfl, rfl, hvn, hl, hlo, hb, D⟩ := hrel
        have HL : Hid (vn = l.length ∧ 3 * (l.length : Int) ≤ 21 * z + lo) := ⟨hvn, hl⟩
        by_cases hk0 : lo < 20
        · clear hvn hl
          have wl : IntKind.i64.wrap (lo + 2) = lo + 2 := by rw [IntKind.wrap_i64]; omega
          go_wp2_with fail
          refine (l1Below_any w0 a cap zs _ g 9 (by decide) D.cur).mono ?_
          rintro e u1 ⟨x1, rfl, hx1, C1, g1⟩
          have D1 := D.call C1 g1
          clear D C1 g1
          have wx : IntKind.i64.wrap (lo + 2 + x1) = lo + 2 + x1 := by rw [IntKind.wrap_i64]; omega
          go_upto_if 20 with fail
          go_cut [6] (fun hv wx => ∃ hiv : Int, hv = .int .i64 hiv ∧ lo ≤ hiv ∧ lo + 2 ≤ hiv + (if hiv = 20 then 2 else 0) ∧ hiv ≤ 20 ∧ (hiv = 20 ∨ lo + 2 ≤ hiv) ∧ wx = u1)
          case first =>
            by_cases h20 : 20 < lo + 2 + x1
            · go_wp2_with fail
              go_meet
              exact ⟨20, rfl, by omega, by simp; omega, by omega, .inl rfl, rfl⟩
            · go_wp2_with fail
              go_meet
              exact ⟨lo + 2 + x1, rfl, by omega, by split <;> omega, by omega, .inr (by omega), rfl⟩
          case rest =>
          obtain ⟨hiv, rfl, q1, _, q3, q4, rfl⟩ := hcut
          go_wp2_with fail
          refine (l1Below_any w0 a cap zs _ g 3 (by decide) D1.cur).mono ?_
          rintro e u2 ⟨p2, rfl, hp2, C', g'⟩
          have D2 := D1.call C' g'
          clear D1 C' g'
          go_wp2_with fail
          refine (l1Below_any w0 a cap zs _ g 2 (by decide) D2.cur).mono ?_
          rintro e u3 ⟨p3, rfl, hp3, C', g'⟩
          have D3 := D2.call C' g'
          clear D2 C' g'
          have wp3 : IntKind.i64.wrap (1 + p3) = 1 + p3 := by rw [IntKind.wrap_i64]; omega
          have HS : Hid (S64 ⟨1, z, lo, hiv, p2, 1 + p3, 0⟩) := by show -9223372036854775808 ≤ (0 : Int) ∧ (0 : Int) ≤ 9223372036854775807; omega
          have HE6 : Hid (DU w0 a cap zs w g (.slice va vn vc) l (u3.alloc (.cells (ruc ⟨1, z, lo, hiv, p2, 1 + p3, 0⟩) 41)) ∧ Blk (u3.alloc (.cells (ruc ⟨1, z, lo, hiv, p2, 1 + p3, 0⟩) 41)) u3.heap.size 41 (ruc ⟨1, z, lo, hiv, p2, 1 + p3, 0⟩)) := ⟨D3.alloc _, Blk.new u3 _ 41⟩
          have hl9 : l.length ≤ 1000000 := by have := HL.out; omega
          clear D3
          go_upto_region 11 with (at_builtin; refine wpList_appU rfl (.tmp 21) (.tmp 31) rfl w.heap.size (.slice va vn vc) l rfl HE6.out.1.own u3.heap.size 1 ⟨1, z, lo, hiv, p2, 1 + p3, 0⟩ rfl (cellsAt7 HE6.out.2) hl9 HE6.out.1.gr.size ?_; intro v' u7 O7 gg)
          have D7 := HE6.out.1.app HS.out O7 gg hw0
          obtain ⟨va', vc', rfl⟩ := O7.shape
          obtain ⟨vn', hvn'⟩ : ∃ vn', vn' = (l ++ [(⟨1, z, lo, hiv, p2, 1 + p3, 0⟩ : Ru)]).length := ⟨_, rfl⟩
          rw [← hvn'] at D7 ⊢
          obtain ⟨l', hl'⟩ : ∃ l', l' = l ++ [(⟨1, z, lo, hiv, p2, 1 + p3, 0⟩ : Ru)] := ⟨_, rfl⟩
          have HL7 : Hid (vn' = l'.length ∧ l'.length = l.length + 1) := ⟨by rw [hl']; exact hvn', by rw [hl']; simp⟩
          rw [← hl'] at D7
          clear hl' hvn' O7 gg HE6 HS hl9
          have wh1 : IntKind.i64.wrap (hiv + 1) = hiv + 1 := by rw [IntKind.wrap_i64]; omega
          go_wp2
          go_roundw
          case rel => (have h1 := HL.out; have h2 := HL7.out; exact ⟨hiv + 1, va', vn', vc', l', rfl, rfl, h2.1, by omega, by omega, by omega, D7⟩)
          case measure => simp [intOf]; omega
        · have hk1 : ¬ lo < 20 := hk0
          go_wp2
          go_roundw
          case rel => exact ⟨z + 1, va, vn, vc, l, by omega, by go_num, rfl, hvn, by omega, D⟩
          case measure => simp [intOf]; omega
    · have hi : ¬ (z : Int) < 4 := by omega
      have HX : Hid (vn = l.length ∧ l.length ≤ 28 ∧ DU w0 a cap zs w g (.slice va vn vc) l wr) := ⟨hvn, by omega, D⟩
      clear hvn hl D
      go_wp2
      go_ret
      exact ⟨va, vn, vc, l, rfl, HX.out⟩
end Go.Proofs.Ytegckbfbmbiogaa
namespace Go.Proofs.Ytegckbfbmbiogaa
open Go.ChangeShapes Go.WideShapes Go.ChangeAt Go.RowKit Go.Deep Go.Joins
def InIos (w : World) (a : Option Addr) (len : Nat) (zs : List Int) : Prop := zs.length = len ∧ len ≤ maxLen ∧ SlI w a zs ∧ ∀ n ∈ zs, -9223372036854775808 ≤ n ∧ n ≤ 9223372036854775807
section
variable {H : Type} {enc : TypeId × Value → H} {P : Program} {w : World} {base : Nat} {held : Bool}
def InReq (w : World) (kd pl nn wa : Int) (a b : Option Addr) (la lb : Nat) (ws : List Int) (bs : List Bool) : Prop :=
  InIos w a la ws ∧ InBos w b lb bs ∧ lb ≤ maxLen ∧ (Lit.int .i64 kd).wf = true ∧ (Lit.int .i64 pl).wf = true ∧ (Lit.int .i64 nn).wf = true ∧ (Lit.int .i64 wa).wf = true
end
end Go.Proofs.Ytegckbfbmbiogaa
namespace Go.Proofs.Ytegckbfbmbiogaa
open Go.ChangeShapes Go.WideShapes Go.ChangeAt Go.RowKit Go.Deep Go.Joins
set_option linter.unusedVariables false
section
variable {H : Type} {enc : TypeId × Value → H} {P : Program} {w : World} {base : Nat} {held : Bool}
def InRus (w : World) (a : Option Addr) (n : Nat) (f : Nat → Ru) : Prop := n ≤ maxLen ∧ SlU w a n f ∧ ∀ k, k < n → -9223372036854775808 ≤ (f k).sh ∧ (f k).sh ≤ 9223372036854775807
instance : Inhabited Ru := ⟨⟨0, 0, 0, 0, 0, 0, 0⟩⟩
end
end Go.Proofs.Ytegckbfbmbiogaa
namespace Go.Proofs.Ytegckbfbmbiogaa
open Go.RowKit
set_option linter.unusedVariables false
set_option linter.unusedSimpArgs false
def updR (r : Ru) (j : Nat) (x : Int) : Ru :=
  match j with
  | 0 => { r with u := x }
  | 1 => { r with s := x }
  | 2 => { r with lo := x }
  | 3 => { r with hi := x }
  | 4 => { r with p := x }
  | 5 => { r with t := x }
  | _ => { r with sh := x }
theorem flatMap_at7 : ∀ (l : List Ru) (k j : Nat), k < l.length → j < 7 → (l.flatMap rul)[k * 7 + j]? = (rul (l.getD k default))[j]?
  | [], k, j, hk, _ => by simp at hk
  | x :: r, 0, j, hk, hj => by
    rw [List.flatMap_cons, List.getElem?_append_left (by simp; omega)]
    simp
  | x :: r, k + 1, j, hk, hj => by
    rw [List.flatMap_cons, List.getElem?_append_right (by simp; omega)]
    have e : (k + 1) * 7 + j - (rul x).length = k * 7 + j := by simp; omega
    rw [e, flatMap_at7 r k j (by simpa using hk) hj]
    simp
theorem OwnU.sl {w : World} {base n c : Nat} {a : Option Addr} {l : List Ru} (h : OwnU w base (.slice a n c) l) : n = l.length ∧ SlU w a l.length (fun k => l.getD k default) := by
  rcases h.2 with ⟨e, h0⟩ | ⟨g, cap', cur, hv, _, hh, hle, _, hs, ht⟩
  · simp only [Value.slice.injEq] at e
    exact ⟨by rw [h0]; exact e.2.1, .inl h0⟩
  · simp only [Value.slice.injEq] at hv
    refine ⟨hv.2.1, .inr ⟨g, 0, hv.1, (Array.getElem?_eq_some_iff.1 hh).1, fun k hk j hj => ?_⟩⟩
    have hlt : k * 7 + j < l.length * 7 := by omega
    have e1 : (l.flatMap rul)[k * 7 + j]? = cur[k * 7 + j]? := by
      rw [← ht, List.getElem?_take, if_pos hlt, Array.getElem?_toList]
    have e2 : w.cell? ⟨g, 0 + k * 7 + j, none⟩ = cur[k * 7 + j]? := by simp [World.cell?, hh]
    rw [e2, ← e1]
    exact flatMap_at7 l k j hk hj
end Go.Proofs.Ytegckbfbmbiogaa
