/- Texts that the proof needs, joined: RgI Dev21 Dev22 Dev23 Dev24 Dev25 Msk Dev26 Dev27a Dev27b Dev27c Dev27d Dev27e Dev27f Dev27g Dev27h Dev28 ArgQ ArgD Dev29 Dev30 Dev31 Box StR Cpy El0 Cl1 Cl2 Mid Mid2 Tr0 Tr1 Tr2. -/
import Derived.Test.YtfdddkjonjpgpaaY7
import Derived.RegionTactic
import Derived.Deep.Upon
import Derived.Lib.AppendZeros
import Derived.Test.YtfdddkjonjpgpaaY5
import Derived.Test.YtfdddkjonjpgpaaY1
import Derived.BigRegion
import Derived.Lib.SmallJoins
import Derived.Laws.MakeOwn
import Derived.WideMake
import Derived.Carry
import Derived.Laws.CopyOwn
import Derived.Deep.RegionHeld3
import Derived.Deep.MidRow
namespace Go.Proofs.Ytfdddkjonjpgpaa
open Go.RowKit
theorem getD_eq {l : Array Bool} {i : Nat} (h : i < l.size) (x y : Bool) : l.getD i x = l.getD i y := by
  simp [Array.getD, h]
theorem count_set (l : List Bool) (i : Nat) (h : l[i]? = some false) : (l.set i true).count false + 1 = l.count false := by
  induction l generalizing i with
  | nil => simp at h
  | cons x r ih =>
    cases i with
    | zero => simp at h; subst h; simp
    | succ i => simp at h; have := ih i h; cases x <;> simp <;> omega
theorem ready_mem {md : Region.Mode} {ops : Array Oper} {l : Array Bool} {i : Nat} (h : i ∈ Region.ready md ops l) :
    i < ops.size ∧ l.getD i true = false ∧ ∀ o, ops[i]? = some o → ∀ e ∈ o.after, Region.binds md e = true → l.getD e.on false = true := by
  unfold Region.ready at h
  rw [List.mem_filter] at h
  obtain ⟨h1, h2⟩ := h
  simp only [Bool.and_eq_true, Bool.not_eq_true'] at h2
  refine ⟨List.mem_range.1 h1, h2.1, fun o ho e he hb => ?_⟩
  have h3 := h2.2
  rw [ho] at h3
  simp only [Option.map_some, Option.getD_some, Array.all_eq_true_iff_forall_mem] at h3
  have h4 := h3 e he
  simpa [hb] using h4
theorem ready_of {md : Region.Mode} {ops : Array Oper} {l : Array Bool} {i : Nat} {o : Oper} (hi : i < ops.size) (ho : ops[i]? = some o) (hl : l.getD i true = false) (hd : ∀ e ∈ o.after, Region.binds md e = true → l.getD e.on false = true) : i ∈ Region.ready md ops l := by
  unfold Region.ready
  rw [List.mem_filter]
  refine ⟨List.mem_range.2 hi, ?_⟩
  simp only [Bool.and_eq_true, Bool.not_eq_true']
  refine ⟨hl, ?_⟩
  rw [ho]
  simp only [Option.map_some, Option.getD_some, Array.all_eq_true_iff_forall_mem]
  intro e he
  cases hb : Region.binds md e
  · rfl
  · simpa using hd e he hb
def ordB (md : Region.Mode) (ops : Array Oper) : Bool := (List.range ops.size).all fun i => ((ops[i]?).map (·.after.all fun e => !Region.binds md e || decide (e.on < i))).getD true
theorem ordB_of {md : Region.Mode} {ops : Array Oper} (h : ordB md ops = true) : ∀ i o, ops[i]? = some o → ∀ e ∈ o.after, Region.binds md e = true → e.on < i := by
  intro i o ho e he hb
  unfold ordB at h
  rw [List.all_eq_true] at h
  have hi : i < ops.size := (Array.getElem?_eq_some_iff.1 ho).1
  have h1 := h i (List.mem_range.2 hi)
  rw [ho] at h1
  simp only [Option.map_some, Option.getD_some, Array.all_eq_true_iff_forall_mem] at h1
  have h2 := h1 e he
  simpa [hb] using h2
theorem wpAny_inv {P : Program} {ops : Array Oper} {Q : Exit → Act → World → Prop} {md : Region.Mode} (Inv : Array Bool → Act → World → Prop)
    (hordB : ordB md ops = true)
    (hend : ∀ l a w, Inv l a w → (∀ i, i < ops.size → l.getD i true = true) → Q .normal a w)
    (hstep : ∀ l a w i o, Inv l a w → ops[i]? = some o → l.getD i true = false → (∀ e ∈ o.after, Region.binds md e = true → l.getD e.on false = true) →
      ∀ K : Act → World → Prop, (∀ a w, Inv (l.setIfInBounds i true) a w → K a w) → if Region.wanted o (yielded ops a.tmps) = true then Oper.wp P o a w K Q else K (a.put o.dst undef) w) :
    ∀ (fuel : Nat) (l : Array Bool) (a : Act) (w : World), l.size = ops.size → l.toList.count false ≤ fuel → Inv l a w → wpAny P md ops Q fuel l a w := by
  have hord := ordB_of hordB
  have hall : ∀ l : Array Bool, l.size = ops.size → Region.ready md ops l = [] → ∀ i, i < ops.size → l.getD i true = true := by
    intro l hs hr i
    induction i using Nat.strongRecOn with
    | ind i ih =>
      intro hi
      cases hl : l.getD i true
      · obtain ⟨o, ho⟩ : ∃ o, ops[i]? = some o := ⟨ops[i], by simp [hi]⟩
        have : i ∈ Region.ready md ops l := ready_of hi ho hl (fun e he hb => by
          have h1 := hord i o ho e he hb
          rw [getD_eq (by omega) false true]
          exact ih e.on h1 (by omega))
        rw [hr] at this
        simp at this
      · rfl
  intro fuel
  induction fuel with
  | zero =>
    intro l a w hs hc hI
    have hr : Region.ready md ops l = [] := by
      apply List.eq_nil_iff_forall_not_mem.2
      intro i hi
      obtain ⟨h1, h2, _⟩ := ready_mem hi
      have h3 : l.toList[i]? = some false := by
        have h4 : i < l.size := by omega
        rw [Array.getElem?_toList]
        simp [Array.getD, h4] at h2
        simp [h4, h2]
      have := count_set l.toList i h3
      omega
    exact ⟨hr, hend l a w hI (hall l hs hr)⟩
  | succ fuel ih =>
    intro l a w hs hc hI
    refine ⟨fun hr => hend l a w hI (hall l hs hr), fun i hi => ?_⟩
    obtain ⟨h1, h2, h3⟩ := ready_mem hi
    obtain ⟨o, ho⟩ : ∃ o, ops[i]? = some o := ⟨ops[i], by simp [h1]⟩
    refine wpOp_step ho (fun K' hK' => hstep l a w i o hI ho h2 (h3 o ho) K' (fun a' w' hI' => hK' a' w' (ih _ a' w' (by simpa using hs) ?_ hI')))
    have h4 : l.toList[i]? = some false := by
      have h5 : i < l.size := by omega
      rw [Array.getElem?_toList]
      simp [Array.getD, h5] at h2
      simp [h5, h2]
    have := count_set l.toList i h4
    rw [Array.toList_setIfInBounds]
    omega
end Go.Proofs.Ytfdddkjonjpgpaa
namespace Go.Proofs.Ytfdddkjonjpgpaa
open Go.RowKit
set_option linter.unusedVariables false
set_option linter.unusedSimpArgs false
end Go.Proofs.Ytfdddkjonjpgpaa
namespace Go.Proofs.Ytfdddkjonjpgpaa
open Go.RowKit
set_option linter.unusedVariables false
set_option linter.unusedSimpArgs false
structure CI (w : World) (a1 a2 a3 a4 : Option Addr) (l1 l2 l3 l4 c1 c2 c3 c4 : Nat) (cs is : List Bool) (hs rs : List Int) (b0 b1 b2 b3 b4 b5 b6 b7 b8 b9 b10 b11 b12 b13 b14 b15 b16 b17 : Bool) (t3 t4 t5 t6 t7 t8 t9 t10 t11 t12 t13 t14 t15 t16 t17 t18 t19 : Value) (u : World) : Prop where
  f0 : b0 = true → ∃ g, t3 = .slice (some ⟨g, 0, none⟩) 0 0 ∧ w.heap.size ≤ g ∧ OwnB u w.heap.size t3 []
  f1 : b1 = true → t4 = .pointer (some ⟨w.heap.size, 0, none⟩)
  f2 : b2 = true → t5 = .slice a1 l1 c1
  f3 : b3 = true → (∃ a' c', t6 = .slice a' l1 c') ∧ OwnB u w.heap.size t6 cs
  f4 : b4 = true → ∃ g, t7 = .slice (some ⟨g, 0, none⟩) 0 0 ∧ w.heap.size ≤ g ∧ OwnB u w.heap.size t7 []
  f5 : b5 = true → t8 = .pointer (some ⟨w.heap.size, 1, none⟩)
  f6 : b6 = true → t9 = .slice a2 l2 c2
  f7 : b7 = true → (∃ a' c', t10 = .slice a' l2 c') ∧ OwnB u w.heap.size t10 is
  f8 : b8 = true → ∃ g, t11 = .slice (some ⟨g, 0, none⟩) 0 0 ∧ w.heap.size ≤ g ∧ OwnI u w.heap.size t11 []
  f9 : b9 = true → t12 = .pointer (some ⟨w.heap.size, 2, none⟩)
  f10 : b10 = true → t13 = .slice a3 l3 c3
  f11 : b11 = true → (∃ a' c', t14 = .slice a' l3 c') ∧ OwnI u w.heap.size t14 hs
  f12 : b12 = true → ∃ g, t15 = .slice (some ⟨g, 0, none⟩) 0 0 ∧ w.heap.size ≤ g ∧ OwnI u w.heap.size t15 []
  f13 : b13 = true → t16 = .pointer (some ⟨w.heap.size, 3, none⟩)
  f14 : b14 = true → t17 = .slice a4 l4 c4
  f15 : b15 = true → (∃ a' c', t18 = .slice a' l4 c') ∧ OwnI u w.heap.size t18 rs
  f16 : b16 = true → t19 = .agg #[t6, t10, t14, t18]
  g16 : b16 = true → b3 = true ∧ b7 = true ∧ b11 = true ∧ b15 = true
  g17 : b17 = true → b16 = true
  f17 : b17 = true → Blk u (w.heap.size + 1) 27 #[t6, t10, t14, t18]
  z17 : b17 = false → Blk u (w.heap.size + 1) 27 #[.slice none 0 0, .slice none 0 0, .slice none 0 0, .slice none 0 0]
  d0_4 : b0 = true → b4 = true → Df t3 t7
  d0_7 : b0 = true → b7 = true → Df t3 t10
  d3_4 : b3 = true → b4 = true → Df t6 t7
  d3_7 : b3 = true → b7 = true → Df t6 t10
  d8_12 : b8 = true → b12 = true → Df t11 t15
  d8_15 : b8 = true → b15 = true → Df t11 t18
  d11_12 : b11 = true → b12 = true → Df t14 t15
  d11_15 : b11 = true → b15 = true → Df t14 t18
  bx : Blk u w.heap.size 27 #[.slice a1 l1 c1, .slice a2 l2 c2, .slice a3 l3 c3, .slice a4 l4 c4]
  bel : Below w.heap.size w u
def CInv (w : World) (a1 a2 a3 a4 : Option Addr) (l1 l2 l3 l4 c1 c2 c3 c4 : Nat) (cs is : List Bool) (hs rs : List Int) (l : Array Bool) (act : Act) (u : World) : Prop :=
  ∃ b0 b1 b2 b3 b4 b5 b6 b7 b8 b9 b10 b11 b12 b13 b14 b15 b16 b17 : Bool, l = #[b0, b1, b2, b3, b4, b5, b6, b7, b8, b9, b10, b11, b12, b13, b14, b15, b16, b17] ∧ ∃ t3 t4 t5 t6 t7 t8 t9 t10 t11 t12 t13 t14 t15 t16 t17 t18 t19 : Value, act = { tmps := #[dv a1 a2 a3 a4 l1 l2 l3 l4 c1 c2 c3 c4, .pointer (some ⟨w.heap.size, 0, none⟩), .pointer (some ⟨w.heap.size + 1, 0, none⟩), t3, t4, t5, t6, t7, t8, t9, t10, t11, t12, t13, t14, t15, t16, t17, t18, t19], defers := [] } ∧ CI w a1 a2 a3 a4 l1 l2 l3 l4 c1 c2 c3 c4 cs is hs rs b0 b1 b2 b3 b4 b5 b6 b7 b8 b9 b10 b11 b12 b13 b14 b15 b16 b17 t3 t4 t5 t6 t7 t8 t9 t10 t11 t12 t13 t14 t15 t16 t17 t18 t19 u
end Go.Proofs.Ytfdddkjonjpgpaa
namespace Go.Proofs.Ytfdddkjonjpgpaa
open Go.RowKit
set_option linter.unusedVariables false
set_option linter.unusedSimpArgs false
end Go.Proofs.Ytfdddkjonjpgpaa
namespace Go.Proofs.Ytfdddkjonjpgpaa
open Go.RowKit
set_option linter.unusedVariables false
set_option linter.unusedSimpArgs false
end Go.Proofs.Ytfdddkjonjpgpaa
namespace Go.Proofs.Ytfdddkjonjpgpaa
open Go.RowKit
set_option linter.unusedVariables false
set_option linter.unusedSimpArgs false
theorem tB8_len (bs : List Bool) (k N : Nat) (h : k + N ≤ bs.length) : (tB8 bs k N).length = 8 * ((N + 7) / 8) := by
  unfold tB8; simp; omega
end Go.Proofs.Ytfdddkjonjpgpaa
namespace Go.Proofs.Ytfdddkjonjpgpaa
open Go.RowKit
abbrev wv (h : Int) : BitVec 64 := BitVec.ofInt 64 h
theorem wv_nat {h : Int} (h0 : 0 ≤ h) (h1 : h ≤ 65535) : ((wv h).toNat : Int) = h := by
  unfold wv
  rw [BitVec.toNat_ofInt]
  have e : h % ((2 ^ 64 : Nat) : Int) = h := Int.emod_eq_of_lt h0 (by omega)
  rw [e]; omega
theorem wrap_sm {n : Nat} (h : n < 65536) : IntKind.i64.wrap (n : Int) = (n : Int) := by rw [IntKind.wrap_i64]; omega
theorem wv_back {v : BitVec 64} : wv (v.toNat : Int) = v := by
  simp [wv, BitVec.ofInt_natCast]
theorem and_lt {a b : BitVec 64} (h : a.toNat < 65536) : (a &&& b).toNat < 65536 := by
  rw [BitVec.toNat_and]; exact Nat.lt_of_le_of_lt Nat.and_le_left h
theorem or_lt {a b : BitVec 64} (h : a.toNat < 65536) (h' : b.toNat < 65536) : (a ||| b).toNat < 65536 := by
  rw [BitVec.toNat_or]; exact Nat.or_lt_two_pow (n := 16) h h'
def mv (h x y : BitVec 64) : BitVec 64 := (h &&& x) ||| (y &&& ~~~x)
theorem wv_lt {h : Int} (h0 : 0 ≤ h) (h1 : h ≤ 65535) : (wv h).toNat < 65536 := by have := wv_nat h0 h1; omega
theorem mskI_eq {h x y : Int} (h0 : 0 ≤ h ∧ h ≤ 65535) (y0 : 0 ≤ y ∧ y ≤ 65535) : mskI h x y = ((mv (wv h) (wv x) (wv y)).toNat : Int) := by
  have a1 : bits .and .i64 h x = ((wv h &&& wv x).toNat : Int) := wrap_sm (and_lt (wv_lt h0.1 h0.2))
  have a2 : bits .andNot .i64 y x = ((wv y &&& ~~~(wv x)).toNat : Int) := wrap_sm (and_lt (wv_lt y0.1 y0.2))
  unfold mskI
  rw [a1, a2]
  have a3 : bits .or .i64 ((wv h &&& wv x).toNat : Int) ((wv y &&& ~~~(wv x)).toNat : Int) = ((wv ((wv h &&& wv x).toNat : Int) ||| wv ((wv y &&& ~~~(wv x)).toNat : Int)).toNat : Int) := by
    refine wrap_sm ?_
    show ((wv ((wv h &&& wv x).toNat : Int)) ||| wv ((wv y &&& ~~~(wv x)).toNat : Int)).toNat < 65536
    rw [wv_back, wv_back]
    exact or_lt (and_lt (wv_lt h0.1 h0.2)) (and_lt (wv_lt y0.1 y0.2))
  rw [a3, wv_back, wv_back]; rfl
theorem mv_lt {h x y : BitVec 64} (h0 : h.toNat < 65536) (y0 : y.toNat < 65536) : (mv h x y).toNat < 65536 := or_lt (and_lt h0) (and_lt y0)
theorem mskI_rg {h x y : Int} (h0 : 0 ≤ h ∧ h ≤ 65535) (y0 : 0 ≤ y ∧ y ≤ 65535) : 0 ≤ mskI h x y ∧ mskI h x y ≤ 65535 := by
  rw [mskI_eq h0 y0]
  have := mv_lt (x := wv x) (wv_lt h0.1 h0.2) (wv_lt y0.1 y0.2)
  omega
def bitI (h : Int) (k : Nat) : Int := h / ((2 ^ k : Nat) : Int) % 2
end Go.Proofs.Ytfdddkjonjpgpaa
namespace Go.Proofs.Ytfdddkjonjpgpaa
open Go.RowKit
set_option linter.unusedVariables false
set_option linter.unusedSimpArgs false
structure SS (w : World) (dc qc : Array Value) (z : World) (G6 G7 : Nat) (x1 x2 x3 x4 : Option Addr) (l1 l2 l3 l4 d1 d2 d3 d4 : Nat) (is : List Bool) (rs : List Int) (cs : List Bool) (hs : List Int) (tc : Array Value) (u : World) : Prop where
  X : Blk u w.heap.size 27 dc
  Y : Blk u (w.heap.size + 1) 57 qc
  P : Blk u (w.heap.size + 1 + 1) 27 #[.slice none 0 0, .slice none 0 0, .slice none 0 0, .slice none 0 0]
  Q : Blk u (w.heap.size + 1 + 1 + 1) 37 #[.int .i64 0, .int .i64 0, .int .i64 0, .int .i64 0, .slice none 0 0, .slice none 0 0]
  N : Blk u G6 27 #[.slice x1 l1 d1, .slice x2 l2 d2, .slice x3 l3 d3, .slice x4 l4 d4]
  T : Blk u G7 37 tc
  D : OwnD u z.heap.size x1 x2 x3 x4 l1 l2 l3 l4 d1 d2 d3 d4 cs is hs rs
  bel : Below w.heap.size w u
  belz : Below z.heap.size z u
  zb0 : z.heap.size = w.heap.size + 1 + 1 + 1 + 1
  g6 : z.heap.size ≤ G6
  g7 : G6 < G7
end Go.Proofs.Ytfdddkjonjpgpaa
namespace Go.Proofs.Ytfdddkjonjpgpaa
open Go.RowKit
set_option linter.unusedVariables false
set_option linter.unusedSimpArgs false
end Go.Proofs.Ytfdddkjonjpgpaa
namespace Go.Proofs.Ytfdddkjonjpgpaa
open Go.RowKit
set_option linter.unusedVariables false
set_option linter.unusedSimpArgs false
end Go.Proofs.Ytfdddkjonjpgpaa
namespace Go.Proofs.Ytfdddkjonjpgpaa
open Go.RowKit
set_option linter.unusedVariables false
set_option linter.unusedSimpArgs false
end Go.Proofs.Ytfdddkjonjpgpaa
namespace Go.Proofs.Ytfdddkjonjpgpaa
open Go.RowKit
set_option linter.unusedVariables false
set_option linter.unusedSimpArgs false
end Go.Proofs.Ytfdddkjonjpgpaa
namespace Go.Proofs.Ytfdddkjonjpgpaa
open Go.RowKit
set_option linter.unusedVariables false
set_option linter.unusedSimpArgs false
end Go.Proofs.Ytfdddkjonjpgpaa
namespace Go.Proofs.Ytfdddkjonjpgpaa
open Go.RowKit
set_option linter.unusedVariables false
set_option linter.unusedSimpArgs false
end Go.Proofs.Ytfdddkjonjpgpaa
namespace Go.Proofs.Ytfdddkjonjpgpaa
open Go.RowKit
set_option linter.unusedVariables false
set_option linter.unusedSimpArgs false
end Go.Proofs.Ytfdddkjonjpgpaa
namespace Go.Proofs.Ytfdddkjonjpgpaa
open Go.RowKit
set_option linter.unusedVariables false
set_option linter.unusedSimpArgs false
end Go.Proofs.Ytfdddkjonjpgpaa
namespace Go.Proofs.Ytfdddkjonjpgpaa
open Go.RowKit
set_option linter.unusedVariables false
set_option linter.unusedSimpArgs false
end Go.Proofs.Ytfdddkjonjpgpaa
namespace Go.Proofs.Ytfdddkjonjpgpaa
open Go.ChangeShapes Go.WideShapes Go.ChangeAt Go.RowKit Go.Deep Go.Joins
def InIos (w : World) (a : Option Addr) (len : Nat) (zs : List Int) : Prop := zs.length = len ∧ len ≤ maxLen ∧ SlI w a zs ∧ ∀ n ∈ zs, -9223372036854775808 ≤ n ∧ n ≤ 9223372036854775807
section
variable {H : Type} {enc : TypeId × Value → H} {P : Program} {w : World} {base : Nat} {held : Bool}
def InReq (w : World) (kd pl nn wa : Int) (a b : Option Addr) (la lb : Nat) (ws : List Int) (bs : List Bool) : Prop :=
  InIos w a la ws ∧ InBos w b lb bs ∧ lb ≤ maxLen ∧ (Lit.int .i64 kd).wf = true ∧ (Lit.int .i64 pl).wf = true ∧ (Lit.int .i64 nn).wf = true ∧ (Lit.int .i64 wa).wf = true
end
end Go.Proofs.Ytfdddkjonjpgpaa
namespace Go.Proofs.Ytfdddkjonjpgpaa
open Go.ChangeShapes Go.WideShapes Go.ChangeAt Go.RowKit Go.Deep Go.Joins
section
variable {H : Type} {enc : TypeId × Value → H} {P : Program} {w : World} {base : Nat} {held : Bool}
def InDev (w : World) (a b c d : Option Addr) (la lb lc ld : Nat) (cs is : List Bool) (hs rs : List Int) : Prop :=
  (InBos w a la cs ∧ la ≤ maxLen) ∧ (InBos w b lb is ∧ lb ≤ maxLen) ∧ InIos w c lc hs ∧ InIos w d ld rs
end
end Go.Proofs.Ytfdddkjonjpgpaa
namespace Go.Proofs.Ytfdddkjonjpgpaa
open Go.RowKit
set_option linter.unusedVariables false
set_option linter.unusedSimpArgs false
def SRv (u : World) (B : Nat) (is : List Bool) (rs : List Int) (V : SvR) (v : Value) : Prop :=
  ∃ a1 a2 a3 a4 l1 l2 l3 l4 c1 c2 c3 c4 r1 r2 m1 m2 k1 k2, v = .tuple #[dv a1 a2 a3 a4 l1 l2 l3 l4 c1 c2 c3 c4, rp V.kd V.fl V.pl V.nn r1 r2 m1 m2 k1 k2] ∧ OwnD u B a1 a2 a3 a4 l1 l2 l3 l4 c1 c2 c3 c4 V.cs is V.hs rs ∧ OwnI u B (.slice r1 m1 k1) V.ws ∧ OwnB u B (.slice r2 m2 k2) V.bs ∧
    (∀ g, Of4 (.slice a1 l1 c1) (.slice a2 l2 c2) (.slice a3 l3 c3) (.slice a4 l4 c4) g → ¬ Of2 (.slice r1 m1 k1) (.slice r2 m2 k2) g)
def SRb (u : World) (B B6 B7 : Nat) (is : List Bool) (rs : List Int) (V : SvR) : Prop :=
  ∃ a1 a2 a3 a4 l1 l2 l3 l4 c1 c2 c3 c4 r1 r2 m1 m2 k1 k2, Blk u B6 27 #[.slice a1 l1 c1, .slice a2 l2 c2, .slice a3 l3 c3, .slice a4 l4 c4] ∧ Blk u B7 37 #[.int .i64 V.kd, .int .i64 V.fl, .int .i64 V.pl, .int .i64 V.nn, .slice r1 m1 k1, .slice r2 m2 k2] ∧ OwnD u B a1 a2 a3 a4 l1 l2 l3 l4 c1 c2 c3 c4 V.cs is V.hs rs ∧ OwnI u B (.slice r1 m1 k1) V.ws ∧ OwnB u B (.slice r2 m2 k2) V.bs ∧
    (∀ g, Of4 (.slice a1 l1 c1) (.slice a2 l2 c2) (.slice a3 l3 c3) (.slice a4 l4 c4) g → ¬ Of2 (.slice r1 m1 k1) (.slice r2 m2 k2) g)
end Go.Proofs.Ytfdddkjonjpgpaa
namespace Go.Proofs.Ytfdddkjonjpgpaa
open Go.RowKit
set_option linter.unusedVariables false
set_option linter.unusedSimpArgs false
structure RI (W : World) (a1 a2 a3 a4 : Option Addr) (l1 l2 l3 l4 c1 c2 c3 c4 : Nat) (cs is : List Bool) (hs rs : List Int) (kd pl nn wa : Int) (q1 q2 : Option Addr) (m1 m2 k1 k2 : Nat) (ws : List Int) (bs : List Bool) (V : SvR) (b0 b1 b2 b3 b4 b5 b6 b7 b8 b9 b10 b11 : Bool) (tA tB tC tD tS tM tE tF tX tY : Value) (u : World) : Prop where
  bel : Below W.heap.size W u
  f0 : b0 = true → tA = .agg #[.slice a1 l1 c1, .slice a2 l2 c2, .slice a3 l3 c3, .slice a4 l4 c4]
  f1 : b1 = true → ∃ g1 g2 g3 g4, tB = .agg #[.slice (some ⟨g1, 0, none⟩) l1 l1, .slice (some ⟨g2, 0, none⟩) l2 l2, .slice (some ⟨g3, 0, none⟩) l3 l3, .slice (some ⟨g4, 0, none⟩) l4 l4] ∧ OwnD u W.heap.size (some ⟨g1, 0, none⟩) (some ⟨g2, 0, none⟩) (some ⟨g3, 0, none⟩) (some ⟨g4, 0, none⟩) l1 l2 l3 l4 l1 l2 l3 l4 cs is hs rs
  f2 : b2 = true → tC = .agg #[.int .i64 kd, .int .i64 pl, .int .i64 nn, .slice q1 m1 k1, .slice q2 m2 k2, .int .i64 wa]
  f3 : b3 = true → ∃ g5 g6, tD = .agg #[.int .i64 kd, .int .i64 pl, .int .i64 nn, .slice (some ⟨g5, 0, none⟩) m1 m1, .slice (some ⟨g6, 0, none⟩) m2 m2, .int .i64 wa] ∧ OwnI u W.heap.size (.slice (some ⟨g5, 0, none⟩) m1 m1) ws ∧ OwnB u W.heap.size (.slice (some ⟨g6, 0, none⟩) m2 m2) bs
  f4 : b4 = true → SRv u W.heap.size is rs V tS
  f5 : b5 = true → b4 = true ∧ tM = tS
  f6 : b6 = true → b5 = true ∧ ∀ x y, tM = .tuple #[x, y] → tE = x
  f7 : b7 = true → b5 = true ∧ ∀ x y, tM = .tuple #[x, y] → tF = y
  f8 : b8 = true → ∃ B6, tX = .pointer (some ⟨B6, 0, none⟩) ∧ W.heap.size ≤ B6 ∧ (b10 = false → Blk u B6 27 #[.slice none 0 0, .slice none 0 0, .slice none 0 0, .slice none 0 0]) ∧ (b10 = true → ∀ zs, tE = .agg zs → Blk u B6 27 zs)
  f9 : b9 = true → ∃ B7, tY = .pointer (some ⟨B7, 0, none⟩) ∧ W.heap.size ≤ B7 ∧ (b11 = false → Blk u B7 37 #[.int .i64 0, .int .i64 0, .int .i64 0, .int .i64 0, .slice none 0 0, .slice none 0 0]) ∧ (b11 = true → ∀ zs, tF = .agg zs → Blk u B7 37 zs)
  g10 : b10 = true → b8 = true ∧ b6 = true
  g11 : b11 = true → b9 = true ∧ b7 = true
def putS8 (a : Act) (tA tB tC tD tS tM tE tF tX tY : Value) : Act := ((((((((((a.put (some 28) tA).put (some 29) tB).put (some 30) tC).put (some 31) tD).put (some 32) tS).put (some 27) tM).put (some 33) tE).put (some 34) tF).put (some 6) tX).put (some 7) tY)
def putS35 (a : Act) (tA tB tC tD tS tM tE tF tX tY : Value) : Act := ((((((((((a.put (some 105) tA).put (some 106) tB).put (some 107) tC).put (some 108) tD).put (some 109) tS).put (some 104) tM).put (some 110) tE).put (some 111) tF).put (some 15) tX).put (some 16) tY)
def RInv8 (W : World) (a1 a2 a3 a4 : Option Addr) (l1 l2 l3 l4 c1 c2 c3 c4 : Nat) (cs is : List Bool) (hs rs : List Int) (kd pl nn wa : Int) (q1 q2 : Option Addr) (m1 m2 k1 k2 : Nat) (ws : List Int) (bs : List Bool) (V : SvR) (a0 : Act) (l : Array Bool) (act : Act) (u : World) : Prop :=
  ∃ b0 b1 b2 b3 b4 b5 b6 b7 b8 b9 b10 b11 : Bool, l = #[b0, b1, b2, b3, b4, b5, b6, b7, b8, b9, b10, b11] ∧ ∃ tA tB tC tD tS tM tE tF tX tY : Value, act = putS8 a0 tA tB tC tD tS tM tE tF tX tY ∧ RI W a1 a2 a3 a4 l1 l2 l3 l4 c1 c2 c3 c4 cs is hs rs kd pl nn wa q1 q2 m1 m2 k1 k2 ws bs V b0 b1 b2 b3 b4 b5 b6 b7 b8 b9 b10 b11 tA tB tC tD tS tM tE tF tX tY u
def RInv35 (W : World) (a1 a2 a3 a4 : Option Addr) (l1 l2 l3 l4 c1 c2 c3 c4 : Nat) (cs is : List Bool) (hs rs : List Int) (kd pl nn wa : Int) (q1 q2 : Option Addr) (m1 m2 k1 k2 : Nat) (ws : List Int) (bs : List Bool) (V : SvR) (a0 : Act) (l : Array Bool) (act : Act) (u : World) : Prop :=
  ∃ b0 b1 b2 b3 b4 b5 b6 b7 b8 b9 b10 b11 : Bool, l = #[b0, b1, b2, b3, b4, b5, b6, b7, b8, b9, b10, b11] ∧ ∃ tA tB tC tD tS tM tE tF tX tY : Value, act = putS35 a0 tA tB tC tD tS tM tE tF tX tY ∧ RI W a1 a2 a3 a4 l1 l2 l3 l4 c1 c2 c3 c4 cs is hs rs kd pl nn wa q1 q2 m1 m2 k1 k2 ws bs V b0 b1 b2 b3 b4 b5 b6 b7 b8 b9 b10 b11 tA tB tC tD tS tM tE tF tX tY u
end Go.Proofs.Ytfdddkjonjpgpaa
namespace Go.Proofs.Ytfdddkjonjpgpaa
open Go.RowKit
set_option linter.unusedVariables false
set_option linter.unusedSimpArgs false
theorem svV_len {l1 l2 l3 l4 : Nat} {cs is : List Bool} {hs rs : List Int} {kd pl nn wa : Int} {m1 m2 : Nat} {ws : List Int} {bs : List Bool} {V : SvR} (hn : LnD l1 l2 l3 l4 cs is hs rs) (h1 : m1 = ws.length) (h2 : m2 = bs.length) (hV : svV l1 l2 l3 l4 cs is hs rs kd pl nn wa m1 m2 ws bs = V) :
    V.cs.length = cs.length ∧ V.hs.length = hs.length ∧ V.ws.length ≤ ws.length + hs.length + rs.length ∧ V.bs.length ≤ bs.length + 2007 := by
  obtain ⟨e1, e2, e3, e4⟩ := hn
  cases hok : okR kd pl nn wa ws m1 m2
  · obtain rfl : V = ⟨cs, hs, 0, 0, 0, 0, [], []⟩ := by rw [← hV]; unfold svV; rw [if_pos hok]
    exact ⟨rfl, rfl, by simp, by simp⟩
  cases hd : okD l1 l2 l3 l4 hs rs
  · obtain rfl : V = ⟨cs, hs, kd, 4, 0, 0, [], []⟩ := by rw [← hV]; unfold svV; rw [hok, if_neg (by decide), if_pos hd]
    exact ⟨rfl, rfl, by simp, by simp⟩
  cases ha : svAll l1 l2 l3 l4 kd pl nn wa m1 m2
  · obtain rfl : V = ⟨cs, hs, kd, 2, 0, 0, [], []⟩ := by rw [← hV]; unfold svV; rw [hok, if_neg (by decide), hd, if_neg (by decide), if_pos ha]
    exact ⟨rfl, rfl, by simp, by simp⟩
  have hVd : svDo cs is hs rs kd pl nn wa ws bs = V := by rw [← hV]; unfold svV; rw [hok, if_neg (by decide), hd, if_neg (by decide), ha, if_neg (by decide)]
  have hle := svAll_le ha
  obtain ⟨⟨hp0, hp1⟩, hf⟩ := okR_f hok
  obtain ⟨k, rfl⟩ := Int.eq_ofNat_of_zero_le hp0
  clear hV
  rcases hf with h1 | h2 | h3 | h4 | h5 | h6 | h15 | h16 | h22 | h23
  · obtain ⟨rfl, hN1, hN2, hm1, hm2, rfl⟩ := h1
    obtain ⟨N, rfl⟩ := Int.eq_ofNat_of_zero_le (show 0 ≤ nn by omega)
    obtain rfl : V = ⟨cs, hs, 1, 0, 0, 0, [], tB8 cs k N⟩ := by rw [← hVd]; rfl
    have hle1 := hle.1
    have hle2 := hle.2
    simp [spc0, spcN] at hle1 hle2
    exact ⟨rfl, rfl, by simp, by show (tB8 cs k N).length ≤ _; rw [tB8_len cs k N (by omega)]; omega⟩
  · obtain ⟨rfl, hN1, hN2, hm1, hm2, rfl⟩ := h2
    obtain ⟨N, rfl⟩ := Int.eq_ofNat_of_zero_le (show 0 ≤ nn by omega)
    obtain rfl : V = ⟨cs, hs, 2, 0, 0, 0, [], tB8 is k N⟩ := by rw [← hVd]; rfl
    have hle1 := hle.1
    have hle2 := hle.2
    simp [spc0, spcN] at hle1 hle2
    exact ⟨rfl, rfl, by simp, by show (tB8 is k N).length ≤ _; rw [tB8_len is k N (by omega)]; omega⟩
  · obtain ⟨rfl, hN1, hN2, hm1, hm2, rfl⟩ := h3
    obtain ⟨N, rfl⟩ := Int.eq_ofNat_of_zero_le (show 0 ≤ nn by omega)
    obtain rfl : V = ⟨cs, hs, 3, 0, 0, 0, (hs.drop k).take N, []⟩ := by rw [← hVd]; rfl
    have hle1 := hle.1
    have hle2 := hle.2
    simp [spc0, spcN] at hle1 hle2
    exact ⟨rfl, rfl, by show ((hs.drop k).take N).length ≤ _; simp; omega, by simp⟩
  · obtain ⟨rfl, hN1, hN2, hm1, hm2, rfl⟩ := h4
    obtain ⟨N, rfl⟩ := Int.eq_ofNat_of_zero_le (show 0 ≤ nn by omega)
    obtain rfl : V = ⟨cs, hs, 4, 0, 0, 0, (rs.drop k).take N, []⟩ := by rw [← hVd]; rfl
    have hle1 := hle.1
    have hle2 := hle.2
    simp [spc0, spcN] at hle1 hle2
    exact ⟨rfl, rfl, by show ((rs.drop k).take N).length ≤ _; simp; omega, by simp⟩
  · obtain ⟨rfl, rfl, hm1, hm2, rfl⟩ := h5
    obtain rfl : V = ⟨cs.set k (bs.getD 0 false), hs, 5, 0, (k : Int), 0, [], bs⟩ := by rw [← hVd]; rfl
    have hle1 := hle.1
    have hle2 := hle.2
    simp [spc0, spcN] at hle1 hle2
    exact ⟨by simp, rfl, by simp, by show bs.length ≤ _; omega⟩
  · obtain ⟨rfl, rfl, hm1, hm2, rfl⟩ := h6
    obtain rfl : V = ⟨cs, hs.set k (ws.getD 0 0), 6, 0, (k : Int), 0, ws, []⟩ := by rw [← hVd]; rfl
    have hle1 := hle.1
    have hle2 := hle.2
    simp [spc0, spcN] at hle1 hle2
    exact ⟨rfl, by simp, by show ws.length ≤ _; omega, by simp⟩
  · obtain ⟨rfl, rfl, hm1, hm2, hm3, rfl⟩ := h15
    obtain rfl : V = ⟨wr cs k bs, hs, 15, 0, (k : Int), bs.length, [], []⟩ := by rw [← hVd]; rfl
    have hle1 := hle.1
    have hle2 := hle.2
    simp [spc0, spcN] at hle1 hle2
    exact ⟨wr_length cs k bs (by omega), rfl, by simp, by simp⟩
  · obtain ⟨rfl, rfl, hm2, hm1, hm3, rfl⟩ := h16
    obtain rfl : V = ⟨cs, wr hs k ws, 16, 0, (k : Int), ws.length, [], []⟩ := by rw [← hVd]; rfl
    have hle1 := hle.1
    have hle2 := hle.2
    simp [spc0, spcN] at hle1 hle2
    exact ⟨rfl, wr_length hs k ws (by omega), by simp, by simp⟩
  · obtain ⟨rfl, rfl, hm1, hm2, rfl⟩ := h22
    obtain rfl : V = ⟨cs, hs.set k (mskI (hs.getD k 0) (ws.getD 0 0) (ws.getD 1 0)), 22, 0, (k : Int), 0, ws, []⟩ := by rw [← hVd]; rfl
    have hle1 := hle.1
    have hle2 := hle.2
    simp [spc0, spcN] at hle1 hle2
    exact ⟨rfl, by simp, by show ws.length ≤ _; omega, by simp⟩
  · obtain ⟨rfl, hN1, hN2, hm2, hm1, hm3, hw1, hw2⟩ := h23
    obtain ⟨N, rfl⟩ := Int.eq_ofNat_of_zero_le (show 0 ≤ nn by omega)
    obtain ⟨j, rfl⟩ := Int.eq_ofNat_of_zero_le hw1
    obtain rfl : V = ⟨cs, wr hs j ws, 23, 0, 0, 0, ((wr hs j ws).drop k).take N, []⟩ := by rw [← hVd]; rfl
    have hle1 := hle.1
    have hle2 := hle.2
    simp [spc0, spcN] at hle1 hle2
    exact ⟨rfl, wr_length hs j ws (by omega), by show (((wr hs j ws).drop k).take N).length ≤ _; have := wr_length hs j ws (by omega); simp; omega, by simp⟩
theorem noBlk_row {u : World} {B g s n : Nat} {e t : TypeId} {v : Value} {xs : List Value} {cs : Array Value} (h : u.ownsRow B e s v n xs) (hb : Blk u g t cs) (ht : t ≠ e) : ¬ v.ownBlock = some g := by
  intro hv
  obtain ⟨_, h2⟩ := h
  rcases h2 with ⟨rfl, _⟩ | ⟨g', cap, cur, rfl, _, hh, _⟩
  · simp [Value.ownBlock] at hv
  · simp [Value.ownBlock] at hv
    subst hv
    have := hh.symm.trans hb
    simp at this
    exact ht this.2.symm
end Go.Proofs.Ytfdddkjonjpgpaa
namespace Go.Proofs.Ytfdddkjonjpgpaa
open Go.RowKit
def Box (w : World) (g : Nat) (t : TypeId) (v : Value) : Prop := w.heap[g]? = some (.cells #[v] t (0, 0))
end Go.Proofs.Ytfdddkjonjpgpaa
namespace Go.Proofs.Ytfdddkjonjpgpaa
open Go.RowKit Go.Joins
set_option linter.unusedVariables false
theorem idx_inj {s i k j l : Nat} (hj : j < s) (hl : l < s) (h : i * s + j = k * s + l) : i = k ∧ j = l := by
  have e1 : (i * s + j) / s = i := by rw [Nat.mul_comm, Nat.mul_add_div (by omega), Nat.div_eq_of_lt hj, Nat.add_zero]
  have e2 : (k * s + l) / s = k := by rw [Nat.mul_comm, Nat.mul_add_div (by omega), Nat.div_eq_of_lt hl, Nat.add_zero]
  have : i = k := by rw [← e1, h, e2]
  subst this
  exact ⟨rfl, by omega⟩
def CsAt (w : World) (g o : Nat) (vs : List Value) : Prop := ∀ j, j < vs.length → w.cell? ⟨g, o + j, none⟩ = vs[j]?
def RowS (w : World) (g : Nat) (t : TypeId) (s n : Nat) (F : Nat → List Value) : Prop :=
  ∃ cs, w.heap[g]? = some (.cells cs t (0, 0)) ∧ cs.size = n * s ∧ ∀ k, k < n → ∀ j, j < s → cs[k * s + j]? = (F k)[j]?
def setL (w : World) (g : Nat) : Nat → List Value → World
  | _, [] => w
  | o, v :: vs => setL (w.setCell ⟨g, o, none⟩ v) g (o + 1) vs
theorem setL_block {g : Nat} {t : TypeId} {fr : Nat × Nat} : ∀ (vs : List Value) (w : World) (o : Nat) (cs : Array Value), w.heap[g]? = some (.cells cs t fr) →
    ∃ cs', (setL w g o vs).heap[g]? = some (.cells cs' t fr) ∧ cs'.size = cs.size ∧ ∀ i, i < cs.size → cs'[i]? = if o ≤ i ∧ i < o + vs.length then vs[i - o]? else cs[i]?
  | [], w, o, cs, h => ⟨cs, h, rfl, fun i _ => by rw [if_neg (by simp)]⟩
  | v :: vs, w, o, cs, h => by
    obtain ⟨cs', h1, h2, h3⟩ := setL_block vs (w.setCell ⟨g, o, none⟩ v) (o + 1) (cs.setIfInBounds o v) (block_setCell h v)
    refine ⟨cs', h1, by simpa using h2, fun i hi => ?_⟩
    rw [h3 i (by simpa using hi)]
    by_cases e : i = o
    · subst e
      rw [if_neg (by omega), if_pos (by simp)]
      simp [hi]
    · by_cases e2 : o ≤ i ∧ i < o + (v :: vs).length
      · rw [if_pos (by simp at e2; omega), if_pos e2]
        obtain ⟨d, rfl⟩ : ∃ d, i = o + 1 + d := ⟨i - (o + 1), by omega⟩
        rw [show o + 1 + d - (o + 1) = d by omega, show o + 1 + d - o = d + 1 by omega]
        simp
      · rw [if_neg (by simp at e2; omega), if_neg e2, Array.getElem?_setIfInBounds_ne (by omega)]
theorem setL_below {B g : Nat} {w0 : World} (hg : B ≤ g) : ∀ (vs : List Value) (w : World) (o : Nat), Below B w0 w → Below B w0 (setL w g o vs)
  | [], _, _, h => h
  | v :: vs, w, o, h => setL_below hg vs (w.setCell ⟨g, o, none⟩ v) (o + 1) (h.setCell hg v)
theorem RowS.lt {w : World} {g : Nat} {t : TypeId} {s n : Nat} {F : Nat → List Value} (h : RowS w g t s n F) : g < w.heap.size := by
  obtain ⟨cs, h, _⟩ := h
  exact (Array.getElem?_eq_some_iff.1 h).1
theorem RowS.cell {w : World} {g : Nat} {t : TypeId} {s n : Nat} {F : Nat → List Value} (h : RowS w g t s n F) {k j : Nat} (hk : k < n) (hj : j < s) : w.cell? ⟨g, k * s + j, none⟩ = (F k)[j]? := by
  obtain ⟨cs, h1, _, h3⟩ := h
  rw [cell_of_block h1]
  exact h3 k hk j hj
theorem RowS.fro {w : World} {g : Nat} {t : TypeId} {s n : Nat} {F : Nat → List Value} (h : RowS w g t s n F) (o : Nat) : w.frozen? ⟨g, o, none⟩ = false := by
  obtain ⟨cs, h1, _⟩ := h
  exact unfrozen_of_block h1 o
theorem RowS.set {w : World} {g : Nat} {t : TypeId} {s n : Nat} {F : Nat → List Value} (h : RowS w g t s n F) {k : Nat} (hk : k < n) (vs : List Value) (hv : vs.length = s) : RowS (setL w g (k * s) vs) g t s n (fun i => if i = k then vs else F i) := by
  obtain ⟨cs, h1, h2, h3⟩ := h
  obtain ⟨cs', g1, g2, g3⟩ := setL_block vs w (k * s) cs h1
  refine ⟨cs', g1, by omega, fun i hi j hj => ?_⟩
  have hin : i * s + j < cs.size := by
    rw [h2]
    have : (i + 1) * s ≤ n * s := Nat.mul_le_mul_right s hi
    rw [Nat.add_mul, Nat.one_mul] at this
    omega
  rw [g3 _ hin]
  by_cases e : i = k
  · subst e
    rw [if_pos (by omega), Nat.add_sub_cancel_left]
    simp
  · rw [if_neg]
    · rw [h3 i hi j hj]
      simp [e]
    · intro ⟨e1, e2⟩
      obtain ⟨d, hd⟩ : ∃ d, i * s + j = k * s + d := ⟨i * s + j - k * s, by omega⟩
      exact e (idx_inj hj (by omega) hd).1
theorem run_make_st {P : Program} (t e : TypeId) (z : Value) (s bytes : Nat) (ht : P.underlying t = some (.slice e)) (hinfo : (P.info? e).map (fun i => (i.zero, i.size, i.bytes)) = some (some z, s, bytes))
    (kl kc : IntKind) (n : Nat) (hbytes : bytes * n ≤ 281474976710656) (h63 : n ≤ 9223372036854775807) (w : World) :
    (Instr.makeSlice t (.int kl (n : Int)) (.int kc (n : Int))).run P w = .ok (.slice (some ⟨w.heap.size, 0, none⟩) n n) (w.alloc (.cells (madeCells z.cells (n * s)) e)) := by
  obtain ⟨i, hi, hzz⟩ := Option.map_eq_some_iff.1 hinfo
  simp only [Prod.mk.injEq] at hzz
  obtain ⟨hz, hs, hb⟩ := hzz
  have hb' : (i.bytes : Int) * (n : Int) ≤ 281474976710656 := by
    have h : ((i.bytes * n : Nat) : Int) ≤ 281474976710656 := by rw [hb]; omega
    rwa [Int.natCast_mul] at h
  have hr := run_make (P := P) w t e i z ht hi hz kl kc n n (by omega) (Int.le_refl _) hb' (by omega)
  simp only [Int.toNat_natCast, hs] at hr
  exact hr
theorem RowS.made (w : World) (zs : List Value) (n : Nat) (t : TypeId) (h0 : 0 < zs.length) : RowS (w.alloc (.cells (madeCells zs.toArray (n * zs.length)) t)) w.heap.size t zs.length n (fun _ => zs) := by
  refine ⟨madeCells zs.toArray (n * zs.length), (by show (w.heap.push _)[w.heap.size]? = _; simp), size_madeCells _ _, fun k hk j hj => ?_⟩
  have hin : k * zs.length + j < n * zs.length := by
    have : (k + 1) * zs.length ≤ n * zs.length := Nat.mul_le_mul_right _ hk
    rw [Nat.add_mul, Nat.one_mul] at this
    omega
  have hm : (k * zs.length + j) % zs.length = j := by rw [Nat.add_comm, Nat.add_mul_mod_self_right, Nat.mod_eq_of_lt hj]
  simp [madeCells, hin, hm, hj]
def SlS (w : World) (a : Option Addr) (s n : Nat) (F : Nat → List Value) : Prop :=
  n = 0 ∨ ∃ b off, a = some ⟨b, off, none⟩ ∧ b < w.heap.size ∧ ∀ k, k < n → ∀ j, j < s → w.cell? ⟨b, off + k * s + j, none⟩ = (F k)[j]?
end Go.Proofs.Ytfdddkjonjpgpaa
namespace Go.Proofs.Ytfdddkjonjpgpaa
open Go.RowKit
set_option linter.unusedVariables false
set_option linter.unusedSimpArgs false
end Go.Proofs.Ytfdddkjonjpgpaa
namespace Go.Proofs.Ytfdddkjonjpgpaa
open Go.RowKit Go.Joins
set_option linter.unusedVariables false
set_option linter.unusedSimpArgs false
structure El where
  pre : List Value
  ws : List Int
  bs : List Bool
  post : List Value
instance : Inhabited El := ⟨⟨[], [], [], []⟩⟩
abbrev els (E : El) (a1 a2 : Option Addr) (c1 c2 : Nat) : List Value := E.pre ++ (.slice a1 E.ws.length c1 :: .slice a2 E.bs.length c2 :: E.post)
theorem bel_nx {w0 w w' : World} (h : Below w0.heap.size w0 w) (h' : Below w.heap.size w w') : Below w0.heap.size w0 w' := h.trans (h'.mono h.size)
theorem setL_gw {g : Nat} : ∀ (vs : List Value) (w : World) (o : Nat), w.grownBy (setL w g o vs) (some g)
  | [], w, o => World.grownBy.refl w _
  | v :: vs, w, o => by
    have h1 := grown_setj w g o v
    have h2 := setL_gw (g := g) vs (w.setCell ⟨g, o, none⟩ v) (o + 1)
    exact ⟨h2.os.trans h1.os, h2.tape.trans h1.tape, h2.output.trans h1.output, Nat.le_trans h1.size h2.size, fun k hk hne => by rw [show setL w g o (v :: vs) = setL (w.setCell ⟨g, o, none⟩ v) g (o + 1) vs from rfl, h2.block k (Nat.lt_of_lt_of_le hk h1.size) hne, h1.block k hk hne]⟩
theorem row_ex {w : World} {base s n g : Nat} {e : TypeId} {v : Value} {xs : List Value} (h : w.ownsRow base e s v n xs) (hv : v.ownBlock = some g) : ExB w g e := by
  rcases h.2 with ⟨rfl, _⟩ | ⟨g', cap, cur, rfl, _, hh, _⟩
  · simp [Value.ownBlock] at hv
  · simp [Value.ownBlock] at hv
    subst hv
    exact ⟨cur, hh⟩
theorem ne_typesE {w : World} {b1 b2 s1 s2 n1 n2 : Nat} {e1 e2 : TypeId} {v1 v2 : Value} {x1 x2 : List Value} (h1 : w.ownsRow b1 e1 s1 v1 n1 x1) (h2 : w.ownsRow b2 e2 s2 v2 n2 x2) (he : e1 ≠ e2) : v1.ownBlock = none ∨ v1.ownBlock ≠ v2.ownBlock := by
  cases e : v1.ownBlock with
  | none => exact .inl rfl
  | some g =>
    obtain ⟨cs, hb⟩ := row_ex h1 e
    exact .inr (fun e2' => row_noBlk h2 hb he e2'.symm)
def RowO (w : World) (g : Nat) (t : TypeId) (s o n : Nat) (F : Nat → List Value) : Prop :=
  ∃ cs, w.heap[g]? = some (.cells cs t (0, 0)) ∧ o + n * s ≤ cs.size ∧ ∀ k, k < n → ∀ j, j < s → cs[o + k * s + j]? = (F k)[j]?
section
variable {w w' : World} {g : Nat} {t : TypeId} {s o n : Nat} {F G : Nat → List Value}
end
def OwnO (w : World) (base : Nat) (t : TypeId) (s : Nat) (v : Value) (n : Nat) (F : Nat → List Value) : Prop :=
  (n = 0 ∧ ∃ a c, v = .slice a 0 c) ∨ ∃ g o c, v = .slice (some ⟨g, o, none⟩) n c ∧ base ≤ g ∧ RowO w g t s o n F
section
variable {w w' : World} {base : Nat} {t : TypeId} {s : Nat} {v : Value} {n : Nat} {F : Nat → List Value}
end
def ElAt (w : World) (lo hi : Nat) (vs : List Value) (E : El) : Prop :=
  ∃ a1 a2 c1 c2, vs = els E a1 a2 c1 c2 ∧ OwnI w lo (.slice a1 E.ws.length c1) E.ws ∧ OwnB w lo (.slice a2 E.bs.length c2) E.bs ∧
    (∀ k, (Value.slice a1 E.ws.length c1).ownBlock = some k → k < hi) ∧ (∀ k, (Value.slice a2 E.bs.length c2).ownBlock = some k → k < hi)
section
variable {w w' : World} {lo hi : Nat} {vs : List Value} {E : El}
end
def InE (w : World) (base : Nat) (β : Nat → Nat) (F : Nat → List Value) (G : Nat → El) (z : Nat) : Prop :=
  base ≤ β 0 ∧ (∀ k, β k ≤ β (k + 1)) ∧ ∀ k, k < z → ElAt w (β k) (β (k + 1)) (F k) (G k)
section
variable {w w' : World} {base gx z : Nat} {β : Nat → Nat} {F F' : Nat → List Value} {G H : Nat → El}
end
def OwnL (w : World) (base : Nat) (t : TypeId) (s : Nat) (v : Value) (n : Nat) (G : Nat → El) : Prop :=
  ∃ (F : Nat → List Value) (β : Nat → Nat), OwnO w base t s v n F ∧ InE w base β F G n
def TopL (w : World) (base hi : Nat) (t : TypeId) (s : Nat) (v : Value) (n : Nat) (G : Nat → El) : Prop :=
  ∃ (F : Nat → List Value) (β : Nat → Nat), OwnO w base t s v n F ∧ InE w base β F G n ∧ β n ≤ hi ∧ ∀ g o m c, v = .slice (some ⟨g, o, none⟩) m c → 0 < n → g < hi
def SlL (w : World) (a : Option Addr) (s n : Nat) (G : Nat → El) : Prop :=
  ∃ F : Nat → List Value, SlS w a s n F ∧ ∀ k, k < n → ∃ a1 a2 c1 c2, F k = els (G k) a1 a2 c1 c2 ∧ SlI w a1 (G k).ws ∧ SlB w a2 (G k).bs
section
variable {w w' : World} {base : Nat} {t : TypeId} {s n : Nat} {v : Value} {G H : Nat → El} {a : Option Addr}
end
end Go.Proofs.Ytfdddkjonjpgpaa
namespace Go.Proofs.Ytfdddkjonjpgpaa
open Go.RowKit Go.Joins
set_option linter.unusedVariables false
set_option linter.unusedSimpArgs false
structure Ca where
  id : Int
  pa : Int
  un : Int
  kd : Int
  pl : Int
  n : Int
  wa : Int
  ws : List Int
  bs : List Bool
def caE (C : Ca) : El := ⟨[.int .i64 C.id, .int .i64 C.pa, .int .i64 C.un, .int .i64 C.kd, .int .i64 C.pl, .int .i64 C.n], C.ws, C.bs, [.int .i64 C.wa]⟩
abbrev cac (C : Ca) (a1 a2 : Option Addr) (l1 l2 c1 c2 : Nat) : Array Value := #[.int .i64 C.id, .int .i64 C.pa, .int .i64 C.un, .int .i64 C.kd, .int .i64 C.pl, .int .i64 C.n, .slice a1 l1 c1, .slice a2 l2 c2, .int .i64 C.wa]
def ca0 : Ca := ⟨0, 0, 0, 0, 0, 0, 0, [], []⟩
abbrev SlC (w : World) (a : Option Addr) (n : Nat) (f : Nat → Ca) : Prop := SlL w a 9 n (fun k => caE (f k))
def tl (f : Nat → Ca) : Nat → Nat
  | 0 => 0
  | k + 1 => tl f k + ((f k).ws.length + (f k).bs.length)
def lfC (left l1 l2 : Nat) : Int := if l1 + l2 ≤ left then (left : Int) - (l1 : Int) - (l2 : Int) else -1
def lfS (left n : Nat) (f : Nat → Ca) : Int := if n + tl f n ≤ left then (left : Int) - (n : Int) - (tl f n : Int) else -1
def BdC (n : Nat) (f : Nat → Ca) : Prop := n ≤ 2000000 ∧ ∀ k, k < n → (f k).ws.length ≤ 2000000 ∧ (f k).bs.length ≤ 2000000
end Go.Proofs.Ytfdddkjonjpgpaa
namespace Go.Proofs.Ytfdddkjonjpgpaa
open Go.RowKit Go.Joins
set_option linter.unusedVariables false
set_option linter.unusedSimpArgs false
def wrA (cs : Array Value) : Nat → List Value → Array Value
  | _, [] => cs
  | o, v :: vs => wrA (cs.setIfInBounds o v) (o + 1) vs
theorem RowS.ex {w : World} {g : Nat} {t : TypeId} {s n : Nat} {F : Nat → List Value} (h : RowS w g t s n F) {k j : Nat} (hk : k < n) (hj : j < s) : ∃ v, w.cell? ⟨g, k * s + j, none⟩ = some v := by
  obtain ⟨cs, h1, h2, h3⟩ := h
  have hin : k * s + j < cs.size := by
    have : (k + 1) * s ≤ n * s := Nat.mul_le_mul_right s hk
    rw [Nat.add_mul, Nat.one_mul] at this
    omega
  exact ⟨cs[k * s + j], by rw [cell_of_block h1]; simp⟩
abbrev calL (C : Ca) (a1 a2 : Option Addr) (l1 l2 c1 c2 : Nat) : List Value := [.int .i64 C.id, .int .i64 C.pa, .int .i64 C.un, .int .i64 C.kd, .int .i64 C.pl, .int .i64 C.n, .slice a1 l1 c1, .slice a2 l2 c2, .int .i64 C.wa]
abbrev ca0c : Array Value := #[.int .i64 0, .int .i64 0, .int .i64 0, .int .i64 0, .int .i64 0, .int .i64 0, .slice none 0 0, .slice none 0 0, .int .i64 0]
def MadeL (w : World) (B : Nat) (t : TypeId) (s n : Nat) (G : Nat → El) : Prop := ∃ F β, RowS w B t s n F ∧ InE w B β F G n ∧ β n ≤ w.heap.size
end Go.Proofs.Ytfdddkjonjpgpaa
namespace Go.Proofs.Ytfdddkjonjpgpaa
open Go.RowKit Go.Joins
set_option linter.unusedVariables false
theorem setCells_L (g : Nat) : ∀ (vs : List Value) (w : World) (o : Nat), w.setCells g o vs = setL w g o vs
  | [], _, _ => rfl
  | v :: vs, w, o => by
    rw [World.setCells, setCells_L g vs]
    rfl
theorem Blk.there {w : World} {g : Nat} {t : TypeId} {cs : Array Value} (h : Blk w g t cs) (o n : Nat) (hn : o + n ≤ cs.size) : w.there g o n := fun j hj => by
  refine ⟨?_, h.fro _⟩
  rw [h.cell (o + j) (Array.getElem?_eq_getElem (show o + j < cs.size by omega))]
  rfl
end Go.Proofs.Ytfdddkjonjpgpaa
namespace Go.Proofs.Ytfdddkjonjpgpaa
open Go.RowKit Go.Joins
set_option linter.unusedVariables false
set_option linter.unusedSimpArgs false
end Go.Proofs.Ytfdddkjonjpgpaa
namespace Go.Proofs.Ytfdddkjonjpgpaa
open Go.RowKit Go.Joins
set_option linter.unusedVariables false
set_option linter.unusedSimpArgs false
inductive Tr where
  | leaf (v : Value)
  | list (s n : Nat) (f : Nat → Nat → Tr)
def Rd (w : World) (lo : Nat) : Tr → Value → Prop
  | .leaf u, v => v = u
  | .list s n f, v => ∃ a c, v = .slice a n c ∧ n ≤ c ∧ n ≤ maxLen ∧ (n = 0 ∨ ∃ (g off : Nat) (F : Nat → List Value), a = some ⟨g, off, none⟩ ∧ lo ≤ g ∧ g < w.heap.size ∧
      ∀ k, k < n → (F k).length = s ∧ ∀ j v, (F k)[j]? = some v → w.cell? ⟨g, off + k * s + j, none⟩ = some v ∧ Rd w lo (f k j) v)
def RdL (w : World) (lo : Nat) (ts : Nat → Tr) (vs : List Value) : Prop := ∀ j v, vs[j]? = some v → Rd w lo (ts j) v
theorem Rd.below {w w' : World} {lo : Nat} (hb : Below w.heap.size w w') : ∀ {t : Tr} {v : Value}, Rd w lo t v → Rd w' lo t v := by
  intro t
  induction t with
  | leaf u => intro v h; exact h
  | list s n f ih =>
    intro v h
    obtain ⟨a, c, h1, h2, h3, h4⟩ := h
    refine ⟨a, c, h1, h2, h3, ?_⟩
    rcases h4 with h4 | ⟨g, off, F, ha, hlo, hg, hc⟩
    · exact .inl h4
    · refine .inr ⟨g, off, F, ha, hlo, Nat.lt_of_lt_of_le hg hb.size, fun k hk => ⟨(hc k hk).1, fun j v hj => ?_⟩⟩
      obtain ⟨q1, q2⟩ := (hc k hk).2 j v hj
      exact ⟨(hb.cell (p := ⟨g, off + k * s + j, none⟩) hg).trans q1, ih k j q2⟩
theorem Rd.mono {w : World} {lo lo' : Nat} (hl : lo' ≤ lo) : ∀ {t : Tr} {v : Value}, Rd w lo t v → Rd w lo' t v := by
  intro t
  induction t with
  | leaf u => intro v h; exact h
  | list s n f ih =>
    intro v h
    obtain ⟨a, c, h1, h2, h3, h4⟩ := h
    refine ⟨a, c, h1, h2, h3, ?_⟩
    rcases h4 with h4 | ⟨g, off, F, ha, hlo, hg, hc⟩
    · exact .inl h4
    · refine .inr ⟨g, off, F, ha, Nat.le_trans hl hlo, hg, fun k hk => ⟨(hc k hk).1, fun j v hj => ?_⟩⟩
      obtain ⟨q1, q2⟩ := (hc k hk).2 j v hj
      exact ⟨q1, ih k j q2⟩
theorem Rd.shape {w : World} {lo s n : Nat} {f : Nat → Nat → Tr} {v : Value} (h : Rd w lo (.list s n f) v) : ∃ a c, v = .slice a n c ∧ n ≤ c ∧ n ≤ maxLen := by
  obtain ⟨a, c, h1, h2, h3, _⟩ := h
  exact ⟨a, c, h1, h2, h3⟩
theorem Rd.at {w : World} {lo s n m c k : Nat} {a : Option Addr} {f : Nat → Nat → Tr} (h : Rd w lo (.list s n f) (.slice a m c)) (hk : k < n) :
    ∃ g off vs, a = some ⟨g, off, none⟩ ∧ lo ≤ g ∧ g < w.heap.size ∧ vs.length = s ∧ w.rangeAt g (off + k * s) vs ∧ RdL w lo (f k) vs := by
  obtain ⟨a', c', h1, h2, h3, h4⟩ := h
  simp only [Value.slice.injEq] at h1
  rcases h4 with h4 | ⟨g, off, F, ha, hlo, hgs, hc⟩
  · omega
  · exact ⟨g, off, F k, by rw [h1.1, ha], hlo, hgs, (hc k hk).1, fun j v hj => ((hc k hk).2 j v hj).1, fun j v hj => ((hc k hk).2 j v hj).2⟩
theorem Rd.made {w : World} {lo g s n : Nat} {t : TypeId} {F : Nat → List Value} {f : Nat → Nat → Tr} (h : RowS w g t s n F) (hlo : lo ≤ g) (hn : n ≤ maxLen) (hF : ∀ k, k < n → (F k).length = s ∧ RdL w lo (f k) (F k)) :
    Rd w lo (.list s n f) (.slice (some ⟨g, 0, none⟩) n n) := by
  refine ⟨_, _, rfl, Nat.le_refl _, hn, .inr ⟨g, 0, F, rfl, hlo, h.lt, fun k hk => ⟨(hF k hk).1, fun j v hj => ⟨?_, (hF k hk).2 j v hj⟩⟩⟩⟩
  have hl : j < s := by rw [← (hF k hk).1]; exact (List.getElem?_eq_some_iff.1 hj).1
  rw [Nat.zero_add, h.cell hk hl, hj]
/- How great a tree is, as the laws measure it. -/
def sumN : Nat → (Nat → Nat) → Nat
  | 0, _ => 0
  | n + 1, g => sumN n g + g n
def Tr.sz : Tr → Nat
  | .leaf _ => 0
  | .list s n f => n + sumN n (fun k => sumN s (fun j => (f k j).sz))
def szT (s : Nat) (ts : Nat → Tr) : Nat := sumN s (fun j => (ts j).sz)
theorem Tr.sz_list (s n : Nat) (f : Nat → Nat → Tr) : (Tr.list s n f).sz = n + sumN n (fun k => szT s (f k)) := rfl
def lfT (left t : Nat) : Int := if t ≤ left then (left : Int) - (t : Int) else -1
/- Rows of numbers and of bits, as trees. -/
def intsT (ws : List Int) : Tr := .list 1 ws.length (fun k _ => .leaf (.int .i64 (ws.getD k 0)))
def boolsT (bs : List Bool) : Tr := .list 1 bs.length (fun k _ => .leaf (.bool (bs.getD k false)))
theorem Rd.ints {w : World} {lo : Nat} {ws : List Int} {v : Value} (h : Rd w lo (intsT ws) v) : ∃ a c, v = .slice a ws.length c ∧ ws.length ≤ c ∧ ws.length ≤ maxLen ∧ SlI w a ws := by
  obtain ⟨a, c, h1, h2, h3, h4⟩ := h
  refine ⟨a, c, h1, h2, h3, ?_⟩
  rcases h4 with h4 | ⟨g, off, F, ha, hlo, hgs, hc⟩
  · exact .inl (List.eq_nil_of_length_eq_zero h4)
  · refine .inr ⟨g, off, ha, hgs, fun i hi => ?_⟩
    obtain ⟨q1, q2⟩ := hc i hi
    obtain ⟨v, hv⟩ : ∃ v, (F i)[0]? = some v := ⟨(F i)[0]'(by omega), by simp⟩
    obtain ⟨q3, q4⟩ := q2 0 v hv
    rw [Nat.mul_one, Nat.add_zero] at q3
    rw [q3]
    exact congrArg some q4
theorem Rd.bools {w : World} {lo : Nat} {bs : List Bool} {v : Value} (h : Rd w lo (boolsT bs) v) : ∃ a c, v = .slice a bs.length c ∧ bs.length ≤ c ∧ bs.length ≤ maxLen ∧ SlB w a bs := by
  obtain ⟨a, c, h1, h2, h3, h4⟩ := h
  refine ⟨a, c, h1, h2, h3, ?_⟩
  rcases h4 with h4 | ⟨g, off, F, ha, hlo, hgs, hc⟩
  · exact .inl (List.eq_nil_of_length_eq_zero h4)
  · refine .inr ⟨g, off, ha, hgs, fun i hi => ?_⟩
    obtain ⟨q1, q2⟩ := hc i hi
    obtain ⟨v, hv⟩ : ∃ v, (F i)[0]? = some v := ⟨(F i)[0]'(by omega), by simp⟩
    obtain ⟨q3, q4⟩ := q2 0 v hv
    rw [Nat.mul_one, Nat.add_zero] at q3
    rw [q3]
    exact congrArg some q4
theorem rd_ints {w : World} {lo n c : Nat} {a : Option Addr} {ws : List Int} (hn : n = ws.length) (hc : n ≤ c) (hm : n ≤ maxLen) (h : SlI w a ws) (hlo : ∀ g, (Value.slice a n c).ownBlock = some g → lo ≤ g) : Rd w lo (intsT ws) (.slice a n c) := by
  subst hn
  refine ⟨a, c, rfl, hc, hm, ?_⟩
  rcases h with h | ⟨b, off, ha, hb, h⟩
  · exact .inl (by rw [h]; rfl)
  · subst ha
    refine .inr ⟨b, off, fun k => [.int .i64 (ws.getD k 0)], rfl, hlo b rfl, hb, fun k hk => ⟨rfl, fun j v hj => ?_⟩⟩
    match j, hj with
    | 0, hj =>
      simp only [List.getElem?_cons_zero, Option.some.injEq] at hj
      subst hj
      exact ⟨by rw [Nat.mul_one, Nat.add_zero]; exact h k hk, rfl⟩
    | j + 1, hj => simp at hj
theorem rd_bools {w : World} {lo n c : Nat} {a : Option Addr} {bs : List Bool} (hn : n = bs.length) (hc : n ≤ c) (hm : n ≤ maxLen) (h : SlB w a bs) (hlo : ∀ g, (Value.slice a n c).ownBlock = some g → lo ≤ g) : Rd w lo (boolsT bs) (.slice a n c) := by
  subst hn
  refine ⟨a, c, rfl, hc, hm, ?_⟩
  rcases h with h | ⟨b, off, ha, hb, h⟩
  · exact .inl (by rw [h]; rfl)
  · subst ha
    refine .inr ⟨b, off, fun k => [.bool (bs.getD k false)], rfl, hlo b rfl, hb, fun k hk => ⟨rfl, fun j v hj => ?_⟩⟩
    match j, hj with
    | 0, hj =>
      simp only [List.getElem?_cons_zero, Option.some.injEq] at hj
      subst hj
      exact ⟨by rw [Nat.mul_one, Nat.add_zero]; exact h k hk, rfl⟩
    | j + 1, hj => simp at hj
theorem OwnI.rd {w : World} {lo n c : Nat} {a : Option Addr} {ws : List Int} (h : OwnI w lo (.slice a n c) ws) (hc : n ≤ c) (hm : n ≤ maxLen) : Rd w lo (intsT ws) (.slice a n c) :=
  rd_ints h.sl.1 hc hm h.sl.2 (fun g hg => (World.ownsRow.lt h g hg).1)
theorem OwnB.rd {w : World} {lo n c : Nat} {a : Option Addr} {bs : List Bool} (h : OwnB w lo (.slice a n c) bs) (hc : n ≤ c) (hm : n ≤ maxLen) : Rd w lo (boolsT bs) (.slice a n c) :=
  rd_bools h.sl.1 hc hm h.sl.2 (fun g hg => (World.ownsRow.lt h g hg).1)
def trs (l : List Tr) : Nat → Tr := fun j => l.getD j (.leaf undef)
theorem RdL.get {w : World} {lo j : Nat} {l : List Tr} {vs : List Value} {t : Tr} {v : Value} (h : RdL w lo (trs l) vs) (hv : vs[j]? = some v) (ht : l[j]? = some t) : Rd w lo t v := by
  have := h j v hv
  unfold trs at this
  rw [List.getD_eq_getElem?_getD, ht] at this
  exact this
theorem RdL.mk {w : World} {lo : Nat} {l : List Tr} {vs : List Value} (h : ∀ (j : Nat) v t, vs[j]? = some v → l[j]? = some t → Rd w lo t v) (hl : vs.length ≤ l.length) : RdL w lo (trs l) vs := fun j v hv => by
  have hj : j < vs.length := (List.getElem?_eq_some_iff.1 hv).1
  obtain ⟨t, ht⟩ : ∃ t, l[j]? = some t := ⟨l[j]'(by omega), by simp⟩
  unfold trs
  rw [List.getD_eq_getElem?_getD, ht]
  exact h j v t hv ht
end Go.Proofs.Ytfdddkjonjpgpaa
namespace Go.Proofs.Ytfdddkjonjpgpaa
open Go.RowKit Go.Joins
set_option linter.unusedVariables false
set_option linter.unusedSimpArgs false
theorem Tr.sz_leaf (v : Value) : (Tr.leaf v).sz = 0 := rfl
structure VQ where
  kd : Int
  pl : Int
  n : Int
  ws : List Int
  bs : List Bool
  wa : Int
instance : Inhabited VQ := ⟨⟨0, 0, 0, [], [], 0⟩⟩
def qT (X : VQ) : List Tr := [.leaf (.int .i64 X.kd), .leaf (.int .i64 X.pl), .leaf (.int .i64 X.n), intsT X.ws, boolsT X.bs, .leaf (.int .i64 X.wa)]
abbrev qL (X : VQ) (a1 : Option Addr) (l1 c1 : Nat) (a2 : Option Addr) (l2 c2 : Nat) : List Value := [.int .i64 X.kd, .int .i64 X.pl, .int .i64 X.n, .slice a1 l1 c1, .slice a2 l2 c2, .int .i64 X.wa]
theorem VQ.cells {w : World} {lo : Nat} {X : VQ} {vs : List Value} (h : RdL w lo (trs (qT X)) vs) (hl : vs.length = 6) : ∃ a1 c1 a2 c2, vs = qL X a1 (X.ws.length) c1 a2 (X.bs.length) c2 ∧ Rd w lo (intsT X.ws) (.slice a1 (X.ws.length) c1) ∧ Rd w lo (boolsT X.bs) (.slice a2 (X.bs.length) c2) := by
  match vs, hl with
  | [v0, v1, v2, v3, v4, v5], _ =>
    have e0 : v0 = .int .i64 X.kd := RdL.get h (j := 0) rfl rfl
    have e1 : v1 = .int .i64 X.pl := RdL.get h (j := 1) rfl rfl
    have e2 : v2 = .int .i64 X.n := RdL.get h (j := 2) rfl rfl
    have r1 : Rd w lo (intsT X.ws) v3 := RdL.get h (j := 3) rfl rfl
    obtain ⟨a1, c1, e3, _⟩ := r1.shape
    have r2 : Rd w lo (boolsT X.bs) v4 := RdL.get h (j := 4) rfl rfl
    obtain ⟨a2, c2, e4, _⟩ := r2.shape
    have e5 : v5 = .int .i64 X.wa := RdL.get h (j := 5) rfl rfl
    subst e0 e1 e2 e3 e4 e5
    exact ⟨a1, c1, a2, c2, rfl, r1, r2⟩
theorem VQ.back {w : World} {lo : Nat} {X : VQ} {a1 : Option Addr} {l1 c1 : Nat} {a2 : Option Addr} {l2 c2 : Nat} (r1 : Rd w lo (intsT X.ws) (.slice a1 l1 c1)) (r2 : Rd w lo (boolsT X.bs) (.slice a2 l2 c2)) : RdL w lo (trs (qT X)) (qL X a1 l1 c1 a2 l2 c2) := by
  refine RdL.mk (fun j v t hv ht => ?_) (by simp [qT])
  match j, hv, ht with
  | 0, hv, ht =>
    obtain rfl := Option.some.inj (show some _ = some v from hv)
    obtain rfl := Option.some.inj (show some _ = some t from ht)
    exact rfl
  | 1, hv, ht =>
    obtain rfl := Option.some.inj (show some _ = some v from hv)
    obtain rfl := Option.some.inj (show some _ = some t from ht)
    exact rfl
  | 2, hv, ht =>
    obtain rfl := Option.some.inj (show some _ = some v from hv)
    obtain rfl := Option.some.inj (show some _ = some t from ht)
    exact rfl
  | 3, hv, ht =>
    obtain rfl := Option.some.inj (show some _ = some v from hv)
    obtain rfl := Option.some.inj (show some _ = some t from ht)
    exact r1
  | 4, hv, ht =>
    obtain rfl := Option.some.inj (show some _ = some v from hv)
    obtain rfl := Option.some.inj (show some _ = some t from ht)
    exact r2
  | 5, hv, ht =>
    obtain rfl := Option.some.inj (show some _ = some v from hv)
    obtain rfl := Option.some.inj (show some _ = some t from ht)
    exact rfl
  | j + 6, hv, ht => simp at hv
structure VA where
  kd : Int
  fl : Int
  pl : Int
  n : Int
  ws : List Int
  bs : List Bool
instance : Inhabited VA := ⟨⟨0, 0, 0, 0, [], []⟩⟩
def aT (X : VA) : List Tr := [.leaf (.int .i64 X.kd), .leaf (.int .i64 X.fl), .leaf (.int .i64 X.pl), .leaf (.int .i64 X.n), intsT X.ws, boolsT X.bs]
abbrev aL (X : VA) (a1 : Option Addr) (l1 c1 : Nat) (a2 : Option Addr) (l2 c2 : Nat) : List Value := [.int .i64 X.kd, .int .i64 X.fl, .int .i64 X.pl, .int .i64 X.n, .slice a1 l1 c1, .slice a2 l2 c2]
theorem VA.cells {w : World} {lo : Nat} {X : VA} {vs : List Value} (h : RdL w lo (trs (aT X)) vs) (hl : vs.length = 6) : ∃ a1 c1 a2 c2, vs = aL X a1 (X.ws.length) c1 a2 (X.bs.length) c2 ∧ Rd w lo (intsT X.ws) (.slice a1 (X.ws.length) c1) ∧ Rd w lo (boolsT X.bs) (.slice a2 (X.bs.length) c2) := by
  match vs, hl with
  | [v0, v1, v2, v3, v4, v5], _ =>
    have e0 : v0 = .int .i64 X.kd := RdL.get h (j := 0) rfl rfl
    have e1 : v1 = .int .i64 X.fl := RdL.get h (j := 1) rfl rfl
    have e2 : v2 = .int .i64 X.pl := RdL.get h (j := 2) rfl rfl
    have e3 : v3 = .int .i64 X.n := RdL.get h (j := 3) rfl rfl
    have r1 : Rd w lo (intsT X.ws) v4 := RdL.get h (j := 4) rfl rfl
    obtain ⟨a1, c1, e4, _⟩ := r1.shape
    have r2 : Rd w lo (boolsT X.bs) v5 := RdL.get h (j := 5) rfl rfl
    obtain ⟨a2, c2, e5, _⟩ := r2.shape
    subst e0 e1 e2 e3 e4 e5
    exact ⟨a1, c1, a2, c2, rfl, r1, r2⟩
theorem VA.back {w : World} {lo : Nat} {X : VA} {a1 : Option Addr} {l1 c1 : Nat} {a2 : Option Addr} {l2 c2 : Nat} (r1 : Rd w lo (intsT X.ws) (.slice a1 l1 c1)) (r2 : Rd w lo (boolsT X.bs) (.slice a2 l2 c2)) : RdL w lo (trs (aT X)) (aL X a1 l1 c1 a2 l2 c2) := by
  refine RdL.mk (fun j v t hv ht => ?_) (by simp [aT])
  match j, hv, ht with
  | 0, hv, ht =>
    obtain rfl := Option.some.inj (show some _ = some v from hv)
    obtain rfl := Option.some.inj (show some _ = some t from ht)
    exact rfl
  | 1, hv, ht =>
    obtain rfl := Option.some.inj (show some _ = some v from hv)
    obtain rfl := Option.some.inj (show some _ = some t from ht)
    exact rfl
  | 2, hv, ht =>
    obtain rfl := Option.some.inj (show some _ = some v from hv)
    obtain rfl := Option.some.inj (show some _ = some t from ht)
    exact rfl
  | 3, hv, ht =>
    obtain rfl := Option.some.inj (show some _ = some v from hv)
    obtain rfl := Option.some.inj (show some _ = some t from ht)
    exact rfl
  | 4, hv, ht =>
    obtain rfl := Option.some.inj (show some _ = some v from hv)
    obtain rfl := Option.some.inj (show some _ = some t from ht)
    exact r1
  | 5, hv, ht =>
    obtain rfl := Option.some.inj (show some _ = some v from hv)
    obtain rfl := Option.some.inj (show some _ = some t from ht)
    exact r2
  | j + 6, hv, ht => simp at hv
structure VP where
  p : Int
  t : Int
  q : VQ
instance : Inhabited VP := ⟨⟨0, 0, default⟩⟩
def pT (X : VP) : List Tr := [.leaf (.int .i64 X.p), .leaf (.int .i64 X.t), .leaf (.int .i64 X.q.kd), .leaf (.int .i64 X.q.pl), .leaf (.int .i64 X.q.n), intsT X.q.ws, boolsT X.q.bs, .leaf (.int .i64 X.q.wa)]
abbrev pL (X : VP) (a1 : Option Addr) (l1 c1 : Nat) (a2 : Option Addr) (l2 c2 : Nat) : List Value := [.int .i64 X.p, .int .i64 X.t, .int .i64 X.q.kd, .int .i64 X.q.pl, .int .i64 X.q.n, .slice a1 l1 c1, .slice a2 l2 c2, .int .i64 X.q.wa]
structure VD where
  id : Int
  so : Int
  ta : Int
  un : Int
  q : VQ
  np : Nat
  pt : Nat → VP
  hs : List Bool
  nt : Nat
  tl : Nat → VA
instance : Inhabited VD := ⟨⟨0, 0, 0, 0, default, 0, fun _ => default, [], 0, fun _ => default⟩⟩
def dT (X : VD) : List Tr := [.leaf (.int .i64 X.id), .leaf (.int .i64 X.so), .leaf (.int .i64 X.ta), .leaf (.int .i64 X.un), .leaf (.int .i64 X.q.kd), .leaf (.int .i64 X.q.pl), .leaf (.int .i64 X.q.n), intsT X.q.ws, boolsT X.q.bs, .leaf (.int .i64 X.q.wa), .list 8 X.np (fun i => trs (pT (X.pt i))), boolsT X.hs, .list 6 X.nt (fun i => trs (aT (X.tl i)))]
abbrev dL (X : VD) (a1 : Option Addr) (l1 c1 : Nat) (a2 : Option Addr) (l2 c2 : Nat) (a3 : Option Addr) (l3 c3 : Nat) (a4 : Option Addr) (l4 c4 : Nat) (a5 : Option Addr) (l5 c5 : Nat) : List Value := [.int .i64 X.id, .int .i64 X.so, .int .i64 X.ta, .int .i64 X.un, .int .i64 X.q.kd, .int .i64 X.q.pl, .int .i64 X.q.n, .slice a1 l1 c1, .slice a2 l2 c2, .int .i64 X.q.wa, .slice a3 l3 c3, .slice a4 l4 c4, .slice a5 l5 c5]
structure VT where
  nx : Int
  m : Nat
  f : Nat → VD
instance : Inhabited VT := ⟨⟨0, 0, fun _ => default⟩⟩
def tT (X : VT) : List Tr := [.leaf (.int .i64 X.nx), .list 13 X.m (fun i => trs (dT (X.f i)))]
abbrev tL (X : VT) (a1 : Option Addr) (l1 c1 : Nat) : List Value := [.int .i64 X.nx, .slice a1 l1 c1]
end Go.Proofs.Ytfdddkjonjpgpaa
namespace Go.Proofs.Ytfdddkjonjpgpaa
open Go.RowKit Go.Joins
set_option linter.unusedVariables false
set_option linter.unusedSimpArgs false
end Go.Proofs.Ytfdddkjonjpgpaa
