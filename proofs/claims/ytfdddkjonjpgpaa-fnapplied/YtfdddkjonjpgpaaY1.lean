/- Texts that the proof needs, joined: Bys0 ArgS Bys Marks Ios Bos Req1 Wr1 Dev1 Q1 Q4 Bits Pack1 S1 Dev2 Dev3a Resp1. -/
import Derived.Test.YtfdddkjonjpgpaaChecked
import Derived.WalkKit
import Derived.Deep.OwnRows
import Derived.Deep.QuietTactic
import Derived.BigQuiet
import Derived.ProofKit
import Derived.OpenShut
import Derived.Deep.Grids
import Derived.Lib.SmallJoins
import Derived.Deep.Cut
import Derived.Deep.CutRange
import Derived.Deep.DeepCutAuto
namespace Go.Proofs.Ytfdddkjonjpgpaa
open Go.RowKit
def Sl (w : World) (a : Option Addr) (zs : List Int) : Prop :=
  zs = [] ∨ ∃ b off, a = some ⟨b, off, none⟩ ∧ b < w.heap.size ∧ ∀ i, i < zs.length → w.cell? ⟨b, off + i, none⟩ = some (.int .u8 (zs.getD i 0))
theorem Sl.below {w w' : World} {a : Option Addr} {zs : List Int} (h : Sl w a zs) (hb : Below w.heap.size w w') : Sl w' a zs := by
  rcases h with h | ⟨b, off, ha, hlt, hc⟩
  · exact .inl h
  · exact .inr ⟨b, off, ha, by have := hb.size; omega, fun i hi => by rw [hb.cell (p := ⟨b, off + i, none⟩) hlt]; exact hc i hi⟩
theorem cell_at {w : World} {a : Option Addr} {zs : List Int} (hs : Sl w a zs) {k : Nat} (hlt : k < zs.length) : ∃ b off, a = some ⟨b, off, none⟩ ∧ b < w.heap.size ∧ w.cell? ⟨b, off + k, none⟩ = some (.int .u8 (zs.getD k 0)) := by
  rcases hs with hs | ⟨b, off, h1, h2, h3⟩
  · rw [hs] at hlt; simp at hlt
  · exact ⟨b, off, h1, h2, h3 k hlt⟩
theorem bel_drewN {B : Nat} {a w : World} (h : Below B a w) (n : Nat) : Below B a (w.drewN n) := h.trans ⟨rfl, rfl, rfl, Nat.le_refl _, fun _ _ => rfl⟩
theorem get_range {zs : List Int} (hr : ∀ z ∈ zs, 0 ≤ z ∧ z ≤ 255) (i : Nat) : 0 ≤ zs.getD i 0 ∧ zs.getD i 0 ≤ 255 := by
  rw [List.getD_eq_getElem?_getD]
  by_cases h : i < zs.length
  · rw [List.getElem?_eq_getElem h]; exact hr _ (List.getElem_mem h)
  · rw [List.getElem?_eq_none (by omega)]; decide
def Own (w : World) (base : Nat) (v : Value) (zs : List Int) : Prop := w.ownsRow base 5 1 v zs.length (zs.map (Value.int .u8))
theorem grown_below {w w' : World} (hb : Below w.heap.size w w') (row : Option Nat) : w.grownBy w' row := ⟨hb.os, hb.tape, hb.output, hb.size, fun k hk _ => hb.block k hk⟩
end Go.Proofs.Ytfdddkjonjpgpaa
namespace Go.Proofs.Ytfdddkjonjpgpaa
open Go.ChangeShapes Go.WideShapes Go.ChangeAt Go.RowKit Go.Deep Go.Joins
def InBys (w : World) (a : Option Addr) (len : Nat) (zs : List Int) : Prop := zs.length = len ∧ len ≤ maxLen ∧ Sl w a zs ∧ ∀ n ∈ zs, 0 ≤ n ∧ n ≤ 255
def SlB (w : World) (a : Option Addr) (zs : List Bool) : Prop :=
  zs = [] ∨ ∃ b off, a = some ⟨b, off, none⟩ ∧ b < w.heap.size ∧ ∀ i, i < zs.length → w.cell? ⟨b, off + i, none⟩ = some (.bool (zs.getD i false))
def InBos (w : World) (a : Option Addr) (len : Nat) (zs : List Bool) : Prop := zs.length = len ∧ SlB w a zs
theorem inBys_of {w : World} {x : Addr} {len cap : Nat} {z : List Int} (hl : len ≤ cap) (hm : cap ≤ maxLen) (hz : z.length = cap) (hcell : ∀ i, i < z.length → w.cell? (x.add i) = some (.int .u8 (z.getD i 0)))
    (hwz : ∀ n ∈ z, (Lit.int .u8 n).wf = true) : ∃ zs : List Int, InBys w (some x) len zs := by
  refine ⟨z.take len, by simp; omega, by omega, ?_, fun n hn => bounds_u8 (hwz n (List.mem_of_mem_take hn))⟩
  by_cases h0 : len = 0
  · subst h0; exact .inl (by simp)
  · obtain ⟨b, off, spot⟩ := x
    have hc := hcell 0 (by omega)
    have hspot : spot = none := by simpa [Addr.add] using World.cell?_spot hc
    subst hspot
    refine .inr ⟨b, off, rfl, World.block_lt_of_cell? _ _ hc, fun i hi => ?_⟩
    simp only [List.length_take] at hi
    have := hcell i (by omega)
    rw [List.getD_eq_getElem?_getD, List.getElem?_take, if_pos (by omega), ← List.getD_eq_getElem?_getD]
    by_cases e : i = 0
    · subst e; simpa [Addr.add] using this
    · simpa [Addr.add, e] using this
section
variable {H : Type} {enc : TypeId × Value → H} {P : Program} {w : World} {base : Nat} {held : Bool}
theorem opened_bys {t e : TypeId} {fuel : Nat} {a : Option Addr} {len cap : Nat} {x : DataW H × List MemPlace} (ht : P.underlying t = some (.slice e)) (he : P.underlying e = some (.int .u8)) (hc : P.cellsOf e = 1)
    (hf : DataW.trod enc P w base (fun _ => true) held fuel t [.slice a len cap] = some x) : ∃ zs : List Int, InBys w a len zs := by
  rcases open_ints ht he hc hf with ⟨hcs, _⟩ | ⟨x, l, c, zs, hcs, _, hl, hm, hz, _, hcell, hwz⟩
  · simp at hcs
    obtain ⟨rfl, rfl, rfl⟩ := hcs
    exact ⟨[], rfl, Nat.zero_le _, .inl rfl, fun n hn => by cases hn⟩
  · simp at hcs
    obtain ⟨rfl, rfl, rfl⟩ := hcs
    exact inBys_of hl hm (by simpa using hz) hcell hwz
end
end Go.Proofs.Ytfdddkjonjpgpaa
namespace Go.Proofs.Ytfdddkjonjpgpaa
open Go.RowKit
end Go.Proofs.Ytfdddkjonjpgpaa
namespace Go.Proofs.Ytfdddkjonjpgpaa
open Go.RowKit
def marks (n : Nat) : List Int := (List.range n).map (fun i : Nat => ((i : Int) + 1) % 256)
def Marked (w wr : World) (g cap k : Nat) : Prop :=
  w.grownBy wr (some g) ∧ ∃ cur, wr.heap[g]? = some (.cells cur 5 (0, 0)) ∧ cur.size = cap ∧ ∀ i, i < k → cur[i]? = some (.int .u8 (((i : Int) + 1) % 256))
theorem drew_refl (w : World) (n : Nat) : Below w.heap.size w (w.drewN n) := bel_drewN (Below.refl _ _) n
end Go.Proofs.Ytfdddkjonjpgpaa
namespace Go.Proofs.Ytfdddkjonjpgpaa
open Go.RowKit
def SlI (w : World) (a : Option Addr) (zs : List Int) : Prop :=
  zs = [] ∨ ∃ b off, a = some ⟨b, off, none⟩ ∧ b < w.heap.size ∧ ∀ i, i < zs.length → w.cell? ⟨b, off + i, none⟩ = some (.int .i64 (zs.getD i 0))
theorem SlI.below {w w' : World} {a : Option Addr} {zs : List Int} (h : SlI w a zs) (hb : Below w.heap.size w w') : SlI w' a zs := by
  rcases h with h | ⟨b, off, ha, hlt, hc⟩
  · exact .inl h
  · exact .inr ⟨b, off, ha, by have := hb.size; omega, fun i hi => by rw [hb.cell (p := ⟨b, off + i, none⟩) hlt]; exact hc i hi⟩
theorem cell_atI {w : World} {a : Option Addr} {zs : List Int} (hs : SlI w a zs) {k : Nat} (hlt : k < zs.length) : ∃ b off, a = some ⟨b, off, none⟩ ∧ b < w.heap.size ∧ w.cell? ⟨b, off + k, none⟩ = some (.int .i64 (zs.getD k 0)) := by
  rcases hs with hs | ⟨b, off, h1, h2, h3⟩
  · rw [hs] at hlt; simp at hlt
  · exact ⟨b, off, h1, h2, h3 k hlt⟩
def OwnI (w : World) (base : Nat) (v : Value) (zs : List Int) : Prop := w.ownsRow base 3 1 v zs.length (zs.map (Value.int .i64))
theorem OwnI.sl {w : World} {base n cap : Nat} {a : Option Addr} {zs : List Int} (h : OwnI w base (.slice a n cap) zs) : n = zs.length ∧ SlI w a zs := by
  obtain ⟨_, h2⟩ := h
  rcases h2 with ⟨h2, h3⟩ | ⟨g, cap', cur, hv, _, hh, hle, _, hs, ht⟩
  · have e : zs = [] := List.eq_nil_of_length_eq_zero h3
    simp only [Value.slice.injEq] at h2
    exact ⟨by rw [h3]; exact h2.2.1, .inl e⟩
  · simp only [Value.slice.injEq] at hv
    refine ⟨hv.2.1, .inr ⟨g, 0, hv.1, (Array.getElem?_eq_some_iff.1 hh).1, fun i hi => ?_⟩⟩
    have e1 : cur.toList[i]? = some (.int .i64 (zs.getD i 0)) := by
      have e2 : (cur.toList.take (zs.length * 1))[i]? = (zs.map (Value.int .i64))[i]? := by rw [ht]
      rw [List.getElem?_take, if_pos (by omega)] at e2
      rw [e2]
      simp [hi]
    simp only [World.cell?, hh, Nat.zero_add]
    rw [Array.getElem?_toList] at e1
    exact e1
theorem OwnI.kept {w w' : World} {base : Nat} {v : Value} {row : Option Nat} {zs : List Int} (h : OwnI w base v zs) (hg : w.grownBy w' row) (hne : v.ownBlock = none ∨ v.ownBlock ≠ row) : OwnI w' base v zs := World.ownsRow.kept h hg hne
theorem OwnI.below {w w' : World} {base : Nat} {v : Value} {zs : List Int} (h : OwnI w base v zs) (hb : Below w.heap.size w w') : OwnI w' base v zs := by
  refine h.kept (grown_below hb (some w.heap.size)) ?_
  cases e : v.ownBlock with
  | none => exact .inl rfl
  | some k => exact .inr (fun e2 => by have := (World.ownsRow.lt h k e).2; simp at e2; omega)
theorem OwnI.ofRow {w : World} {base b n : Nat} {zs : List Int} (h : w.rowIs b 3 n (fun i => .int .i64 (zs.getD i 0))) (hn : n = zs.length) (hb : base ≤ b) (hm : n ≤ maxLen) : OwnI w base (.slice (some ⟨b, 0, none⟩) n n) zs := by
  subst hn
  obtain ⟨c, hc, hsz, hcell⟩ := h
  refine ⟨by simp, .inr ⟨b, zs.length, c, rfl, hb, hc, Nat.le_refl _, hm, by simpa using hsz, ?_⟩⟩
  apply List.ext_getElem?
  intro i
  by_cases hi : i < zs.length
  · rw [List.getElem?_take, if_pos (by omega), Array.getElem?_toList, hcell i hi]
    simp [hi]
  · rw [List.getElem?_eq_none (by simp; omega), List.getElem?_eq_none (by simp; omega)]
theorem Try.infoI3 : (Try.prog.info? 3).map (fun i => (i.zero, i.size, i.bytes)) = some (some (.int .i64 0), 1, 8) := by kernel_rfl
set_option maxHeartbeats 1000000 in
theorem sameInts_true (a a' : Option Addr) (n n' cap cap' : Nat) (zs : List Int) (w : World) (hn : n = zs.length) (hn' : n' = zs.length) (hs : SlI w a zs) (hs' : SlI w a' zs) (hl : zs.length ≤ 2000000) :
    Calls Try.prog 32 #[.slice a n cap, .slice a' n' cap'] w fun e w' => e = .returned (.bool true) ∧ ∃ n, w' = w.drewN n := by
  subst hn hn'
  go_enter Try.func32, Try.ntmps32
  go_wp2
  go_loopw [5] (fun i wr => ∃ k : Nat, k ≤ zs.length ∧ i = .int .i64 k ∧ ∃ n, wr = w.drewN n) (fun i _ => zs.length - (intOf i).toNat)
  case atStart => exact ⟨0, Nat.zero_le _, rfl, 0, rfl⟩
  case round =>
    obtain ⟨k, hk, rfl, n, rfl⟩ := hrel
    by_cases hlt : k < zs.length
    · obtain ⟨b, off, rfl, _, hc⟩ := cell_atI hs hlt
      obtain ⟨b', off', rfl, _, hc'⟩ := cell_atI hs' hlt
      have hi : (k : Int) < (zs.length : Int) := by omega
      clear hs hs'
      go_wp2
      go_quiet (fail)
      go_wp2
      go_roundw
      case rel => exact ⟨k + 1, by omega, by go_num, _, rfl⟩
      case measure => simp [intOf]; omega
    · clear hs hs'
      go_wp2
      go_ret
      exact ⟨rfl, _, rfl⟩
theorem OwnI.cells {w : World} {base n cap : Nat} {a : Option Addr} {zs : List Int} (h : OwnI w base (.slice a n cap) zs) (hn : 0 < n) :
    ∃ g cur, a = some ⟨g, 0, none⟩ ∧ base ≤ g ∧ g < w.heap.size ∧ w.heap[g]? = some (.cells cur 3 (0, 0)) ∧ n ≤ cap ∧ cap ≤ maxLen ∧ cur.size = cap := by
  obtain ⟨_, h2⟩ := h
  rcases h2 with ⟨h2, h3⟩ | ⟨g, cap', cur, hv, hb, hh, hle, hm, hs, _⟩
  · simp only [Value.slice.injEq] at h2; omega
  · simp only [Value.slice.injEq] at hv
    obtain ⟨rfl, h4, rfl⟩ := hv
    exact ⟨g, cur, rfl, hb, (Array.getElem?_eq_some_iff.1 hh).1, hh, by omega, hm, by simpa using hs⟩
def marksI (s n : Nat) : List Int := (List.range n).map (fun i : Nat => (s : Int) + (i : Int))
def MarkedI (s : Nat) (w wr : World) (g cap k : Nat) : Prop :=
  w.grownBy wr (some g) ∧ ∃ cur, wr.heap[g]? = some (.cells cur 3 (0, 0)) ∧ cur.size = cap ∧ ∀ i, i < k → cur[i]? = some (.int .i64 ((s : Int) + (i : Int)))
end Go.Proofs.Ytfdddkjonjpgpaa
namespace Go.Proofs.Ytfdddkjonjpgpaa
open Go.RowKit
theorem SlB.below {w w' : World} {a : Option Addr} {zs : List Bool} (h : SlB w a zs) (hb : Below w.heap.size w w') : SlB w' a zs := by
  rcases h with h | ⟨b, off, ha, hlt, hc⟩
  · exact .inl h
  · exact .inr ⟨b, off, ha, by have := hb.size; omega, fun i hi => by rw [hb.cell (p := ⟨b, off + i, none⟩) hlt]; exact hc i hi⟩
theorem cell_atB {w : World} {a : Option Addr} {zs : List Bool} (hs : SlB w a zs) {k : Nat} (hlt : k < zs.length) : ∃ b off, a = some ⟨b, off, none⟩ ∧ b < w.heap.size ∧ w.cell? ⟨b, off + k, none⟩ = some (.bool (zs.getD k false)) := by
  rcases hs with hs | ⟨b, off, h1, h2, h3⟩
  · rw [hs] at hlt; simp at hlt
  · exact ⟨b, off, h1, h2, h3 k hlt⟩
def OwnB (w : World) (base : Nat) (v : Value) (zs : List Bool) : Prop := w.ownsRow base 4 1 v zs.length (zs.map (Value.bool))
theorem OwnB.sl {w : World} {base n cap : Nat} {a : Option Addr} {zs : List Bool} (h : OwnB w base (.slice a n cap) zs) : n = zs.length ∧ SlB w a zs := by
  obtain ⟨_, h2⟩ := h
  rcases h2 with ⟨h2, h3⟩ | ⟨g, cap', cur, hv, _, hh, hle, _, hs, ht⟩
  · have e : zs = [] := List.eq_nil_of_length_eq_zero h3
    simp only [Value.slice.injEq] at h2
    exact ⟨by rw [h3]; exact h2.2.1, .inl e⟩
  · simp only [Value.slice.injEq] at hv
    refine ⟨hv.2.1, .inr ⟨g, 0, hv.1, (Array.getElem?_eq_some_iff.1 hh).1, fun i hi => ?_⟩⟩
    have e1 : cur.toList[i]? = some (.bool (zs.getD i false)) := by
      have e2 : (cur.toList.take (zs.length * 1))[i]? = (zs.map (Value.bool))[i]? := by rw [ht]
      rw [List.getElem?_take, if_pos (by omega)] at e2
      rw [e2]
      simp [hi]
    simp only [World.cell?, hh, Nat.zero_add]
    rw [Array.getElem?_toList] at e1
    exact e1
theorem OwnB.kept {w w' : World} {base : Nat} {v : Value} {row : Option Nat} {zs : List Bool} (h : OwnB w base v zs) (hg : w.grownBy w' row) (hne : v.ownBlock = none ∨ v.ownBlock ≠ row) : OwnB w' base v zs := World.ownsRow.kept h hg hne
theorem OwnB.below {w w' : World} {base : Nat} {v : Value} {zs : List Bool} (h : OwnB w base v zs) (hb : Below w.heap.size w w') : OwnB w' base v zs := by
  refine h.kept (grown_below hb (some w.heap.size)) ?_
  cases e : v.ownBlock with
  | none => exact .inl rfl
  | some k => exact .inr (fun e2 => by have := (World.ownsRow.lt h k e).2; simp at e2; omega)
theorem OwnB.ofRow {w : World} {base b n : Nat} {zs : List Bool} (h : w.rowIs b 4 n (fun i => .bool (zs.getD i false))) (hn : n = zs.length) (hb : base ≤ b) (hm : n ≤ maxLen) : OwnB w base (.slice (some ⟨b, 0, none⟩) n n) zs := by
  subst hn
  obtain ⟨c, hc, hsz, hcell⟩ := h
  refine ⟨by simp, .inr ⟨b, zs.length, c, rfl, hb, hc, Nat.le_refl _, hm, by simpa using hsz, ?_⟩⟩
  apply List.ext_getElem?
  intro i
  by_cases hi : i < zs.length
  · rw [List.getElem?_take, if_pos (by omega), Array.getElem?_toList, hcell i hi]
    simp [hi]
  · rw [List.getElem?_eq_none (by simp; omega), List.getElem?_eq_none (by simp; omega)]
theorem Try.info4 : (Try.prog.info? 4).map (fun i => (i.zero, i.size, i.bytes)) = some (some (.bool false), 1, 1) := by kernel_rfl
set_option maxHeartbeats 1000000 in
theorem sameBits_true (a a' : Option Addr) (n n' cap cap' : Nat) (zs : List Bool) (w : World) (hn : n = zs.length) (hn' : n' = zs.length) (hs : SlB w a zs) (hs' : SlB w a' zs) (hl : zs.length ≤ 20000000) :
    Calls Try.prog 33 #[.slice a n cap, .slice a' n' cap'] w fun e w' => e = .returned (.bool true) ∧ ∃ n, w' = w.drewN n := by
  subst hn hn'
  go_enter Try.func33, Try.ntmps33
  go_wp2
  go_loopw [5] (fun i wr => ∃ k : Nat, k ≤ zs.length ∧ i = .int .i64 k ∧ ∃ n, wr = w.drewN n) (fun i _ => zs.length - (intOf i).toNat)
  case atStart => exact ⟨0, Nat.zero_le _, rfl, 0, rfl⟩
  case round =>
    obtain ⟨k, hk, rfl, n, rfl⟩ := hrel
    by_cases hlt : k < zs.length
    · obtain ⟨b, off, rfl, _, hc⟩ := cell_atB hs hlt
      obtain ⟨b', off', rfl, _, hc'⟩ := cell_atB hs' hlt
      have hi : (k : Int) < (zs.length : Int) := by omega
      clear hs hs'
      go_wp2
      go_quiet (fail)
      go_wp2
      go_roundw
      case rel => exact ⟨k + 1, by omega, by go_num, _, rfl⟩
      case measure => simp [intOf]; omega
    · clear hs hs'
      go_wp2
      go_ret
      exact ⟨rfl, _, rfl⟩
theorem OwnB.cells {w : World} {base n cap : Nat} {a : Option Addr} {zs : List Bool} (h : OwnB w base (.slice a n cap) zs) (hn : 0 < n) :
    ∃ g cur, a = some ⟨g, 0, none⟩ ∧ base ≤ g ∧ g < w.heap.size ∧ w.heap[g]? = some (.cells cur 4 (0, 0)) ∧ n ≤ cap ∧ cap ≤ maxLen ∧ cur.size = cap := by
  obtain ⟨_, h2⟩ := h
  rcases h2 with ⟨h2, h3⟩ | ⟨g, cap', cur, hv, hb, hh, hle, hm, hs, _⟩
  · simp only [Value.slice.injEq] at h2; omega
  · simp only [Value.slice.injEq] at hv
    obtain ⟨rfl, h4, rfl⟩ := hv
    exact ⟨g, cur, rfl, hb, (Array.getElem?_eq_some_iff.1 hh).1, hh, by omega, hm, by simpa using hs⟩
def marksB (s n : Nat) : List Bool := (List.range n).map (fun i : Nat => ((s : Int) + (i : Int)) % 3 == 0)
def MarkedB (s : Nat) (w wr : World) (g cap k : Nat) : Prop :=
  w.grownBy wr (some g) ∧ ∃ cur, wr.heap[g]? = some (.cells cur 4 (0, 0)) ∧ cur.size = cap ∧ ∀ i, i < k → cur[i]? = some (.bool (((s : Int) + (i : Int)) % 3 == 0))
end Go.Proofs.Ytfdddkjonjpgpaa
namespace Go.Proofs.Ytfdddkjonjpgpaa
open Go.RowKit
theorem bel_next {w0 w w' : World} (h : Below w0.heap.size w0 w) (h' : Below w.heap.size w w') : Below w0.heap.size w0 w' := h.trans (h'.mono h.size)
theorem bel_alloc (w : World) (o : Obj) : Below w.heap.size w (w.alloc o) := (Below.refl _ w).alloc (Nat.le_refl _) o
def Blk (w : World) (g : Nat) (t : TypeId) (cs : Array Value) : Prop := w.heap[g]? = some (.cells cs t (0, 0))
theorem Blk.cell {w : World} {g : Nat} {t : TypeId} {cs : Array Value} (h : Blk w g t cs) (j : Nat) {v : Value} (hj : cs[j]? = some v) : w.cell? ⟨g, j, none⟩ = some v := by
  unfold Blk at h; simp [World.cell?, h, hj]
theorem Blk.fro {w : World} {g : Nat} {t : TypeId} {cs : Array Value} (h : Blk w g t cs) (j : Nat) : w.frozen? ⟨g, j, none⟩ = false := by
  unfold Blk at h; simp [World.frozen?, h]
theorem Blk.lt {w : World} {g : Nat} {t : TypeId} {cs : Array Value} (h : Blk w g t cs) : g < w.heap.size := (Array.getElem?_eq_some_iff.1 h).1
theorem Blk.new (w : World) (cs : Array Value) (t : TypeId) : Blk (w.alloc (.cells cs t)) w.heap.size t cs := by
  show (w.heap.push (.cells cs t (0, 0)))[w.heap.size]? = _; simp
theorem Blk.below {w w' : World} {g : Nat} {t : TypeId} {cs : Array Value} (h : Blk w g t cs) (hb : Below w.heap.size w w') : Blk w' g t cs := by
  unfold Blk; rw [hb.block g h.lt]; exact h
theorem Blk.grown {w w' : World} {g : Nat} {t : TypeId} {cs : Array Value} {row : Option Nat} (h : Blk w g t cs) (hg : w.grownBy w' row) (hne : row ≠ some g) : Blk w' g t cs := by
  unfold Blk; rw [hg.block g h.lt (fun e => hne e.symm)]; exact h
theorem Blk.set {w : World} {g : Nat} {t : TypeId} {cs : Array Value} (h : Blk w g t cs) (j : Nat) (y : Value) : Blk (w.setCell ⟨g, j, none⟩ y) g t (cs.setIfInBounds j y) := by
  unfold Blk at h ⊢; simp [World.setCell, Array.getElem?_modify, h]
theorem Blk.setNe {w : World} {g g' j : Nat} {t : TypeId} {cs : Array Value} {y : Value} (h : Blk w g t cs) (hne : g ≠ g') : Blk (w.setCell ⟨g', j, none⟩ y) g t cs := by
  unfold Blk; rw [Below.heap_setCell _ _ _ _ hne]; exact h
theorem row_noBlk {w : World} {base size n g : Nat} {e t : TypeId} {v : Value} {xs : List Value} {cs : Array Value} (h : w.ownsRow base e size v n xs) (hb : Blk w g t cs) (ht : t ≠ e) : v.ownBlock ≠ some g := by
  intro he
  obtain ⟨_, h2⟩ := h
  rcases h2 with ⟨h2, _⟩ | ⟨g', cap, cur, hv, _, hh, _⟩
  · rw [h2] at he; simp [Value.ownBlock] at he
  · rw [hv] at he
    simp [Value.ownBlock] at he
    subst he
    unfold Blk at hb
    rw [hb] at hh
    simp at hh
    exact ht hh.2
theorem grown_setj (w : World) (g o : Nat) (v : Value) : w.grownBy (w.setCell ⟨g, o, none⟩ v) (some g) :=
  ⟨rfl, rfl, rfl, by simp [World.setCell], fun k hk hne => Below.heap_setCell _ _ _ _ (fun e => hne (by simpa using e))⟩
theorem row_set {w : World} {base size n g j : Nat} {e t : TypeId} {v y : Value} {xs : List Value} {cs : Array Value} (h : w.ownsRow base e size v n xs) (hb : Blk w g t cs) (ht : t ≠ e) : (w.setCell ⟨g, j, none⟩ y).ownsRow base e size v n xs :=
  World.ownsRow.kept h (grown_setj w g j y) (.inr (row_noBlk h hb ht))
def ExB (w : World) (g : Nat) (t : TypeId) : Prop := ∃ cs, Blk w g t cs
theorem ExB.set {w : World} {g g' j : Nat} {t : TypeId} {y : Value} (h : ExB w g t) : ExB (w.setCell ⟨g', j, none⟩ y) g t := by
  obtain ⟨cs, h⟩ := h
  by_cases e : g = g'
  · subst e; exact ⟨_, h.set j y⟩
  · exact ⟨_, h.setNe e⟩
theorem row_setE {w : World} {base size n g j : Nat} {e t : TypeId} {v y : Value} {xs : List Value} (h : w.ownsRow base e size v n xs) (hb : ExB w g t) (ht : t ≠ e) : (w.setCell ⟨g, j, none⟩ y).ownsRow base e size v n xs := by
  obtain ⟨cs, hb⟩ := hb
  exact row_set h hb ht
theorem OwnI.mono {w : World} {base base' : Nat} {v : Value} {zs : List Int} (h : OwnI w base v zs) (hb : base' ≤ base) : OwnI w base' v zs := by
  obtain ⟨h1, h2⟩ := h
  refine ⟨h1, ?_⟩
  rcases h2 with h2 | ⟨g, cap, cur, hv, hg, r⟩
  · exact .inl h2
  · exact .inr ⟨g, cap, cur, hv, by omega, r⟩
theorem OwnB.mono {w : World} {base base' : Nat} {v : Value} {zs : List Bool} (h : OwnB w base v zs) (hb : base' ≤ base) : OwnB w base' v zs := by
  obtain ⟨h1, h2⟩ := h
  refine ⟨h1, ?_⟩
  rcases h2 with h2 | ⟨g, cap, cur, hv, hg, r⟩
  · exact .inl h2
  · exact .inr ⟨g, cap, cur, hv, by omega, r⟩
end Go.Proofs.Ytfdddkjonjpgpaa
namespace Go.Proofs.Ytfdddkjonjpgpaa
open Go.RowKit
theorem Blk.six {w : World} {g : Nat} {t : TypeId} {v0 v1 v2 v3 v4 v5 : Value} (h : Blk w g t #[v0, v1, v2, v3, v4, v5]) : w.cell? ⟨g, 0, none⟩ = some v0 ∧ w.cell? ⟨g, 1, none⟩ = some v1 ∧ w.cell? ⟨g, 2, none⟩ = some v2 ∧ w.cell? ⟨g, 3, none⟩ = some v3 ∧ w.cell? ⟨g, 4, none⟩ = some v4 ∧ w.cell? ⟨g, 5, none⟩ = some v5 :=
  ⟨h.cell 0 rfl, h.cell 1 rfl, h.cell 2 rfl, h.cell 3 rfl, h.cell 4 rfl, h.cell 5 rfl⟩
abbrev rq (kd pl nn wa : Int) (a1 a2 : Option Addr) (l1 l2 c1 c2 : Nat) : Value := .agg #[.int .i64 kd, .int .i64 pl, .int .i64 nn, .slice a1 l1 c1, .slice a2 l2 c2, .int .i64 wa]
def wrK (kd : Int) : Bool := decide (kd = 5 ∨ kd = 6 ∨ kd = 15 ∨ kd = 16 ∨ kd = 22 ∨ kd = 23)
end Go.Proofs.Ytfdddkjonjpgpaa
namespace Go.Proofs.Ytfdddkjonjpgpaa
open Go.RowKit
set_option linter.unusedVariables false
abbrev dv (a1 a2 a3 a4 : Option Addr) (l1 l2 l3 l4 c1 c2 c3 c4 : Nat) : Value := .agg #[.slice a1 l1 c1, .slice a2 l2 c2, .slice a3 l3 c3, .slice a4 l4 c4]
theorem Blk.four {w : World} {g : Nat} {t : TypeId} {v0 v1 v2 v3 : Value} (h : Blk w g t #[v0, v1, v2, v3]) : w.cell? ⟨g, 0, none⟩ = some v0 ∧ w.cell? ⟨g, 1, none⟩ = some v1 ∧ w.cell? ⟨g, 2, none⟩ = some v2 ∧ w.cell? ⟨g, 3, none⟩ = some v3 :=
  ⟨h.cell 0 rfl, h.cell 1 rfl, h.cell 2 rfl, h.cell 3 rfl⟩
def SlD (w : World) (a1 a2 a3 a4 : Option Addr) (cs is : List Bool) (hs rs : List Int) : Prop := SlB w a1 cs ∧ SlB w a2 is ∧ SlI w a3 hs ∧ SlI w a4 rs
def LnD (l1 l2 l3 l4 : Nat) (cs is : List Bool) (hs rs : List Int) : Prop := l1 = cs.length ∧ l2 = is.length ∧ l3 = hs.length ∧ l4 = rs.length
def SmD (m : Nat) (cs is : List Bool) (hs rs : List Int) : Prop := cs.length ≤ m ∧ is.length ≤ m ∧ hs.length ≤ m ∧ rs.length ≤ m
def Df (v u : Value) : Prop := v.ownBlock = none ∨ u.ownBlock = none ∨ v.ownBlock ≠ u.ownBlock
theorem Df.symm {v u : Value} (h : Df v u) : Df u v := by
  rcases h with h | h | h
  · exact .inr (.inl h)
  · exact .inl h
  · exact .inr (.inr (fun e => h e.symm))
theorem Df.ne {v u : Value} (h : Df v u) : v.ownBlock = none ∨ v.ownBlock ≠ u.ownBlock := by
  rcases h with h | h | h
  · exact .inl h
  · cases e : v.ownBlock with
    | none => exact .inl rfl
    | some k => exact .inr (by rw [h]; simp)
  · exact .inr h
theorem Df.ofBase {w w' : World} {b1 b2 s1 s2 n1 n2 : Nat} {e1 e2 : TypeId} {v1 v2 : Value} {x1 x2 : List Value} (h1 : w.ownsRow b1 e1 s1 v1 n1 x1) (h2 : w'.ownsRow b2 e2 s2 v2 n2 x2) (hb : w.heap.size ≤ b2) : Df v1 v2 := by
  cases e : v1.ownBlock with
  | none => exact .inl e
  | some k =>
    refine .inr (.inr ?_)
    intro e2
    have q1 := (World.ownsRow.lt h1 k e).2
    have q2 := (World.ownsRow.lt h2 k (by rw [← e2]; exact e)).1
    omega
def OwnD (w : World) (B : Nat) (a1 a2 a3 a4 : Option Addr) (l1 l2 l3 l4 c1 c2 c3 c4 : Nat) (cs is : List Bool) (hs rs : List Int) : Prop :=
  OwnB w B (.slice a1 l1 c1) cs ∧ OwnB w B (.slice a2 l2 c2) is ∧ OwnI w B (.slice a3 l3 c3) hs ∧ OwnI w B (.slice a4 l4 c4) rs ∧ Df (.slice a1 l1 c1) (.slice a2 l2 c2) ∧ Df (.slice a3 l3 c3) (.slice a4 l4 c4)
theorem SlD.below {w w' : World} {a1 a2 a3 a4 : Option Addr} {cs is : List Bool} {hs rs : List Int} (h : SlD w a1 a2 a3 a4 cs is hs rs) (hb : Below w.heap.size w w') : SlD w' a1 a2 a3 a4 cs is hs rs :=
  ⟨h.1.below hb, h.2.1.below hb, h.2.2.1.below hb, h.2.2.2.below hb⟩
theorem OwnD.below {w w' : World} {B : Nat} {a1 a2 a3 a4 : Option Addr} {l1 l2 l3 l4 c1 c2 c3 c4 : Nat} {cs is : List Bool} {hs rs : List Int} (h : OwnD w B a1 a2 a3 a4 l1 l2 l3 l4 c1 c2 c3 c4 cs is hs rs) (hb : Below w.heap.size w w') : OwnD w' B a1 a2 a3 a4 l1 l2 l3 l4 c1 c2 c3 c4 cs is hs rs :=
  ⟨h.1.below hb, h.2.1.below hb, h.2.2.1.below hb, h.2.2.2.1.below hb, h.2.2.2.2⟩
theorem OwnD.sl {w : World} {B : Nat} {a1 a2 a3 a4 : Option Addr} {l1 l2 l3 l4 c1 c2 c3 c4 : Nat} {cs is : List Bool} {hs rs : List Int} (h : OwnD w B a1 a2 a3 a4 l1 l2 l3 l4 c1 c2 c3 c4 cs is hs rs) : LnD l1 l2 l3 l4 cs is hs rs ∧ SlD w a1 a2 a3 a4 cs is hs rs :=
  ⟨⟨h.1.sl.1, h.2.1.sl.1, h.2.2.1.sl.1, h.2.2.2.1.sl.1⟩, h.1.sl.2, h.2.1.sl.2, h.2.2.1.sl.2, h.2.2.2.1.sl.2⟩
theorem OwnD.mono {w : World} {B B' : Nat} {a1 a2 a3 a4 : Option Addr} {l1 l2 l3 l4 c1 c2 c3 c4 : Nat} {cs is : List Bool} {hs rs : List Int} (h : OwnD w B a1 a2 a3 a4 l1 l2 l3 l4 c1 c2 c3 c4 cs is hs rs) (hb : B' ≤ B) : OwnD w B' a1 a2 a3 a4 l1 l2 l3 l4 c1 c2 c3 c4 cs is hs rs :=
  ⟨h.1.mono hb, h.2.1.mono hb, h.2.2.1.mono hb, h.2.2.2.1.mono hb, h.2.2.2.2⟩
theorem bel_set4 {B : Nat} {W w : World} {g : Nat} {v0 v1 v2 v3 : Value} (hb : Below B W w) (hg : B ≤ g) : Below B W ((((w.setCell ⟨g, 0, none⟩ v0).setCell ⟨g, 1, none⟩ v1).setCell ⟨g, 2, none⟩ v2).setCell ⟨g, 3, none⟩ v3) :=
  (((hb.setCell (p := ⟨g, 0, none⟩) hg _).setCell (p := ⟨g, 1, none⟩) hg _).setCell (p := ⟨g, 2, none⟩) hg _).setCell (p := ⟨g, 3, none⟩) hg _
theorem row_set4 {w : World} {base size n g : Nat} {e t : TypeId} {v v0 v1 v2 v3 : Value} {xs : List Value} (h : w.ownsRow base e size v n xs) (hb : ExB w g t) (ht : t ≠ e) :
    ((((w.setCell ⟨g, 0, none⟩ v0).setCell ⟨g, 1, none⟩ v1).setCell ⟨g, 2, none⟩ v2).setCell ⟨g, 3, none⟩ v3).ownsRow base e size v n xs :=
  row_setE (row_setE (row_setE (row_setE h hb ht) (ExB.set hb) ht) (ExB.set (ExB.set hb)) ht) (ExB.set (ExB.set (ExB.set hb))) ht
theorem OwnD.set4 {w : World} {B g : Nat} {t : TypeId} {v0 v1 v2 v3 : Value} {a1 a2 a3 a4 : Option Addr} {l1 l2 l3 l4 c1 c2 c3 c4 : Nat} {cs is : List Bool} {hs rs : List Int} (h : OwnD w B a1 a2 a3 a4 l1 l2 l3 l4 c1 c2 c3 c4 cs is hs rs) (hb : ExB w g t) (h1 : t ≠ 4) (h2 : t ≠ 3) :
    OwnD ((((w.setCell ⟨g, 0, none⟩ v0).setCell ⟨g, 1, none⟩ v1).setCell ⟨g, 2, none⟩ v2).setCell ⟨g, 3, none⟩ v3) B a1 a2 a3 a4 l1 l2 l3 l4 c1 c2 c3 c4 cs is hs rs :=
  ⟨row_set4 h.1 hb h1, row_set4 h.2.1 hb h1, row_set4 h.2.2.1 hb h2, row_set4 h.2.2.2.1 hb h2, h.2.2.2.2⟩
end Go.Proofs.Ytfdddkjonjpgpaa
namespace Go.Proofs.Ytfdddkjonjpgpaa
open Go.RowKit
set_option linter.unusedVariables false
def inB (x lo hi : Int) : Bool := decide (lo ≤ x ∧ x ≤ hi)
def allW (ws : List Int) : Bool := decide (∀ k, k < ws.length → 0 ≤ ws.getD k 0 ∧ ws.getD k 0 ≤ 65535)
def fitB (p n : Int) : Bool := decide (0 ≤ p ∧ p ≤ 65535 ∧ p + n ≤ 65536)
def rnB (p n most : Int) : Bool := decide (1 ≤ n ∧ n ≤ most ∧ 0 ≤ p ∧ p + n ≤ 65536)
def zrB (n w b a : Bool) (nn : Int) (l1 l2 : Nat) (wa : Int) : Bool := (n || decide (nn = 0)) && ((w || decide (l1 = 0)) && ((b || decide (l2 = 0)) && (a || decide (wa = 0))))
set_option maxHeartbeats 1000000 in
theorem l1In_any (x lo hi : Int) (w : World) (b : Bool) (hb : inB x lo hi = b) : Calls Try.prog 73 #[.int .i64 x, .int .i64 lo, .int .i64 hi] w fun e w' => e = .returned (.bool b) ∧ w' = w := by
  subst hb
  unfold inB
  by_cases h1 : lo ≤ x
  · by_cases h2 : x ≤ hi
    · rw [decide_eq_true (show lo ≤ x ∧ x ≤ hi from ⟨h1, h2⟩)]
      go_enter Try.func73, Try.ntmps73
      go_wp2
      go_ret
      exact ⟨rfl, rfl⟩
    · rw [decide_eq_false (show ¬ (lo ≤ x ∧ x ≤ hi) from fun h => h2 h.2)]
      go_enter Try.func73, Try.ntmps73
      go_wp2
      go_ret
      exact ⟨rfl, rfl⟩
  · rw [decide_eq_false (show ¬ (lo ≤ x ∧ x ≤ hi) from fun h => h1 h.1)]
    go_enter Try.func73, Try.ntmps73
    go_wp2
    go_ret
    exact ⟨rfl, rfl⟩
set_option maxHeartbeats 1000000 in
theorem isWord_any (x : Int) (w : World) (b : Bool) (hb : inB x 0 65535 = b) : Calls Try.prog 66 #[.int .i64 x] w fun e w' => e = .returned (.bool b) ∧ w' = w := by
  subst hb
  unfold inB
  by_cases h1 : 0 ≤ x
  · by_cases h2 : x ≤ 65535
    · rw [decide_eq_true (show 0 ≤ x ∧ x ≤ 65535 from ⟨h1, h2⟩)]
      go_enter Try.func66, Try.ntmps66
      go_wp2
      go_ret
      exact ⟨rfl, rfl⟩
    · rw [decide_eq_false (show ¬ (0 ≤ x ∧ x ≤ 65535) from fun h => h2 h.2)]
      go_enter Try.func66, Try.ntmps66
      go_wp2
      go_ret
      exact ⟨rfl, rfl⟩
  · rw [decide_eq_false (show ¬ (0 ≤ x ∧ x ≤ 65535) from fun h => h1 h.1)]
    go_enter Try.func66, Try.ntmps66
    go_wp2
    go_ret
    exact ⟨rfl, rfl⟩
set_option maxHeartbeats 1000000 in
theorem isRun_any (x n most : Int) (w : World) (hm : most ≤ 2000) (b : Bool) (hb : rnB x n most = b) : Calls Try.prog 98 #[.int .i64 x, .int .i64 n, .int .i64 most] w fun e w' => e = .returned (.bool b) ∧ w' = w := by
  subst hb
  unfold rnB
  by_cases h1 : 1 ≤ n
  · by_cases h2 : n ≤ most
    · by_cases h3 : 0 ≤ x
      · by_cases h4 : x ≤ 65536 - n
        · rw [decide_eq_true (show 1 ≤ n ∧ n ≤ most ∧ 0 ≤ x ∧ x + n ≤ 65536 from ⟨h1, h2, h3, by omega⟩)]
          go_enter Try.func98, Try.ntmps98
          go_wp2
          go_ret
          exact ⟨rfl, rfl⟩
        · rw [decide_eq_false (show ¬ (1 ≤ n ∧ n ≤ most ∧ 0 ≤ x ∧ x + n ≤ 65536) from fun h => h4 (by omega))]
          go_enter Try.func98, Try.ntmps98
          go_wp2
          go_ret
          exact ⟨rfl, rfl⟩
      · rw [decide_eq_false (show ¬ (1 ≤ n ∧ n ≤ most ∧ 0 ≤ x ∧ x + n ≤ 65536) from fun h => h3 h.2.2.1)]
        go_enter Try.func98, Try.ntmps98
        go_wp2
        go_ret
        exact ⟨rfl, rfl⟩
    · rw [decide_eq_false (show ¬ (1 ≤ n ∧ n ≤ most ∧ 0 ≤ x ∧ x + n ≤ 65536) from fun h => h2 h.2.1)]
      go_enter Try.func98, Try.ntmps98
      go_wp2
      go_ret
      exact ⟨rfl, rfl⟩
  · rw [decide_eq_false (show ¬ (1 ≤ n ∧ n ≤ most ∧ 0 ≤ x ∧ x + n ≤ 65536) from fun h => h1 h.1)]
    go_enter Try.func98, Try.ntmps98
    go_wp2
    go_ret
    exact ⟨rfl, rfl⟩
theorem allW_bad {zs : List Int} {k : Nat} (h : k < zs.length) (hb : ¬ (0 ≤ zs.getD k 0 ∧ zs.getD k 0 ≤ 65535)) : allW zs = false := by
  unfold allW; exact decide_eq_false (fun hh => hb (hh k h))
theorem allW_good {zs : List Int} (hb : ∀ k, k < zs.length → 0 ≤ zs.getD k 0 ∧ zs.getD k 0 ≤ 65535) : allW zs = true := by
  unfold allW; exact decide_eq_true hb
set_option maxHeartbeats 1000000 in
theorem areWords_any (a : Option Addr) (n cap : Nat) (zs : List Int) (w : World) (hn : n = zs.length) (hs : SlI w a zs) (hl : zs.length ≤ 2000000) (b : Bool) (hb : allW zs = b) :
    Calls Try.prog 37 #[.slice a n cap] w fun e w' => e = .returned (.bool b) ∧ w' = w := by
  subst hn
  go_enter Try.func37, Try.ntmps37
  go_wp2
  go_loop [7] (fun i => ∃ k : Nat, k ≤ zs.length ∧ i = .int .i64 k ∧ ∀ j, j < k → 0 ≤ zs.getD j 0 ∧ zs.getD j 0 ≤ 65535) (fun i => zs.length - (intOf i).toNat)
  case atStart => exact ⟨0, Nat.zero_le _, rfl, fun j hj => absurd hj (Nat.not_lt_zero _)⟩
  case round =>
    obtain ⟨k, hk, rfl, hg⟩ := hrel
    have HG : Hid (∀ j, j < k → 0 ≤ zs.getD j 0 ∧ zs.getD j 0 ≤ 65535) := hg
    clear hg
    by_cases hlt : k < zs.length
    · obtain ⟨bb, off, rfl, _, hc⟩ := cell_atI hs hlt
      have hi : (k : Int) < (zs.length : Int) := by omega
      obtain ⟨x, hx⟩ : ∃ x, x = zs.getD k 0 := ⟨_, rfl⟩
      have HX : Hid (x = zs.getD k 0) := hx
      rw [← hx] at hc
      clear hs hx
      by_cases h1 : 0 ≤ x
      · by_cases h2 : x ≤ 65535
        · go_wp2_with (go_at_call 66; go_in)
          go_round
          case rel =>
            first
              | exact ⟨k + 1, by omega, by go_num, fun j hj => by
                  by_cases e : j = k
                  · subst e; rw [← HX.out]; exact ⟨h1, h2⟩
                  · exact HG.out j (by omega)⟩
              | exact ⟨_, _, ⟨k + 1, by omega, by go_num, fun j hj => by
                  by_cases e : j = k
                  · subst e; rw [← HX.out]; exact ⟨h1, h2⟩
                  · exact HG.out j (by omega)⟩, rfl, rfl⟩
          case measure => simp [intOf]; omega
        · have hf := allW_bad hlt (by rw [← HX.out]; exact fun h => h2 h.2)
          rw [hf] at hb
          subst hb
          go_wp2_with (go_at_call 66; go_in)
          go_ret
          exact ⟨rfl, rfl⟩
      · have hf := allW_bad hlt (by rw [← HX.out]; exact fun h => h1 h.1)
        rw [hf] at hb
        subst hb
        go_wp2_with (go_at_call 66; go_in)
        go_ret
        exact ⟨rfl, rfl⟩
    · have hf := allW_good (zs := zs) (fun j hj => HG.out j (by omega))
      rw [hf] at hb
      subst hb
      clear hs
      go_wp2
      go_ret
      exact ⟨rfl, rfl⟩
set_option maxHeartbeats 1000000 in
theorem equal_int (a a' : Option Addr) (n n' cap cap' : Nat) (zs : List Int) (w : World) (hn : n = zs.length) (hn' : n' = zs.length) (hs : SlI w a zs) (hs' : SlI w a' zs) (hl : zs.length ≤ 2000000) :
    Calls Try.prog 35 #[.slice a n cap, .slice a' n' cap'] w fun e w' => e = .returned (.bool true) ∧ Below w.heap.size w w' := by
  subst hn hn'
  go_enter Try.func35, Try.ntmps35
  go_wp2
  go_loopw [13] (fun i wr => ∃ k : Nat, k ≤ zs.length ∧ i = .int .i64 k ∧ ∃ n, wr = w.drewN n) (fun i _ => zs.length - (intOf i).toNat)
  case atStart => exact ⟨0, Nat.zero_le _, rfl, 0, rfl⟩
  case round =>
    obtain ⟨k, hk, rfl, n, rfl⟩ := hrel
    by_cases hlt : k < zs.length
    · obtain ⟨b, off, rfl, _, hc⟩ := cell_atI hs hlt
      obtain ⟨b', off', rfl, _, hc'⟩ := cell_atI hs' hlt
      have hi : (k : Int) < (zs.length : Int) := by omega
      clear hs hs'
      go_wp2
      go_quiet (fail)
      go_wp2
      go_roundw
      case rel => first | exact ⟨k + 1, by omega, by go_num, _, rfl⟩ | exact ⟨_, _, ⟨k + 1, by omega, by go_num, _, rfl⟩, rfl, rfl⟩
      case measure => simp [intOf]; omega
    · clear hs hs'
      go_wp2
      go_ret
      exact ⟨rfl, drew_refl _ _⟩
set_option maxHeartbeats 1000000 in
theorem equal_int_len (a a' : Option Addr) (n n' cap cap' : Nat) (w : World) (hne : ¬ (n : Int) = (n' : Int)) (h1 : n ≤ 20000000) (h2 : n' ≤ 20000000) :
    Calls Try.prog 35 #[.slice a n cap, .slice a' n' cap'] w fun e w' => e = .returned (.bool false) ∧ Below w.heap.size w w' := by
  go_enter Try.func35, Try.ntmps35
  go_wp2
  go_ret
  exact ⟨rfl, Below.refl _ _⟩
set_option maxHeartbeats 1000000 in
theorem equal_bool (a a' : Option Addr) (n n' cap cap' : Nat) (zs : List Bool) (w : World) (hn : n = zs.length) (hn' : n' = zs.length) (hs : SlB w a zs) (hs' : SlB w a' zs) (hl : zs.length ≤ 2000000) :
    Calls Try.prog 34 #[.slice a n cap, .slice a' n' cap'] w fun e w' => e = .returned (.bool true) ∧ Below w.heap.size w w' := by
  subst hn hn'
  go_enter Try.func34, Try.ntmps34
  go_wp2
  go_loopw [13] (fun i wr => ∃ k : Nat, k ≤ zs.length ∧ i = .int .i64 k ∧ ∃ n, wr = w.drewN n) (fun i _ => zs.length - (intOf i).toNat)
  case atStart => exact ⟨0, Nat.zero_le _, rfl, 0, rfl⟩
  case round =>
    obtain ⟨k, hk, rfl, n, rfl⟩ := hrel
    by_cases hlt : k < zs.length
    · obtain ⟨b, off, rfl, _, hc⟩ := cell_atB hs hlt
      obtain ⟨b', off', rfl, _, hc'⟩ := cell_atB hs' hlt
      have hi : (k : Int) < (zs.length : Int) := by omega
      clear hs hs'
      go_wp2
      go_quiet (fail)
      go_wp2
      go_roundw
      case rel => first | exact ⟨k + 1, by omega, by go_num, _, rfl⟩ | exact ⟨_, _, ⟨k + 1, by omega, by go_num, _, rfl⟩, rfl, rfl⟩
      case measure => simp [intOf]; omega
    · clear hs hs'
      go_wp2
      go_ret
      exact ⟨rfl, drew_refl _ _⟩
set_option maxHeartbeats 1000000 in
theorem equal_bool_len (a a' : Option Addr) (n n' cap cap' : Nat) (w : World) (hne : ¬ (n : Int) = (n' : Int)) (h1 : n ≤ 20000000) (h2 : n' ≤ 20000000) :
    Calls Try.prog 34 #[.slice a n cap, .slice a' n' cap'] w fun e w' => e = .returned (.bool false) ∧ Below w.heap.size w w' := by
  go_enter Try.func34, Try.ntmps34
  go_wp2
  go_ret
  exact ⟨rfl, Below.refl _ _⟩
end Go.Proofs.Ytfdddkjonjpgpaa
namespace Go.Proofs.Ytfdddkjonjpgpaa
open Go.RowKit
set_option linter.unusedVariables false
theorem lit_slB1 (w : World) (x : Bool) {g : Nat} (hg : g = w.heap.size) : SlB (w.alloc (.cells #[.bool x] 4)) (some ⟨g, 0, none⟩) [x] := hg ▸
  .inr ⟨_, 0, rfl, by simp, fun i hi => by
    have : i = 0 := by simp at hi; omega
    subst this; simp⟩
theorem lit_slI1 (w : World) (x : Int) {g : Nat} (hg : g = w.heap.size) : SlI (w.alloc (.cells #[.int .i64 x] 3)) (some ⟨g, 0, none⟩) [x] := hg ▸
  .inr ⟨_, 0, rfl, by simp, fun i hi => by
    have : i = 0 := by simp at hi; omega
    subst this; simp⟩
theorem lit_slI2 (w : World) (x y : Int) {g : Nat} (hg : g = w.heap.size) : SlI (w.alloc (.cells #[.int .i64 x, .int .i64 y] 3)) (some ⟨g, 0, none⟩) [x, y] := hg ▸
  .inr ⟨_, 0, rfl, by simp, fun i hi => by
    have : i = 0 ∨ i = 1 := by simp at hi; omega
    rcases this with rfl | rfl <;> simp⟩
set_option maxHeartbeats 2000000 in
theorem req_1 (pl nn : Int) (w : World) :
    Calls Try.prog 115 #[.agg #[.int .i64 pl, .int .i64 nn]] w fun e w' => e = .returned (rq 1 pl nn 0 none none 0 0 0 0) ∧ Below w.heap.size w w' := by
  go_enter Try.func115, Try.ntmps115
  go_wp2
  refine bodyPost_ret (v := rq 1 pl nn 0 none none 0 0 0 0) (by simp [results, Try.results115, go_sem]) rfl ?_
  exact ⟨rfl, bel_next (bel_alloc _ _) (bel_alloc _ _)⟩
set_option maxHeartbeats 2000000 in
theorem req_2 (pl nn : Int) (w : World) :
    Calls Try.prog 116 #[.agg #[.int .i64 pl, .int .i64 nn]] w fun e w' => e = .returned (rq 2 pl nn 0 none none 0 0 0 0) ∧ Below w.heap.size w w' := by
  go_enter Try.func116, Try.ntmps116
  go_wp2
  refine bodyPost_ret (v := rq 2 pl nn 0 none none 0 0 0 0) (by simp [results, Try.results116, go_sem]) rfl ?_
  exact ⟨rfl, bel_next (bel_alloc _ _) (bel_alloc _ _)⟩
set_option maxHeartbeats 2000000 in
theorem req_3 (pl nn : Int) (w : World) :
    Calls Try.prog 117 #[.agg #[.int .i64 pl, .int .i64 nn]] w fun e w' => e = .returned (rq 3 pl nn 0 none none 0 0 0 0) ∧ Below w.heap.size w w' := by
  go_enter Try.func117, Try.ntmps117
  go_wp2
  refine bodyPost_ret (v := rq 3 pl nn 0 none none 0 0 0 0) (by simp [results, Try.results117, go_sem]) rfl ?_
  exact ⟨rfl, bel_next (bel_alloc _ _) (bel_alloc _ _)⟩
set_option maxHeartbeats 2000000 in
theorem req_4 (pl nn : Int) (w : World) :
    Calls Try.prog 118 #[.agg #[.int .i64 pl, .int .i64 nn]] w fun e w' => e = .returned (rq 4 pl nn 0 none none 0 0 0 0) ∧ Below w.heap.size w w' := by
  go_enter Try.func118, Try.ntmps118
  go_wp2
  refine bodyPost_ret (v := rq 4 pl nn 0 none none 0 0 0 0) (by simp [results, Try.results118, go_sem]) rfl ?_
  exact ⟨rfl, bel_next (bel_alloc _ _) (bel_alloc _ _)⟩
set_option maxHeartbeats 2000000 in
theorem req_5 (pl : Int) (x : Bool) (w : World) :
    Calls Try.prog 119 #[.agg #[.int .i64 pl, .bool x]] w fun e w' => e = .returned (rq 5 pl 0 0 none (some ⟨w.heap.size + 1 + 1, 0, none⟩) 0 1 0 1) ∧ SlB w' (some ⟨w.heap.size + 1 + 1, 0, none⟩) [x] ∧ Below w.heap.size w w' := by
  go_enter Try.func119, Try.ntmps119
  go_wp2
  refine bodyPost_ret (v := rq 5 pl 0 0 none (some ⟨w.heap.size + 1 + 1, 0, none⟩) 0 1 0 1) (by simp [results, Try.results119, go_sem]) rfl ?_
  exact ⟨rfl, lit_slB1 _ x (by simp), bel_next (bel_next (bel_alloc _ _) (bel_alloc _ _)) (bel_alloc _ _)⟩
set_option maxHeartbeats 2000000 in
theorem req_6 (pl x : Int) (w : World) :
    Calls Try.prog 120 #[.agg #[.int .i64 pl, .int .i64 x]] w fun e w' => e = .returned (rq 6 pl 0 0 (some ⟨w.heap.size + 1 + 1, 0, none⟩) none 1 0 1 0) ∧ SlI w' (some ⟨w.heap.size + 1 + 1, 0, none⟩) [x] ∧ Below w.heap.size w w' := by
  go_enter Try.func120, Try.ntmps120
  go_wp2
  refine bodyPost_ret (v := rq 6 pl 0 0 (some ⟨w.heap.size + 1 + 1, 0, none⟩) none 1 0 1 0) (by simp [results, Try.results120, go_sem]) rfl ?_
  exact ⟨rfl, lit_slI1 _ x (by simp), bel_next (bel_next (bel_alloc _ _) (bel_alloc _ _)) (bel_alloc _ _)⟩
set_option maxHeartbeats 2000000 in
theorem req_15 (pl : Int) (a2 : Option Addr) (l2 c2 : Nat) (w : World) :
    Calls Try.prog 121 #[.agg #[.int .i64 pl, .slice a2 l2 c2]] w fun e w' => e = .returned (rq 15 pl 0 0 none a2 0 l2 0 c2) ∧ Below w.heap.size w w' := by
  go_enter Try.func121, Try.ntmps121
  go_wp2
  refine bodyPost_ret (v := rq 15 pl 0 0 none a2 0 l2 0 c2) (by simp [results, Try.results121, go_sem]) rfl ?_
  exact ⟨rfl, bel_next (bel_alloc _ _) (bel_alloc _ _)⟩
set_option maxHeartbeats 2000000 in
theorem req_16 (pl : Int) (a1 : Option Addr) (l1 c1 : Nat) (w : World) :
    Calls Try.prog 122 #[.agg #[.int .i64 pl, .slice a1 l1 c1]] w fun e w' => e = .returned (rq 16 pl 0 0 a1 none l1 0 c1 0) ∧ Below w.heap.size w w' := by
  go_enter Try.func122, Try.ntmps122
  go_wp2
  refine bodyPost_ret (v := rq 16 pl 0 0 a1 none l1 0 c1 0) (by simp [results, Try.results122, go_sem]) rfl ?_
  exact ⟨rfl, bel_next (bel_alloc _ _) (bel_alloc _ _)⟩
set_option maxHeartbeats 2000000 in
theorem req_22 (pl x y : Int) (w : World) :
    Calls Try.prog 123 #[.agg #[.int .i64 pl, .int .i64 x, .int .i64 y]] w fun e w' => e = .returned (rq 22 pl 0 0 (some ⟨w.heap.size + 1 + 1, 0, none⟩) none 2 0 2 0) ∧ SlI w' (some ⟨w.heap.size + 1 + 1, 0, none⟩) [x, y] ∧ Below w.heap.size w w' := by
  go_enter Try.func123, Try.ntmps123
  go_wp2
  refine bodyPost_ret (v := rq 22 pl 0 0 (some ⟨w.heap.size + 1 + 1, 0, none⟩) none 2 0 2 0) (by simp [results, Try.results123, go_sem]) rfl ?_
  exact ⟨rfl, lit_slI2 _ x y (by simp), bel_next (bel_next (bel_alloc _ _) (bel_alloc _ _)) (bel_alloc _ _)⟩
set_option maxHeartbeats 2000000 in
theorem req_23 (pl nn wa : Int) (a1 : Option Addr) (l1 c1 : Nat) (w : World) :
    Calls Try.prog 124 #[.agg #[.int .i64 pl, .int .i64 nn, .int .i64 wa, .slice a1 l1 c1]] w fun e w' => e = .returned (rq 23 pl nn wa a1 none l1 0 c1 0) ∧ Below w.heap.size w w' := by
  go_enter Try.func124, Try.ntmps124
  go_wp2
  refine bodyPost_ret (v := rq 23 pl nn wa a1 none l1 0 c1 0) (by simp [results, Try.results124, go_sem]) rfl ?_
  exact ⟨rfl, bel_next (bel_alloc _ _) (bel_alloc _ _)⟩
set_option maxHeartbeats 4000000 in
theorem sameReq_n (kd pl nn wa nn' wa' : Int) (a1 a2 a1' a2' : Option Addr) (l1 l2 c1 c2 l1' l2' c1' c2' : Nat) (w : World) (hne : ¬ nn = nn') :
    Calls Try.prog 93 #[rq kd pl nn wa a1 a2 l1 l2 c1 c2, rq kd pl nn' wa' a1' a2' l1' l2' c1' c2'] w fun e w' => e = .returned (.bool false) ∧ Below w.heap.size w w' := by
  obtain ⟨W0, hW0'⟩ : ∃ W0, W0 = (w.alloc (.cells #[.int .i64 kd, .int .i64 pl, .int .i64 nn, .slice a1 l1 c1, .slice a2 l2 c2, .int .i64 wa] 57)).alloc (.cells #[.int .i64 kd, .int .i64 pl, .int .i64 nn', .slice a1' l1' c1', .slice a2' l2' c2', .int .i64 wa'] 57) := ⟨_, rfl⟩
  have hW0 : Hid (W0 = _) := hW0'
  have B0 : Below w.heap.size w W0 := by rw [hW0']; exact bel_next (bel_alloc w _) (bel_alloc _ _)
  have X0 : Blk W0 w.heap.size 57 #[.int .i64 kd, .int .i64 pl, .int .i64 nn, .slice a1 l1 c1, .slice a2 l2 c2, .int .i64 wa] := by rw [hW0']; exact (Blk.new w _ _).below (bel_alloc _ _)
  have Y0 : Blk W0 (w.heap.size + 1) 57 #[.int .i64 kd, .int .i64 pl, .int .i64 nn', .slice a1' l1' c1', .slice a2' l2' c2', .int .i64 wa'] := by
    rw [hW0']; have := Blk.new (w.alloc (.cells #[.int .i64 kd, .int .i64 pl, .int .i64 nn, .slice a1 l1 c1, .slice a2 l2 c2, .int .i64 wa] 57)) #[.int .i64 kd, .int .i64 pl, .int .i64 nn', .slice a1' l1' c1', .slice a2' l2' c2', .int .i64 wa'] 57; simpa using this
  obtain ⟨x0, x1, x2, x3, x4, x5⟩ := X0.six
  obtain ⟨y0, y1, y2, y3, y4, y5⟩ := Y0.six
  clear hW0'
  go_enter Try.func93, Try.ntmps93
  go_upto_region 1 with fail
  rw [← hW0.out]
  go_wp2
  go_ret
  exact ⟨rfl, B0⟩
set_option maxHeartbeats 4000000 in
theorem sameReq_w (kd pl nn wa nn' wa' : Int) (a1 a2 a1' a2' : Option Addr) (l1 l2 c1 c2 l1' l2' c1' c2' : Nat) (w : World) (hn : nn' = nn) (hne : ¬ wa = wa') :
    Calls Try.prog 93 #[rq kd pl nn wa a1 a2 l1 l2 c1 c2, rq kd pl nn' wa' a1' a2' l1' l2' c1' c2'] w fun e w' => e = .returned (.bool false) ∧ Below w.heap.size w w' := by
  obtain ⟨W0, hW0'⟩ : ∃ W0, W0 = (w.alloc (.cells #[.int .i64 kd, .int .i64 pl, .int .i64 nn, .slice a1 l1 c1, .slice a2 l2 c2, .int .i64 wa] 57)).alloc (.cells #[.int .i64 kd, .int .i64 pl, .int .i64 nn', .slice a1' l1' c1', .slice a2' l2' c2', .int .i64 wa'] 57) := ⟨_, rfl⟩
  have hW0 : Hid (W0 = _) := hW0'
  have B0 : Below w.heap.size w W0 := by rw [hW0']; exact bel_next (bel_alloc w _) (bel_alloc _ _)
  have X0 : Blk W0 w.heap.size 57 #[.int .i64 kd, .int .i64 pl, .int .i64 nn, .slice a1 l1 c1, .slice a2 l2 c2, .int .i64 wa] := by rw [hW0']; exact (Blk.new w _ _).below (bel_alloc _ _)
  have Y0 : Blk W0 (w.heap.size + 1) 57 #[.int .i64 kd, .int .i64 pl, .int .i64 nn', .slice a1' l1' c1', .slice a2' l2' c2', .int .i64 wa'] := by
    rw [hW0']; have := Blk.new (w.alloc (.cells #[.int .i64 kd, .int .i64 pl, .int .i64 nn, .slice a1 l1 c1, .slice a2 l2 c2, .int .i64 wa] 57)) #[.int .i64 kd, .int .i64 pl, .int .i64 nn', .slice a1' l1' c1', .slice a2' l2' c2', .int .i64 wa'] 57; simpa using this
  obtain ⟨x0, x1, x2, x3, x4, x5⟩ := X0.six
  obtain ⟨y0, y1, y2, y3, y4, y5⟩ := Y0.six
  subst hn
  clear hW0'
  go_enter Try.func93, Try.ntmps93
  go_upto_region 1 with fail
  rw [← hW0.out]
  go_wp2
  go_ret
  exact ⟨rfl, B0⟩
set_option maxHeartbeats 4000000 in
theorem sameReq_1 (kd pl nn wa nn' wa' : Int) (a1 a2 a1' a2' : Option Addr) (l1 l2 c1 c2 l1' l2' c1' c2' : Nat) (w : World) (hn : nn' = nn) (hw : wa' = wa) (hne : ¬ (l1 : Int) = (l1' : Int)) (h1 : l1 ≤ 20000000) (h1' : l1' ≤ 20000000) :
    Calls Try.prog 93 #[rq kd pl nn wa a1 a2 l1 l2 c1 c2, rq kd pl nn' wa' a1' a2' l1' l2' c1' c2'] w fun e w' => e = .returned (.bool false) ∧ Below w.heap.size w w' := by
  obtain ⟨W0, hW0'⟩ : ∃ W0, W0 = (w.alloc (.cells #[.int .i64 kd, .int .i64 pl, .int .i64 nn, .slice a1 l1 c1, .slice a2 l2 c2, .int .i64 wa] 57)).alloc (.cells #[.int .i64 kd, .int .i64 pl, .int .i64 nn', .slice a1' l1' c1', .slice a2' l2' c2', .int .i64 wa'] 57) := ⟨_, rfl⟩
  have hW0 : Hid (W0 = _) := hW0'
  have B0 : Below w.heap.size w W0 := by rw [hW0']; exact bel_next (bel_alloc w _) (bel_alloc _ _)
  have X0 : Blk W0 w.heap.size 57 #[.int .i64 kd, .int .i64 pl, .int .i64 nn, .slice a1 l1 c1, .slice a2 l2 c2, .int .i64 wa] := by rw [hW0']; exact (Blk.new w _ _).below (bel_alloc _ _)
  have Y0 : Blk W0 (w.heap.size + 1) 57 #[.int .i64 kd, .int .i64 pl, .int .i64 nn', .slice a1' l1' c1', .slice a2' l2' c2', .int .i64 wa'] := by
    rw [hW0']; have := Blk.new (w.alloc (.cells #[.int .i64 kd, .int .i64 pl, .int .i64 nn, .slice a1 l1 c1, .slice a2 l2 c2, .int .i64 wa] 57)) #[.int .i64 kd, .int .i64 pl, .int .i64 nn', .slice a1' l1' c1', .slice a2' l2' c2', .int .i64 wa'] 57; simpa using this
  obtain ⟨x0, x1, x2, x3, x4, x5⟩ := X0.six
  obtain ⟨y0, y1, y2, y3, y4, y5⟩ := Y0.six
  subst hn hw
  clear hW0'
  go_enter Try.func93, Try.ntmps93
  go_upto_region 1 with fail
  rw [← hW0.out]
  go_wp2_with fail
  refine (equal_int_len _ _ _ _ _ _ _ hne h1 h1').mono ?_
  rintro e w1 ⟨rfl, b'⟩
  go_wp2
  go_ret
  exact ⟨rfl, bel_next B0 b'⟩
set_option maxHeartbeats 4000000 in
theorem sameReq_2 (kd pl nn wa nn' wa' : Int) (a1 a2 a1' a2' : Option Addr) (l1 l2 c1 c2 l1' l2' c1' c2' : Nat) (w : World) (hn : nn' = nn) (hw : wa' = wa) (ws : List Int) (h1 : l1 = ws.length) (h1' : l1' = ws.length) (s1 : SlI w a1 ws) (s1' : SlI w a1' ws) (hl1 : ws.length ≤ 2000000) (hne : ¬ (l2 : Int) = (l2' : Int)) (h2 : l2 ≤ 20000000) (h2' : l2' ≤ 20000000) :
    Calls Try.prog 93 #[rq kd pl nn wa a1 a2 l1 l2 c1 c2, rq kd pl nn' wa' a1' a2' l1' l2' c1' c2'] w fun e w' => e = .returned (.bool false) ∧ Below w.heap.size w w' := by
  obtain ⟨W0, hW0'⟩ : ∃ W0, W0 = (w.alloc (.cells #[.int .i64 kd, .int .i64 pl, .int .i64 nn, .slice a1 l1 c1, .slice a2 l2 c2, .int .i64 wa] 57)).alloc (.cells #[.int .i64 kd, .int .i64 pl, .int .i64 nn', .slice a1' l1' c1', .slice a2' l2' c2', .int .i64 wa'] 57) := ⟨_, rfl⟩
  have hW0 : Hid (W0 = _) := hW0'
  have B0 : Below w.heap.size w W0 := by rw [hW0']; exact bel_next (bel_alloc w _) (bel_alloc _ _)
  have X0 : Blk W0 w.heap.size 57 #[.int .i64 kd, .int .i64 pl, .int .i64 nn, .slice a1 l1 c1, .slice a2 l2 c2, .int .i64 wa] := by rw [hW0']; exact (Blk.new w _ _).below (bel_alloc _ _)
  have Y0 : Blk W0 (w.heap.size + 1) 57 #[.int .i64 kd, .int .i64 pl, .int .i64 nn', .slice a1' l1' c1', .slice a2' l2' c2', .int .i64 wa'] := by
    rw [hW0']; have := Blk.new (w.alloc (.cells #[.int .i64 kd, .int .i64 pl, .int .i64 nn, .slice a1 l1 c1, .slice a2 l2 c2, .int .i64 wa] 57)) #[.int .i64 kd, .int .i64 pl, .int .i64 nn', .slice a1' l1' c1', .slice a2' l2' c2', .int .i64 wa'] 57; simpa using this
  obtain ⟨x0, x1, x2, x3, x4, x5⟩ := X0.six
  obtain ⟨y0, y1, y2, y3, y4, y5⟩ := Y0.six
  subst hn hw
  have HH : Hid (l1 = ws.length ∧ l1' = ws.length ∧ SlI W0 a1 ws ∧ SlI W0 a1' ws) := ⟨h1, h1', s1.below B0, s1'.below B0⟩
  clear h1 h1' s1 s1'
  clear hW0'
  go_enter Try.func93, Try.ntmps93
  go_upto_region 1 with fail
  rw [← hW0.out]
  go_wp2_with fail
  refine (equal_int _ _ _ _ _ _ ws _ HH.out.1 HH.out.2.1 HH.out.2.2.1 HH.out.2.2.2 hl1).mono ?_
  rintro e w1 ⟨rfl, b'⟩
  have b1 := bel_next B0 b'
  obtain ⟨x0, x1, x2, x3, x4, x5⟩ := (X0.below b').six
  obtain ⟨y0, y1, y2, y3, y4, y5⟩ := (Y0.below b').six
  go_wp2_with fail
  refine (equal_bool_len _ _ _ _ _ _ _ hne h2 h2').mono ?_
  rintro e w2 ⟨rfl, b2'⟩
  go_wp2
  go_ret
  exact ⟨rfl, bel_next b1 b2'⟩
set_option maxHeartbeats 4000000 in
theorem sameReq_t (kd pl nn wa nn' wa' : Int) (a1 a2 a1' a2' : Option Addr) (l1 l2 c1 c2 l1' l2' c1' c2' : Nat) (w : World) (hn : nn' = nn) (hw : wa' = wa) (ws : List Int) (h1 : l1 = ws.length) (h1' : l1' = ws.length) (s1 : SlI w a1 ws) (s1' : SlI w a1' ws) (hl1 : ws.length ≤ 2000000) (bs : List Bool) (h2 : l2 = bs.length) (h2' : l2' = bs.length) (s2 : SlB w a2 bs) (s2' : SlB w a2' bs) (hl2 : bs.length ≤ 2000000) :
    Calls Try.prog 93 #[rq kd pl nn wa a1 a2 l1 l2 c1 c2, rq kd pl nn' wa' a1' a2' l1' l2' c1' c2'] w fun e w' => e = .returned (.bool true) ∧ Below w.heap.size w w' := by
  obtain ⟨W0, hW0'⟩ : ∃ W0, W0 = (w.alloc (.cells #[.int .i64 kd, .int .i64 pl, .int .i64 nn, .slice a1 l1 c1, .slice a2 l2 c2, .int .i64 wa] 57)).alloc (.cells #[.int .i64 kd, .int .i64 pl, .int .i64 nn', .slice a1' l1' c1', .slice a2' l2' c2', .int .i64 wa'] 57) := ⟨_, rfl⟩
  have hW0 : Hid (W0 = _) := hW0'
  have B0 : Below w.heap.size w W0 := by rw [hW0']; exact bel_next (bel_alloc w _) (bel_alloc _ _)
  have X0 : Blk W0 w.heap.size 57 #[.int .i64 kd, .int .i64 pl, .int .i64 nn, .slice a1 l1 c1, .slice a2 l2 c2, .int .i64 wa] := by rw [hW0']; exact (Blk.new w _ _).below (bel_alloc _ _)
  have Y0 : Blk W0 (w.heap.size + 1) 57 #[.int .i64 kd, .int .i64 pl, .int .i64 nn', .slice a1' l1' c1', .slice a2' l2' c2', .int .i64 wa'] := by
    rw [hW0']; have := Blk.new (w.alloc (.cells #[.int .i64 kd, .int .i64 pl, .int .i64 nn, .slice a1 l1 c1, .slice a2 l2 c2, .int .i64 wa] 57)) #[.int .i64 kd, .int .i64 pl, .int .i64 nn', .slice a1' l1' c1', .slice a2' l2' c2', .int .i64 wa'] 57; simpa using this
  obtain ⟨x0, x1, x2, x3, x4, x5⟩ := X0.six
  obtain ⟨y0, y1, y2, y3, y4, y5⟩ := Y0.six
  subst hn hw
  have HH : Hid (l1 = ws.length ∧ l1' = ws.length ∧ SlI W0 a1 ws ∧ SlI W0 a1' ws) := ⟨h1, h1', s1.below B0, s1'.below B0⟩
  clear h1 h1' s1 s1'
  have HB : Hid (l2 = bs.length ∧ l2' = bs.length ∧ SlB W0 a2 bs ∧ SlB W0 a2' bs) := ⟨h2, h2', s2.below B0, s2'.below B0⟩
  clear h2 h2' s2 s2'
  clear hW0'
  go_enter Try.func93, Try.ntmps93
  go_upto_region 1 with fail
  rw [← hW0.out]
  go_wp2_with fail
  refine (equal_int _ _ _ _ _ _ ws _ HH.out.1 HH.out.2.1 HH.out.2.2.1 HH.out.2.2.2 hl1).mono ?_
  rintro e w1 ⟨rfl, b'⟩
  have b1 := bel_next B0 b'
  obtain ⟨x0, x1, x2, x3, x4, x5⟩ := (X0.below b').six
  obtain ⟨y0, y1, y2, y3, y4, y5⟩ := (Y0.below b').six
  go_wp2_with fail
  refine (equal_bool _ _ _ _ _ _ bs _ HB.out.1 HB.out.2.1 (HB.out.2.2.1.below b') (HB.out.2.2.2.below b') hl2).mono ?_
  rintro e w2 ⟨rfl, b2'⟩
  go_wp2
  go_ret
  exact ⟨rfl, bel_next b1 b2'⟩
end Go.Proofs.Ytfdddkjonjpgpaa
namespace Go.Proofs.Ytfdddkjonjpgpaa
theorem i64_and_mask (n : Int) (k : Nat) (m : Int) (hm : (BitVec.ofInt 64 m).toNat = 2 ^ k - 1) (hk : k ≤ 62) : bits .and .i64 n m = n % ((2 ^ k : Nat) : Int) := by
  have key : (BitVec.ofInt 64 n &&& BitVec.ofInt 64 m).toNat = (n % ((2 ^ 64 : Nat) : Int)).toNat % 2 ^ k := by
    rw [BitVec.toNat_and, BitVec.toNat_ofInt, hm, Nat.and_two_pow_sub_one_eq_mod]
  show IntKind.i64.wrap ((BitVec.ofInt 64 n &&& BitVec.ofInt 64 m).toNat : Nat) = n % ((2 ^ k : Nat) : Int)
  have hlt : 2 ^ k ≤ 2 ^ 62 := Nat.pow_le_pow_right (by decide) hk
  have hpos : 0 < 2 ^ k := Nat.two_pow_pos k
  have e1 : (((n % ((2 ^ 64 : Nat) : Int)).toNat % 2 ^ k : Nat) : Int) = n % ((2 ^ k : Nat) : Int) := by
    have h0 : 0 ≤ n % ((2 ^ 64 : Nat) : Int) := Int.emod_nonneg _ (by decide)
    rw [Int.natCast_emod, Int.toNat_of_nonneg h0]
    refine Int.emod_emod_of_dvd n ?_
    exact Int.natCast_dvd_natCast.2 (Nat.pow_dvd_pow 2 (by omega))
  rw [key, e1, IntKind.wrap_i64]
  have h1 : 0 ≤ n % ((2 ^ k : Nat) : Int) := Int.emod_nonneg _ (by omega)
  have h2 : n % ((2 ^ k : Nat) : Int) < ((2 ^ k : Nat) : Int) := Int.emod_lt_of_pos _ (by omega)
  omega
theorem and8 (n : Int) : bits .and .i64 n 255 = n % 256 := i64_and_mask n 8 255 (by decide) (by decide)
end Go.Proofs.Ytfdddkjonjpgpaa
namespace Go.Proofs.Ytfdddkjonjpgpaa
open Go.RowKit
def pv (bits : List Bool) : Nat → Nat → Int
  | 0, _ => 0
  | k + 1, j => if k / 8 = j ∧ bits.getD k false = true then pv bits k j + (2 ^ (k % 8) : Nat) else pv bits k j
set_option maxHeartbeats 1000000 in
theorem bytesFor_any (x : Int) (w : World) (h0 : 0 ≤ x) (h1 : x ≤ 9223372036854775807) :
    Calls Try.prog 99 #[.int .i64 x] w fun e w' => e = .returned (.int .i64 ((x + 7) / 8)) ∧ w' = w := by
  by_cases h : x % 8 = 0
  · have e : (x + 7) / 8 = x / 8 := by omega
    rw [e]
    have h' : (x % 8 == 0) = true := by simp [h]
    clear e
    go_enter Try.func99, Try.ntmps99
    go_wp2
    go_ret
    exact ⟨rfl, rfl⟩
  · have e : (x + 7) / 8 = x / 8 + 1 := by omega
    rw [e]
    have h' : (x % 8 == 0) = false := by simp [h]
    clear e
    go_enter Try.func99, Try.ntmps99
    go_wp2
    go_ret
    exact ⟨rfl, rfl⟩
end Go.Proofs.Ytfdddkjonjpgpaa
namespace Go.Proofs.Ytfdddkjonjpgpaa
open Go.RowKit
set_option linter.unusedVariables false
set_option linter.unusedSimpArgs false
theorem first_diff {α : Type} [DecidableEq α] (d : α) : ∀ (zs ys : List α), zs.length = ys.length → zs ≠ ys → ∃ k, k < zs.length ∧ zs.getD k d ≠ ys.getD k d ∧ ∀ j, j < k → zs.getD j d = ys.getD j d
  | [], [], _, h => absurd rfl h
  | [], _ :: _, h, _ => by simp at h
  | _ :: _, [], h, _ => by simp at h
  | x :: r, y :: s, hl, hne => by
    by_cases e : x = y
    · subst e
      obtain ⟨k, h1, h2, h3⟩ := first_diff d r s (by simpa using hl) (fun h => hne (by rw [h]))
      refine ⟨k + 1, by simp; omega, by simpa using h2, fun j hj => ?_⟩
      cases j with
      | zero => simp
      | succ j => simpa using h3 j (by omega)
    · exact ⟨0, by simp, by simpa using e, fun j hj => by omega⟩
set_option maxHeartbeats 2000000 in
theorem equal_int_ne (a a' : Option Addr) (n n' cap cap' : Nat) (zs ys : List Int) (w : World) (hn : n = zs.length) (hn' : n' = zs.length) (hy : zs.length = ys.length) (hs : SlI w a zs) (hs' : SlI w a' ys) (hl : zs.length ≤ 2000000) (hne : zs ≠ ys) :
    Calls Try.prog 35 #[.slice a n cap, .slice a' n' cap'] w fun e w' => e = .returned (.bool false) ∧ Below w.heap.size w w' := by
  subst hn hn'
  obtain ⟨d, hd, hdn, hdj⟩ := first_diff 0 zs ys hy hne
  have HY : Hid (zs.length = ys.length) := hy
  have HD : Hid (∀ j, j < d → zs.getD j 0 = ys.getD j 0) := hdj
  clear hy hdj hne
  go_enter Try.func35, Try.ntmps35
  go_wp2
  go_loopw [13] (fun i wr => ∃ k : Nat, k ≤ d ∧ i = .int .i64 k ∧ ∃ n, wr = w.drewN n) (fun i _ => d - (intOf i).toNat)
  case atStart => exact ⟨0, Nat.zero_le _, rfl, 0, rfl⟩
  case round =>
    obtain ⟨k, hk, rfl, n, rfl⟩ := hrel
    have hlt : k < zs.length := by omega
    obtain ⟨b, off, rfl, _, hc⟩ := cell_atI hs hlt
    obtain ⟨b', off', rfl, _, hc'⟩ := cell_atI hs' (show k < ys.length by have := HY.out; omega)
    have hi : (k : Int) < (zs.length : Int) := by omega
    by_cases hkd : k < d
    · rw [← HD.out k hkd] at hc'
      clear hs hs'
      go_wp2
      go_quiet (fail)
      go_wp2
      go_roundw
      case rel => first | exact ⟨k + 1, by omega, by go_num, _, rfl⟩ | exact ⟨_, _, ⟨k + 1, by omega, by go_num, _, rfl⟩, rfl, rfl⟩
      case measure => simp [intOf]; omega
    · obtain rfl : k = d := by omega
      clear hs hs'
      generalize zs.getD k 0 = x at *
      generalize ys.getD k 0 = y at *
      go_wp2
      go_quiet (fail)
      go_wp2
      go_ret
      exact ⟨rfl, bel_drewN (drew_refl _ _) _⟩
set_option maxHeartbeats 2000000 in
theorem equal_bool_ne (a a' : Option Addr) (n n' cap cap' : Nat) (zs ys : List Bool) (w : World) (hn : n = zs.length) (hn' : n' = zs.length) (hy : zs.length = ys.length) (hs : SlB w a zs) (hs' : SlB w a' ys) (hl : zs.length ≤ 2000000) (hne : zs ≠ ys) :
    Calls Try.prog 34 #[.slice a n cap, .slice a' n' cap'] w fun e w' => e = .returned (.bool false) ∧ Below w.heap.size w w' := by
  subst hn hn'
  obtain ⟨d, hd, hdn, hdj⟩ := first_diff false zs ys hy hne
  have HY : Hid (zs.length = ys.length) := hy
  have HD : Hid (∀ j, j < d → zs.getD j false = ys.getD j false) := hdj
  clear hy hdj hne
  go_enter Try.func34, Try.ntmps34
  go_wp2
  go_loopw [13] (fun i wr => ∃ k : Nat, k ≤ d ∧ i = .int .i64 k ∧ ∃ n, wr = w.drewN n) (fun i _ => d - (intOf i).toNat)
  case atStart => exact ⟨0, Nat.zero_le _, rfl, 0, rfl⟩
  case round =>
    obtain ⟨k, hk, rfl, n, rfl⟩ := hrel
    have hlt : k < zs.length := by omega
    obtain ⟨b, off, rfl, _, hc⟩ := cell_atB hs hlt
    obtain ⟨b', off', rfl, _, hc'⟩ := cell_atB hs' (show k < ys.length by have := HY.out; omega)
    have hi : (k : Int) < (zs.length : Int) := by omega
    by_cases hkd : k < d
    · rw [← HD.out k hkd] at hc'
      clear hs hs'
      go_wp2
      go_quiet (fail)
      go_wp2
      go_roundw
      case rel => first | exact ⟨k + 1, by omega, by go_num, _, rfl⟩ | exact ⟨_, _, ⟨k + 1, by omega, by go_num, _, rfl⟩, rfl, rfl⟩
      case measure => simp [intOf]; omega
    · obtain rfl : k = d := by omega
      clear hs hs'
      generalize zs.getD k false = x at *
      generalize ys.getD k false = y at *
      obtain rfl : y = !x := by cases x <;> cases y <;> simp_all
      clear hdn
      cases x
      all_goals (
        go_wp2
        go_quiet (fail)
        go_wp2
        go_ret
        exact ⟨rfl, bel_drewN (drew_refl _ _) _⟩)
theorem equal_int_any (a a' : Option Addr) (n n' cap cap' : Nat) (zs ys : List Int) (w : World) (hn : n = zs.length) (hn' : n' = ys.length) (hs : SlI w a zs) (hs' : SlI w a' ys) (hl : zs.length ≤ 2000000) (hl' : ys.length ≤ 2000000) (b : Bool) (hb : decide (zs = ys) = b) :
    Calls Try.prog 35 #[.slice a n cap, .slice a' n' cap'] w fun e w' => e = .returned (.bool b) ∧ Below w.heap.size w w' := by
  subst hb
  by_cases h : zs = ys
  · subst h
    rw [decide_eq_true rfl]
    exact equal_int a a' n n' cap cap' zs w hn hn' hs hs' hl
  · rw [decide_eq_false h]
    by_cases hy : zs.length = ys.length
    · exact equal_int_ne a a' n n' cap cap' zs ys w hn (hn'.trans hy.symm) hy hs hs' hl h
    · exact equal_int_len a a' n n' cap cap' w (by omega) (by omega) (by omega)
theorem equal_bool_any (a a' : Option Addr) (n n' cap cap' : Nat) (zs ys : List Bool) (w : World) (hn : n = zs.length) (hn' : n' = ys.length) (hs : SlB w a zs) (hs' : SlB w a' ys) (hl : zs.length ≤ 2000000) (hl' : ys.length ≤ 2000000) (b : Bool) (hb : decide (zs = ys) = b) :
    Calls Try.prog 34 #[.slice a n cap, .slice a' n' cap'] w fun e w' => e = .returned (.bool b) ∧ Below w.heap.size w w' := by
  subst hb
  by_cases h : zs = ys
  · subst h
    rw [decide_eq_true rfl]
    exact equal_bool a a' n n' cap cap' zs w hn hn' hs hs' hl
  · rw [decide_eq_false h]
    by_cases hy : zs.length = ys.length
    · exact equal_bool_ne a a' n n' cap cap' zs ys w hn (hn'.trans hy.symm) hy hs hs' hl h
    · exact equal_bool_len a a' n n' cap cap' w (by omega) (by omega) (by omega)
def nfB (bs : List Bool) (n : Nat) : Bool := decide (∀ k, k < bs.length → n ≤ k → bs.getD k false = false)
end Go.Proofs.Ytfdddkjonjpgpaa
namespace Go.Proofs.Ytfdddkjonjpgpaa
open Go.RowKit
set_option linter.unusedVariables false
set_option linter.unusedSimpArgs false
def okD (l1 l2 l3 l4 : Nat) (hs rs : List Int) : Bool := decide (l1 ≤ 64 ∧ l2 ≤ 64 ∧ l3 ≤ 64 ∧ l4 ≤ 64) && (allW hs && allW rs)
theorem idx4_0 (x0 x1 x2 x3 : Int) (w : World) : (Instr.index 63 (.agg #[.int .i64 x0, .int .i64 x1, .int .i64 x2, .int .i64 x3]) (.int .i64 0)).run Try.prog w = .ok (.int .i64 x0) w := by kernel_rfl
theorem idx4_1 (x0 x1 x2 x3 : Int) (w : World) : (Instr.index 63 (.agg #[.int .i64 x0, .int .i64 x1, .int .i64 x2, .int .i64 x3]) (.int .i64 1)).run Try.prog w = .ok (.int .i64 x1) w := by kernel_rfl
theorem idx4_2 (x0 x1 x2 x3 : Int) (w : World) : (Instr.index 63 (.agg #[.int .i64 x0, .int .i64 x1, .int .i64 x2, .int .i64 x3]) (.int .i64 2)).run Try.prog w = .ok (.int .i64 x2) w := by kernel_rfl
theorem idx4_3 (x0 x1 x2 x3 : Int) (w : World) : (Instr.index 63 (.agg #[.int .i64 x0, .int .i64 x1, .int .i64 x2, .int .i64 x3]) (.int .i64 3)).run Try.prog w = .ok (.int .i64 x3) w := by kernel_rfl
set_option maxHeartbeats 2000000 in
theorem sizes_any (a1 a2 a3 a4 : Option Addr) (l1 l2 l3 l4 c1 c2 c3 c4 : Nat) (w : World) (k1 : l1 ≤ 2000000) (k2 : l2 ≤ 2000000) (k3 : l3 ≤ 2000000) (k4 : l4 ≤ 2000000) :
    Calls Try.prog 36 #[dv a1 a2 a3 a4 l1 l2 l3 l4 c1 c2 c3 c4] w fun e w' => e = .returned (.agg #[.int .i64 (l1 : Int), .int .i64 (l2 : Int), .int .i64 (l3 : Int), .int .i64 (l4 : Int)]) ∧ Below w.heap.size w w' := by
  have b0 := bel_next (bel_alloc w (.cells #[.slice a1 l1 c1, .slice a2 l2 c2, .slice a3 l3 c3, .slice a4 l4 c4] 27)) (bel_alloc _ (.cells #[.int .i64 0, .int .i64 0, .int .i64 0, .int .i64 0] 63))
  go_enter Try.func36, Try.ntmps36
  go_wp2
  refine bodyPost_ret (v := .agg #[.int .i64 (l1 : Int), .int .i64 (l2 : Int), .int .i64 (l3 : Int), .int .i64 (l4 : Int)]) (by simp [results, Try.results36, go_sem]) rfl ?_
  exact ⟨rfl, bel_next (bel_alloc _ _) (bel_alloc _ _)⟩
set_option maxRecDepth 20000 in
set_option maxHeartbeats 4000000 in
theorem implDeviceOk_any (a1 a2 a3 a4 : Option Addr) (l1 l2 l3 l4 c1 c2 c3 c4 : Nat) (cs is : List Bool) (hs rs : List Int) (w : World) (hn : LnD l1 l2 l3 l4 cs is hs rs) (hs0 : SlD w a1 a2 a3 a4 cs is hs rs) (hl : SmD 2000000 cs is hs rs) (b : Bool) (hb : okD l1 l2 l3 l4 hs rs = b) :
    Calls Try.prog 11 #[dv a1 a2 a3 a4 l1 l2 l3 l4 c1 c2 c3 c4] w fun e w' => e = .returned (.bool b) ∧ Below w.heap.size w w' := by
  have b0 := bel_alloc w (.cells #[.slice a1 l1 c1, .slice a2 l2 c2, .slice a3 l3 c3, .slice a4 l4 c4] 27)
  have HS : Hid (SlI (w.alloc (.cells #[.slice a1 l1 c1, .slice a2 l2 c2, .slice a3 l3 c3, .slice a4 l4 c4] 27)) a3 hs ∧ SlI (w.alloc (.cells #[.slice a1 l1 c1, .slice a2 l2 c2, .slice a3 l3 c3, .slice a4 l4 c4] 27)) a4 rs) := ⟨hs0.2.2.1.below b0, hs0.2.2.2.below b0⟩
  have HN : Hid (l3 = hs.length ∧ l4 = rs.length ∧ hs.length ≤ 2000000 ∧ rs.length ≤ 2000000) := ⟨hn.2.2.1, hn.2.2.2, hl.2.2.1, hl.2.2.2⟩
  obtain ⟨k1, k2, k3, k4⟩ : l1 ≤ 2000000 ∧ l2 ≤ 2000000 ∧ l3 ≤ 2000000 ∧ l4 ≤ 2000000 := by obtain ⟨e1, e2, e3, e4⟩ := hn; obtain ⟨f1, f2, f3, f4⟩ := hl; omega
  subst hb
  clear hn hs0 hl
  have j0 := idx4_0
  have j1 := idx4_1
  have j2 := idx4_2
  have j3 := idx4_3
  have X0 := Blk.new w #[.slice a1 l1 c1, .slice a2 l2 c2, .slice a3 l3 c3, .slice a4 l4 c4] 27
  by_cases h1 : (l1 : Int) > 64
  case pos =>
    rw [show okD l1 l2 l3 l4 hs rs = false by unfold okD; rw [decide_eq_false (by omega)]; rfl]
    go_enter Try.func11, Try.ntmps11
    go_wp2_with fail
    refine (sizes_any _ _ _ _ _ _ _ _ _ _ _ _ _ k1 k2 k3 k4).mono ?_
    rintro e w1 ⟨rfl, b'⟩
    have b1 := bel_next b0 b'
    have HS1 : Hid (SlI w1 a3 hs ∧ SlI w1 a4 rs) := ⟨HS.out.1.below b', HS.out.2.below b'⟩
    obtain ⟨x0, x1, x2, x3⟩ := (X0.below b').four
    clear b' b0 X0
    go_wp2
    refine wp_loop_rounds 5 ?_
    rw [rounds_succ]
    go_wp2
    go_ret
    exact ⟨rfl, b1⟩
  by_cases h2 : (l2 : Int) > 64
  case pos =>
    rw [show okD l1 l2 l3 l4 hs rs = false by unfold okD; rw [decide_eq_false (by omega)]; rfl]
    go_enter Try.func11, Try.ntmps11
    go_wp2_with fail
    refine (sizes_any _ _ _ _ _ _ _ _ _ _ _ _ _ k1 k2 k3 k4).mono ?_
    rintro e w1 ⟨rfl, b'⟩
    have b1 := bel_next b0 b'
    have HS1 : Hid (SlI w1 a3 hs ∧ SlI w1 a4 rs) := ⟨HS.out.1.below b', HS.out.2.below b'⟩
    obtain ⟨x0, x1, x2, x3⟩ := (X0.below b').four
    clear b' b0 X0
    go_wp2
    refine wp_loop_rounds 5 ?_
    rw [rounds_succ]
    go_wp2
    rw [rounds_succ]
    go_wp2
    go_ret
    exact ⟨rfl, b1⟩
  by_cases h3 : (l3 : Int) > 64
  case pos =>
    rw [show okD l1 l2 l3 l4 hs rs = false by unfold okD; rw [decide_eq_false (by omega)]; rfl]
    go_enter Try.func11, Try.ntmps11
    go_wp2_with fail
    refine (sizes_any _ _ _ _ _ _ _ _ _ _ _ _ _ k1 k2 k3 k4).mono ?_
    rintro e w1 ⟨rfl, b'⟩
    have b1 := bel_next b0 b'
    have HS1 : Hid (SlI w1 a3 hs ∧ SlI w1 a4 rs) := ⟨HS.out.1.below b', HS.out.2.below b'⟩
    obtain ⟨x0, x1, x2, x3⟩ := (X0.below b').four
    clear b' b0 X0
    go_wp2
    refine wp_loop_rounds 5 ?_
    rw [rounds_succ]
    go_wp2
    rw [rounds_succ]
    go_wp2
    rw [rounds_succ]
    go_wp2
    go_ret
    exact ⟨rfl, b1⟩
  by_cases h4 : (l4 : Int) > 64
  case pos =>
    rw [show okD l1 l2 l3 l4 hs rs = false by unfold okD; rw [decide_eq_false (by omega)]; rfl]
    go_enter Try.func11, Try.ntmps11
    go_wp2_with fail
    refine (sizes_any _ _ _ _ _ _ _ _ _ _ _ _ _ k1 k2 k3 k4).mono ?_
    rintro e w1 ⟨rfl, b'⟩
    have b1 := bel_next b0 b'
    have HS1 : Hid (SlI w1 a3 hs ∧ SlI w1 a4 rs) := ⟨HS.out.1.below b', HS.out.2.below b'⟩
    obtain ⟨x0, x1, x2, x3⟩ := (X0.below b').four
    clear b' b0 X0
    go_wp2
    refine wp_loop_rounds 5 ?_
    rw [rounds_succ]
    go_wp2
    rw [rounds_succ]
    go_wp2
    rw [rounds_succ]
    go_wp2
    rw [rounds_succ]
    go_wp2
    go_ret
    exact ⟨rfl, b1⟩
  have hd : decide (l1 ≤ 64 ∧ l2 ≤ 64 ∧ l3 ≤ 64 ∧ l4 ≤ 64) = true := decide_eq_true (by omega)
  cases e3 : allW hs
  · rw [show okD l1 l2 l3 l4 hs rs = false by unfold okD; rw [hd, e3]; rfl]
    go_enter Try.func11, Try.ntmps11
    go_wp2_with fail
    refine (sizes_any _ _ _ _ _ _ _ _ _ _ _ _ _ k1 k2 k3 k4).mono ?_
    rintro e w1 ⟨rfl, b'⟩
    have b1 := bel_next b0 b'
    have HS1 : Hid (SlI w1 a3 hs ∧ SlI w1 a4 rs) := ⟨HS.out.1.below b', HS.out.2.below b'⟩
    obtain ⟨x0, x1, x2, x3⟩ := (X0.below b').four
    clear b' b0 X0
    go_wp2
    refine wp_loop_rounds 5 ?_
    rw [rounds_succ]
    go_wp2
    rw [rounds_succ]
    go_wp2
    rw [rounds_succ]
    go_wp2
    rw [rounds_succ]
    go_wp2
    rw [rounds_succ]
    go_wp2_with fail
    refine (areWords_any _ _ _ hs _ HN.out.1 HS1.out.1 HN.out.2.2.1 _ e3).mono ?_
    rintro e wx ⟨rfl, rfl⟩
    go_wp2
    go_ret
    exact ⟨rfl, b1⟩
  · cases e4 : allW rs
    · rw [show okD l1 l2 l3 l4 hs rs = false by unfold okD; rw [hd, e3, e4]; rfl]
      go_enter Try.func11, Try.ntmps11
      go_wp2_with fail
      refine (sizes_any _ _ _ _ _ _ _ _ _ _ _ _ _ k1 k2 k3 k4).mono ?_
      rintro e w1 ⟨rfl, b'⟩
      have b1 := bel_next b0 b'
      have HS1 : Hid (SlI w1 a3 hs ∧ SlI w1 a4 rs) := ⟨HS.out.1.below b', HS.out.2.below b'⟩
      obtain ⟨x0, x1, x2, x3⟩ := (X0.below b').four
      clear b' b0 X0
      go_wp2
      refine wp_loop_rounds 5 ?_
      rw [rounds_succ]
      go_wp2
      rw [rounds_succ]
      go_wp2
      rw [rounds_succ]
      go_wp2
      rw [rounds_succ]
      go_wp2
      rw [rounds_succ]
      go_wp2_with fail
      refine (areWords_any _ _ _ hs _ HN.out.1 HS1.out.1 HN.out.2.2.1 _ e3).mono ?_
      rintro e wx ⟨rfl, rfl⟩
      go_wp2_with fail
      refine (areWords_any _ _ _ rs _ HN.out.2.1 HS1.out.2 HN.out.2.2.2 _ e4).mono ?_
      rintro e wx ⟨rfl, rfl⟩
      go_wp2
      go_ret
      exact ⟨rfl, b1⟩
    · rw [show okD l1 l2 l3 l4 hs rs = true by unfold okD; rw [hd, e3, e4]; rfl]
      go_enter Try.func11, Try.ntmps11
      go_wp2_with fail
      refine (sizes_any _ _ _ _ _ _ _ _ _ _ _ _ _ k1 k2 k3 k4).mono ?_
      rintro e w1 ⟨rfl, b'⟩
      have b1 := bel_next b0 b'
      have HS1 : Hid (SlI w1 a3 hs ∧ SlI w1 a4 rs) := ⟨HS.out.1.below b', HS.out.2.below b'⟩
      obtain ⟨x0, x1, x2, x3⟩ := (X0.below b').four
      clear b' b0 X0
      go_wp2
      refine wp_loop_rounds 5 ?_
      rw [rounds_succ]
      go_wp2
      rw [rounds_succ]
      go_wp2
      rw [rounds_succ]
      go_wp2
      rw [rounds_succ]
      go_wp2
      rw [rounds_succ]
      go_wp2_with fail
      refine (areWords_any _ _ _ hs _ HN.out.1 HS1.out.1 HN.out.2.2.1 _ e3).mono ?_
      rintro e wx ⟨rfl, rfl⟩
      go_wp2_with fail
      refine (areWords_any _ _ _ rs _ HN.out.2.1 HS1.out.2 HN.out.2.2.2 _ e4).mono ?_
      rintro e wx ⟨rfl, rfl⟩
      go_wp2
      go_ret
      exact ⟨rfl, b1⟩
def sdB (cs is : List Bool) (hs rs : List Int) (cs2 is2 : List Bool) (hs2 rs2 : List Int) : Bool := decide (cs = cs2) && (decide (is = is2) && (decide (hs = hs2) && decide (rs = rs2)))
set_option maxRecDepth 20000 in
set_option maxHeartbeats 4000000 in
theorem implSame_any (a1 a2 a3 a4 : Option Addr) (l1 l2 l3 l4 c1 c2 c3 c4 : Nat) (x1 x2 x3 x4 : Option Addr) (m1 m2 m3 m4 d1 d2 d3 d4 : Nat) (cs is : List Bool) (hs rs : List Int) (cs2 is2 : List Bool) (hs2 rs2 : List Int) (w : World) (hn : LnD l1 l2 l3 l4 cs is hs rs) (hm : LnD m1 m2 m3 m4 cs2 is2 hs2 rs2) (hs0 : SlD w a1 a2 a3 a4 cs is hs rs) (hx0 : SlD w x1 x2 x3 x4 cs2 is2 hs2 rs2) (hl : SmD 2000000 cs is hs rs) (hl2 : SmD 2000000 cs2 is2 hs2 rs2) (b : Bool) (hb : sdB cs is hs rs cs2 is2 hs2 rs2 = b) :
    Calls Try.prog 10 #[dv a1 a2 a3 a4 l1 l2 l3 l4 c1 c2 c3 c4, dv x1 x2 x3 x4 m1 m2 m3 m4 d1 d2 d3 d4] w fun e w' => e = .returned (.bool b) ∧ Below w.heap.size w w' := by
  subst hb
  obtain ⟨W0, hW0⟩ : ∃ W0, W0 = (w.alloc (.cells #[.slice a1 l1 c1, .slice a2 l2 c2, .slice a3 l3 c3, .slice a4 l4 c4] 27)).alloc (.cells #[.slice x1 m1 d1, .slice x2 m2 d2, .slice x3 m3 d3, .slice x4 m4 d4] 27) := ⟨_, rfl⟩
  have HW : Hid (W0 = _) := hW0
  have b0 : Below w.heap.size w W0 := by rw [hW0]; exact bel_next (bel_alloc w _) (bel_alloc _ _)
  have X0 : Blk W0 w.heap.size 27 #[.slice a1 l1 c1, .slice a2 l2 c2, .slice a3 l3 c3, .slice a4 l4 c4] := by rw [hW0]; exact (Blk.new w _ _).below (bel_alloc _ _)
  have Y0 : Blk W0 (w.heap.size + 1) 27 #[.slice x1 m1 d1, .slice x2 m2 d2, .slice x3 m3 d3, .slice x4 m4 d4] := by rw [hW0]; have := Blk.new (w.alloc (.cells #[.slice a1 l1 c1, .slice a2 l2 c2, .slice a3 l3 c3, .slice a4 l4 c4] 27)) #[.slice x1 m1 d1, .slice x2 m2 d2, .slice x3 m3 d3, .slice x4 m4 d4] 27; simpa using this
  have HS : Hid (LnD l1 l2 l3 l4 cs is hs rs ∧ LnD m1 m2 m3 m4 cs2 is2 hs2 rs2 ∧ SlD w a1 a2 a3 a4 cs is hs rs ∧ SlD w x1 x2 x3 x4 cs2 is2 hs2 rs2 ∧ SmD 2000000 cs is hs rs ∧ SmD 2000000 cs2 is2 hs2 rs2) := ⟨hn, hm, hs0, hx0, hl, hl2⟩
  unfold sdB
  clear hn hm hs0 hx0 hl hl2 hW0
  go_enter Try.func10, Try.ntmps10
  go_upto_region 1 with fail
  rw [← HW.out]
  have cx := X0.cell 0 rfl
  have cy := Y0.cell 0 rfl
  go_wp2_with fail
  refine (equal_bool_any _ _ _ _ _ _ cs cs2 _ HS.out.1.1 HS.out.2.1.1 (HS.out.2.2.1.1.below b0) (HS.out.2.2.2.1.1.below b0) HS.out.2.2.2.2.1.1 HS.out.2.2.2.2.2.1 _ rfl).mono ?_
  rintro e w1 ⟨rfl, b'⟩
  have b1 := bel_next b0 b'
  have X1 := X0.below b'
  have Y1 := Y0.below b'
  clear cx cy X0 Y0 b0 b'
  cases e1 : decide (cs = cs2)
  case false =>
    go_wp2
    go_ret
    exact ⟨by simp [e1], b1⟩
  have cx := X1.cell 1 rfl
  have cy := Y1.cell 1 rfl
  go_wp2_with fail
  refine (equal_bool_any _ _ _ _ _ _ is is2 _ HS.out.1.2.1 HS.out.2.1.2.1 (HS.out.2.2.1.2.1.below b1) (HS.out.2.2.2.1.2.1.below b1) HS.out.2.2.2.2.1.2.1 HS.out.2.2.2.2.2.2.1 _ rfl).mono ?_
  rintro e w2 ⟨rfl, b'⟩
  have b2 := bel_next b1 b'
  have X2 := X1.below b'
  have Y2 := Y1.below b'
  clear cx cy X1 Y1 b1 b'
  cases e2 : decide (is = is2)
  case false =>
    go_wp2
    go_ret
    exact ⟨by simp [e1, e2], b2⟩
  have cx := X2.cell 2 rfl
  have cy := Y2.cell 2 rfl
  go_wp2_with fail
  refine (equal_int_any _ _ _ _ _ _ hs hs2 _ HS.out.1.2.2.1 HS.out.2.1.2.2.1 (HS.out.2.2.1.2.2.1.below b2) (HS.out.2.2.2.1.2.2.1.below b2) HS.out.2.2.2.2.1.2.2.1 HS.out.2.2.2.2.2.2.2.1 _ rfl).mono ?_
  rintro e w3 ⟨rfl, b'⟩
  have b3 := bel_next b2 b'
  have X3 := X2.below b'
  have Y3 := Y2.below b'
  clear cx cy X2 Y2 b2 b'
  cases e3 : decide (hs = hs2)
  case false =>
    go_wp2
    go_ret
    exact ⟨by simp [e1, e2, e3], b3⟩
  have cx := X3.cell 3 rfl
  have cy := Y3.cell 3 rfl
  go_wp2_with fail
  refine (equal_int_any _ _ _ _ _ _ rs rs2 _ HS.out.1.2.2.2 HS.out.2.1.2.2.2 (HS.out.2.2.1.2.2.2.below b3) (HS.out.2.2.2.1.2.2.2.below b3) HS.out.2.2.2.2.1.2.2.2 HS.out.2.2.2.2.2.2.2.2 _ rfl).mono ?_
  rintro e w4 ⟨rfl, b'⟩
  have b4 := bel_next b3 b'
  have X4 := X3.below b'
  have Y4 := Y3.below b'
  clear cx cy X3 Y3 b3 b'
  go_wp2
  go_ret
  exact ⟨by simp [e1, e2, e3], b4⟩
end Go.Proofs.Ytfdddkjonjpgpaa
namespace Go.Proofs.Ytfdddkjonjpgpaa
open Go.RowKit
set_option linter.unusedVariables false
set_option linter.unusedSimpArgs false
def ND (w w' : World) (e : Ending) (cs is : List Bool) (hs rs : List Int) : Prop :=
  ∃ a1 a2 a3 a4 l1 l2 l3 l4 c1 c2 c3 c4, e = .returned (dv a1 a2 a3 a4 l1 l2 l3 l4 c1 c2 c3 c4) ∧ OwnD w' w.heap.size a1 a2 a3 a4 l1 l2 l3 l4 c1 c2 c3 c4 cs is hs rs ∧ Below w.heap.size w w'
theorem inB_yes' {x lo hi : Int} (h : inB x lo hi = true) : lo ≤ x ∧ x ≤ hi := by unfold inB at h; exact of_decide_eq_true h
theorem ownI_nil0 (w : World) (B : Nat) : OwnI w B (.slice none 0 0) [] := ⟨rfl, .inl ⟨rfl, rfl⟩⟩
theorem ownB_nil0 (w : World) (B : Nat) : OwnB w B (.slice none 0 0) [] := ⟨rfl, .inl ⟨rfl, rfl⟩⟩
theorem ownB_at {w : World} {B g m : Nat} (h : w.heap[g]? = some (.cells (madeCells #[.bool false] m) 4 (0, 0))) (hb : B ≤ g) (hm : m ≤ 2000000) : OwnB w B (.slice (some ⟨g, 0, none⟩) m m) (List.replicate m false) := by
  have hr : w.rowIs g 4 m (fun _ => .bool false) := by
    obtain ⟨c, hc, r⟩ := World.rowIs_made ({ w with heap := #[] } : World) (.bool false) m 4
    refine ⟨c, ?_, r⟩
    rw [h]
    exact hc
  exact OwnB.ofRow (hr.congr (fun i hi => by simp [List.getD_eq_getElem?_getD, List.getElem?_replicate, hi])) (by simp) hb (by unfold maxLen; omega)
theorem ownI_at {w : World} {B g m : Nat} (h : w.heap[g]? = some (.cells (madeCells #[.int .i64 0] m) 3 (0, 0))) (hb : B ≤ g) (hm : m ≤ 2000000) : OwnI w B (.slice (some ⟨g, 0, none⟩) m m) (List.replicate m 0) := by
  have hr : w.rowIs g 3 m (fun _ => .int .i64 0) := by
    obtain ⟨c, hc, r⟩ := World.rowIs_made ({ w with heap := #[] } : World) (.int .i64 0) m 3
    refine ⟨c, ?_, r⟩
    rw [h]
    exact hc
  exact OwnI.ofRow (hr.congr (fun i hi => by simp [List.getD_eq_getElem?_getD, List.getElem?_replicate, hi])) (by simp) hb (by unfold maxLen; omega)
theorem heap5 (w : World) (o0 o1 o2 o3 o4 : Obj) (W : World) (hW : W = (((((w.alloc o0).alloc o1).alloc o2).alloc o3).alloc o4).drew) :
    W.heap[w.heap.size + 1]? = some o1 ∧ W.heap[w.heap.size + 1 + 1]? = some o2 ∧ W.heap[w.heap.size + 1 + 1 + 1]? = some o3 ∧ W.heap[w.heap.size + 1 + 1 + 1 + 1]? = some o4 ∧ Below w.heap.size w W := by
  have hb : Below w.heap.size w W := by
    rw [hW]; exact (bel_next (bel_next (bel_next (bel_next (bel_alloc _ _) (bel_alloc _ _)) (bel_alloc _ _)) (bel_alloc _ _)) (bel_alloc _ _)).drew
  have e : W.heap = ((((w.heap.push o0).push o1).push o2).push o3).push o4 := by rw [hW]; rfl
  refine ⟨?_, ?_, ?_, ?_, hb⟩ <;> rw [e] <;> simp only [Array.getElem?_push, Array.size_push] <;> repeat (first | rw [if_pos trivial] | rw [if_pos (by omega)] | rw [if_neg (by omega)])
theorem nd_at {w W : World} {m g1 g2 g3 g4 : Nat} (hm : m ≤ 2000000) (h1 : W.heap[g1]? = some (.cells (madeCells #[.bool false] m) 4 (0, 0))) (h2 : W.heap[g2]? = some (.cells (madeCells #[.bool false] m) 4 (0, 0))) (h3 : W.heap[g3]? = some (.cells (madeCells #[.int .i64 0] m) 3 (0, 0))) (h4 : W.heap[g4]? = some (.cells (madeCells #[.int .i64 0] m) 3 (0, 0)))
    (q : w.heap.size ≤ g1 ∧ w.heap.size ≤ g2 ∧ w.heap.size ≤ g3 ∧ w.heap.size ≤ g4 ∧ g1 ≠ g2 ∧ g3 ≠ g4) (hb : Below w.heap.size w W) :
    ND w W (.returned (dv (some ⟨g1, 0, none⟩) (some ⟨g2, 0, none⟩) (some ⟨g3, 0, none⟩) (some ⟨g4, 0, none⟩) m m m m m m m m)) (List.replicate m false) (List.replicate m false) (List.replicate m 0) (List.replicate m 0) :=
  ⟨_, _, _, _, _, _, _, _, _, _, _, _, rfl, ⟨ownB_at h1 q.1 hm, ownB_at h2 q.2.1 hm, ownI_at h3 q.2.2.1 hm, ownI_at h4 q.2.2.2.1 hm, .inr (.inr (by simp [Value.ownBlock]; exact q.2.2.2.2.1)), .inr (.inr (by simp [Value.ownBlock]; exact q.2.2.2.2.2))⟩, hb⟩
def dnN (n : Int) : Nat := if 0 ≤ n ∧ n ≤ 64 then n.toNat else 0
abbrev NDn (w w' : World) (e : Ending) (m : Nat) : Prop := ND w w' e (List.replicate m false) (List.replicate m false) (List.replicate m 0) (List.replicate m 0)
end Go.Proofs.Ytfdddkjonjpgpaa
namespace Go.Proofs.Ytfdddkjonjpgpaa
open Go.RowKit
set_option linter.unusedVariables false
abbrev rp (kd fl pl nn : Int) (a1 a2 : Option Addr) (l1 l2 c1 c2 : Nat) : Value := .agg #[.int .i64 kd, .int .i64 fl, .int .i64 pl, .int .i64 nn, .slice a1 l1 c1, .slice a2 l2 c2]
theorem rowp_set6 {w : World} {base size n g : Nat} {e t : TypeId} {v v0 v1 v2 v3 v4 v5 : Value} {xs : List Value} (h : w.ownsRow base e size v n xs) (hb : ExB w g t) (ht : t ≠ e) :
    ((((((w.setCell ⟨g, 0, none⟩ v0).setCell ⟨g, 1, none⟩ v1).setCell ⟨g, 2, none⟩ v2).setCell ⟨g, 3, none⟩ v3).setCell ⟨g, 4, none⟩ v4).setCell ⟨g, 5, none⟩ v5).ownsRow base e size v n xs :=
  row_setE (row_setE (row_setE (row_setE (row_setE (row_setE h hb ht) (ExB.set hb) ht) (ExB.set (ExB.set hb)) ht) (ExB.set (ExB.set (ExB.set hb))) ht) (ExB.set (ExB.set (ExB.set (ExB.set hb)))) ht) (ExB.set (ExB.set (ExB.set (ExB.set (ExB.set hb))))) ht
theorem belp_set6 {B : Nat} {W w : World} {g : Nat} {v0 v1 v2 v3 v4 v5 : Value} (hb : Below B W w) (hg : B ≤ g) :
    Below B W ((((((w.setCell ⟨g, 0, none⟩ v0).setCell ⟨g, 1, none⟩ v1).setCell ⟨g, 2, none⟩ v2).setCell ⟨g, 3, none⟩ v3).setCell ⟨g, 4, none⟩ v4).setCell ⟨g, 5, none⟩ v5) :=
  (((((hb.setCell (p := ⟨g, 0, none⟩) hg _).setCell (p := ⟨g, 1, none⟩) hg _).setCell (p := ⟨g, 2, none⟩) hg _).setCell (p := ⟨g, 3, none⟩) hg _).setCell (p := ⟨g, 4, none⟩) hg _).setCell (p := ⟨g, 5, none⟩) hg _
end Go.Proofs.Ytfdddkjonjpgpaa
