/- Texts that the proof needs, joined: Bys0 ArgS Bys Marks Ios ArgQ ArgP ArgX Bos Req1 Wr1 Resp1 WordAt1 Q1 Q2 Q3 Q4 Q5 Q6 Bits. -/
import Derived.Test.YtohikbpolofklaaChecked
import Derived.WalkKit
import Derived.Deep.OwnRows
import Derived.Deep.QuietTactic
import Derived.BigQuiet
import Derived.ProofKit
import Derived.OpenShut
import Derived.Deep.Grids
import Derived.Lib.SmallJoins
import Derived.Deep.Cut
import Derived.Deep.CutRange
import Derived.Deep.DeepCutAuto
import Derived.Deep.RegionWith
namespace Go.Proofs.Ytohikbpolofklaa
open Go.RowKit
def Sl (w : World) (a : Option Addr) (zs : List Int) : Prop :=
  zs = [] ∨ ∃ b off, a = some ⟨b, off, none⟩ ∧ b < w.heap.size ∧ ∀ i, i < zs.length → w.cell? ⟨b, off + i, none⟩ = some (.int .u8 (zs.getD i 0))
theorem Sl.below {w w' : World} {a : Option Addr} {zs : List Int} (h : Sl w a zs) (hb : Below w.heap.size w w') : Sl w' a zs := by
  rcases h with h | ⟨b, off, ha, hlt, hc⟩
  · exact .inl h
  · exact .inr ⟨b, off, ha, by have := hb.size; omega, fun i hi => by rw [hb.cell (p := ⟨b, off + i, none⟩) hlt]; exact hc i hi⟩
theorem cell_at {w : World} {a : Option Addr} {zs : List Int} (hs : Sl w a zs) {k : Nat} (hlt : k < zs.length) : ∃ b off, a = some ⟨b, off, none⟩ ∧ b < w.heap.size ∧ w.cell? ⟨b, off + k, none⟩ = some (.int .u8 (zs.getD k 0)) := by
  rcases hs with hs | ⟨b, off, h1, h2, h3⟩
  · rw [hs] at hlt; simp at hlt
  · exact ⟨b, off, h1, h2, h3 k hlt⟩
theorem bel_drewN {B : Nat} {a w : World} (h : Below B a w) (n : Nat) : Below B a (w.drewN n) := h.trans ⟨rfl, rfl, rfl, Nat.le_refl _, fun _ _ => rfl⟩
theorem Try.info5 : (Try.prog.info? 5).map (fun i => (i.zero, i.size, i.bytes)) = some (some (.int .u8 0), 1, 1) := by kernel_rfl
def Own (w : World) (base : Nat) (v : Value) (zs : List Int) : Prop := w.ownsRow base 5 1 v zs.length (zs.map (Value.int .u8))
theorem Own.sl {w : World} {base n cap : Nat} {a : Option Addr} {zs : List Int} (h : Own w base (.slice a n cap) zs) : n = zs.length ∧ Sl w a zs := by
  obtain ⟨_, h2⟩ := h
  rcases h2 with ⟨h2, h3⟩ | ⟨g, cap', cur, hv, _, hh, hle, _, hs, ht⟩
  · have e : zs = [] := List.eq_nil_of_length_eq_zero h3
    simp only [Value.slice.injEq] at h2
    exact ⟨by rw [h3]; exact h2.2.1, .inl e⟩
  · simp only [Value.slice.injEq] at hv
    refine ⟨hv.2.1, .inr ⟨g, 0, hv.1, (Array.getElem?_eq_some_iff.1 hh).1, fun i hi => ?_⟩⟩
    have e1 : cur.toList[i]? = some (.int .u8 (zs.getD i 0)) := by
      have e2 : (cur.toList.take (zs.length * 1))[i]? = (zs.map (Value.int .u8))[i]? := by rw [ht]
      rw [List.getElem?_take, if_pos (by omega)] at e2
      rw [e2]
      simp [hi]
    simp only [World.cell?, hh, Nat.zero_add]
    rw [Array.getElem?_toList] at e1
    exact e1
theorem Own.lt {w : World} {base n cap : Nat} {a : Option Addr} {zs : List Int} (h : Own w base (.slice a n cap) zs) : ∀ k, (Value.slice a n cap).ownBlock = some k → base ≤ k ∧ k < w.heap.size := World.ownsRow.lt h
theorem Own.kept {w w' : World} {base : Nat} {v : Value} {row : Option Nat} {zs : List Int} (h : Own w base v zs) (hg : w.grownBy w' row) (hne : v.ownBlock = none ∨ v.ownBlock ≠ row) : Own w' base v zs := World.ownsRow.kept h hg hne
theorem grown_below {w w' : World} (hb : Below w.heap.size w w') (row : Option Nat) : w.grownBy w' row := ⟨hb.os, hb.tape, hb.output, hb.size, fun k hk _ => hb.block k hk⟩
theorem Own.below {w w' : World} {base : Nat} {v : Value} {zs : List Int} (h : Own w base v zs) (hb : Below w.heap.size w w') : Own w' base v zs := by
  refine h.kept (grown_below hb (some w.heap.size)) ?_
  cases e : v.ownBlock with
  | none => exact .inl rfl
  | some k => exact .inr (fun e2 => by have := (World.ownsRow.lt h k e).2; simp at e2; omega)
theorem Own.ofRow {w : World} {base b n : Nat} {zs : List Int} (h : w.rowIs b 5 n (fun i => .int .u8 (zs.getD i 0))) (hn : n = zs.length) (hb : base ≤ b) (hm : n ≤ maxLen) : Own w base (.slice (some ⟨b, 0, none⟩) n n) zs := by
  subst hn
  obtain ⟨c, hc, hsz, hcell⟩ := h
  refine ⟨by simp, .inr ⟨b, zs.length, c, rfl, hb, hc, Nat.le_refl _, hm, by simpa using hsz, ?_⟩⟩
  apply List.ext_getElem?
  intro i
  by_cases hi : i < zs.length
  · rw [List.getElem?_take, if_pos (by omega), Array.getElem?_toList, hcell i hi]
    simp [hi]
  · rw [List.getElem?_eq_none (by simp; omega), List.getElem?_eq_none (by simp; omega)]
end Go.Proofs.Ytohikbpolofklaa
namespace Go.Proofs.Ytohikbpolofklaa
open Go.ChangeShapes Go.WideShapes Go.ChangeAt Go.RowKit Go.Deep Go.Joins
def InBys (w : World) (a : Option Addr) (len : Nat) (zs : List Int) : Prop := zs.length = len ∧ len ≤ maxLen ∧ Sl w a zs ∧ ∀ n ∈ zs, 0 ≤ n ∧ n ≤ 255
def SlB (w : World) (a : Option Addr) (zs : List Bool) : Prop :=
  zs = [] ∨ ∃ b off, a = some ⟨b, off, none⟩ ∧ b < w.heap.size ∧ ∀ i, i < zs.length → w.cell? ⟨b, off + i, none⟩ = some (.bool (zs.getD i false))
def InBos (w : World) (a : Option Addr) (len : Nat) (zs : List Bool) : Prop := zs.length = len ∧ SlB w a zs
theorem inBys_of {w : World} {x : Addr} {len cap : Nat} {z : List Int} (hl : len ≤ cap) (hm : cap ≤ maxLen) (hz : z.length = cap) (hcell : ∀ i, i < z.length → w.cell? (x.add i) = some (.int .u8 (z.getD i 0)))
    (hwz : ∀ n ∈ z, (Lit.int .u8 n).wf = true) : ∃ zs : List Int, InBys w (some x) len zs := by
  refine ⟨z.take len, by simp; omega, by omega, ?_, fun n hn => bounds_u8 (hwz n (List.mem_of_mem_take hn))⟩
  by_cases h0 : len = 0
  · subst h0; exact .inl (by simp)
  · obtain ⟨b, off, spot⟩ := x
    have hc := hcell 0 (by omega)
    have hspot : spot = none := by simpa [Addr.add] using World.cell?_spot hc
    subst hspot
    refine .inr ⟨b, off, rfl, World.block_lt_of_cell? _ _ hc, fun i hi => ?_⟩
    simp only [List.length_take] at hi
    have := hcell i (by omega)
    rw [List.getD_eq_getElem?_getD, List.getElem?_take, if_pos (by omega), ← List.getD_eq_getElem?_getD]
    by_cases e : i = 0
    · subst e; simpa [Addr.add] using this
    · simpa [Addr.add, e] using this
theorem inBos_of {w : World} {x : Addr} {len cap : Nat} {B : Nat → Bool} (hl : len ≤ cap) (hcell : ∀ i, i < cap → w.cell? (x.add i) = some (.bool (B i))) : ∃ zs : List Bool, InBos w (some x) len zs := by
  refine ⟨(List.range len).map B, by simp, ?_⟩
  by_cases h0 : len = 0
  · subst h0; exact .inl (by simp)
  · obtain ⟨b, off, spot⟩ := x
    have hc := hcell 0 (by omega)
    have hspot : spot = none := by simpa [Addr.add] using World.cell?_spot hc
    subst hspot
    refine .inr ⟨b, off, rfl, World.block_lt_of_cell? _ _ hc, fun i hi => ?_⟩
    simp only [List.length_map, List.length_range] at hi
    have := hcell i (by omega)
    have e2 : ((List.range len).map B).getD i false = B i := by simp [hi]
    rw [e2]
    by_cases e : i = 0
    · subst e; simpa [Addr.add] using this
    · simpa [Addr.add, e] using this
section
variable {H : Type} {enc : TypeId × Value → H} {P : Program} {w : World} {base : Nat} {held : Bool}
theorem opened_bys {t e : TypeId} {fuel : Nat} {a : Option Addr} {len cap : Nat} {x : DataW H × List MemPlace} (ht : P.underlying t = some (.slice e)) (he : P.underlying e = some (.int .u8)) (hc : P.cellsOf e = 1)
    (hf : DataW.trod enc P w base (fun _ => true) held fuel t [.slice a len cap] = some x) : ∃ zs : List Int, InBys w a len zs := by
  rcases open_ints ht he hc hf with ⟨hcs, _⟩ | ⟨x, l, c, zs, hcs, _, hl, hm, hz, _, hcell, hwz⟩
  · simp at hcs
    obtain ⟨rfl, rfl, rfl⟩ := hcs
    exact ⟨[], rfl, Nat.zero_le _, .inl rfl, fun n hn => by cases hn⟩
  · simp at hcs
    obtain ⟨rfl, rfl, rfl⟩ := hcs
    exact inBys_of hl hm (by simpa using hz) hcell hwz
theorem opened_bos {t e : TypeId} {fuel : Nat} {a : Option Addr} {len cap : Nat} {x : DataW H × List MemPlace} (ht : P.underlying t = some (.slice e)) (he : P.underlying e = some .bool) (hc : P.cellsOf e = 1)
    (hf : DataW.trod enc P w base (fun _ => true) held fuel t [.slice a len cap] = some x) : ∃ zs : List Bool, InBos w a len zs := by
  rcases open_bools ht he hc hf with ⟨hcs, _⟩ | ⟨x, l, c, B, hcs, _, hl, hm, _, hcell⟩
  · simp at hcs
    obtain ⟨rfl, rfl, rfl⟩ := hcs
    exact ⟨[], rfl, .inl rfl⟩
  · simp at hcs
    obtain ⟨rfl, rfl, rfl⟩ := hcs
    exact inBos_of hl hcell
end
end Go.Proofs.Ytohikbpolofklaa
namespace Go.Proofs.Ytohikbpolofklaa
open Go.RowKit
set_option maxHeartbeats 1000000 in
theorem toByteS_any (a : Option Addr) (n cap : Nat) (zs : List Int) (w : World) (hn : n = zs.length) (hs : Sl w a zs) (hl : zs.length ≤ 2000000) :
    Calls Try.prog 19 #[.slice a n cap] w fun e w' => e = .returned (.slice (some ⟨w.heap.size, 0, none⟩) n n) ∧
      w'.rowIs w.heap.size 5 n (fun i => .int .u8 (zs.getD i 0)) ∧ Below w.heap.size w w' := by
  subst hn
  have hmk := run_make_row' (P := Try.prog) 22 5 (.int .u8 0) 1 Try.underlying22 Try.info5 rfl .i64 .i64 zs.length (by omega) (by omega)
  go_enter Try.func19, Try.ntmps19
  go_wp2
  clear hmk
  go_loopw [4] (fun i wr => ∃ k : Nat, k ≤ zs.length ∧ i = .int .i64 k ∧ wr.rowIs w.heap.size 5 zs.length (fun i => if i < k then .int .u8 (zs.getD i 0) else .int .u8 0) ∧ Below w.heap.size w wr) (fun i _ => zs.length - (intOf i).toNat)
  case atStart => exact ⟨0, Nat.zero_le _, rfl, (World.rowIs_made w _ _ _).congr (fun i _ => by simp), (Below.refl _ _).alloc (Nat.le_refl _) _⟩
  case round =>
    obtain ⟨k, hk, rfl, hrow, hb⟩ := hrel
    by_cases hlt : k < zs.length
    · obtain ⟨b, off, rfl, hb0, hc0⟩ := cell_at hs hlt
      have hc : wr.cell? ⟨b, off + k, none⟩ = some (.int .u8 (zs.getD k 0)) := by rw [hb.cell (p := ⟨b, off + k, none⟩) hb0]; exact hc0
      have hst := hrow.cell hlt
      simp only [Nat.lt_irrefl, if_false] at hst
      have hfz := hrow.frozen k
      have hi : (k : Int) < (zs.length : Int) := by omega
      have R : Hid ((wr.setCell ⟨w.heap.size, k, none⟩ (.int .u8 (zs.getD k 0))).rowIs w.heap.size 5 zs.length (fun i => if i < k + 1 then .int .u8 (zs.getD i 0) else .int .u8 0)) := by
        refine (hrow.set k _).congr (fun i _ => ?_)
        by_cases e : i = k
        · subst e; simp
        · rw [if_neg e]
          by_cases h : i < k
          · rw [if_pos h, if_pos (by omega)]
          · rw [if_neg h, if_neg (by omega)]
      have B1 : Below w.heap.size w (wr.setCell ⟨w.heap.size, k, none⟩ (.int .u8 (zs.getD k 0))) := hb.setCell (Nat.le_refl _) _
      clear hrow hb hc0 hs
      go_wp2
      go_roundw
      case rel => exact ⟨k + 1, by omega, by go_num, by simpa [hlt] using R.out, by simpa [hlt] using B1⟩
      case measure => simp [intOf]; omega
    · have hkk : k = zs.length := by omega
      have R : Hid (wr.rowIs w.heap.size 5 zs.length (fun i => .int .u8 (zs.getD i 0))) := hrow.congr (fun i hi => by rw [if_pos (by omega)])
      clear hrow hs hkk
      go_wp2
      go_ret
      exact ⟨rfl, R.out, hb⟩
set_option maxHeartbeats 1000000 in
theorem eqByteS_true (a a' : Option Addr) (n n' cap cap' : Nat) (zs : List Int) (w : World) (hn : n = zs.length) (hn' : n' = zs.length) (hs : Sl w a zs) (hs' : Sl w a' zs) (hl : zs.length ≤ 2000000) :
    Calls Try.prog 23 #[.slice a n cap, .slice a' n' cap'] w fun e w' => e = .returned (.bool true) ∧ ∃ n, w' = w.drewN n := by
  subst hn hn'
  go_enter Try.func23, Try.ntmps23
  go_wp2
  go_loopw [5] (fun i wr => ∃ k : Nat, k ≤ zs.length ∧ i = .int .i64 k ∧ ∃ n, wr = w.drewN n) (fun i _ => zs.length - (intOf i).toNat)
  case atStart => exact ⟨0, Nat.zero_le _, rfl, 0, rfl⟩
  case round =>
    obtain ⟨k, hk, rfl, n, rfl⟩ := hrel
    by_cases hlt : k < zs.length
    · obtain ⟨b, off, rfl, _, hc⟩ := cell_at hs hlt
      obtain ⟨b', off', rfl, _, hc'⟩ := cell_at hs' hlt
      have hi : (k : Int) < (zs.length : Int) := by omega
      clear hs hs'
      go_wp2
      go_quiet (fail)
      go_wp2
      go_roundw
      case rel => exact ⟨k + 1, by omega, by go_num, _, rfl⟩
      case measure => simp [intOf]; omega
    · clear hs hs'
      go_wp2
      go_ret
      exact ⟨rfl, _, rfl⟩
end Go.Proofs.Ytohikbpolofklaa
namespace Go.Proofs.Ytohikbpolofklaa
open Go.RowKit
def marks (n : Nat) : List Int := (List.range n).map (fun i : Nat => ((i : Int) + 1) % 256)
theorem marks_length (n : Nat) : (marks n).length = n := by simp [marks]
theorem marks_get (n i : Nat) (h : i < n) : (marks n).getD i 0 = ((i : Int) + 1) % 256 := by simp [marks, h]
theorem Own.cells {w : World} {base n cap : Nat} {a : Option Addr} {zs : List Int} (h : Own w base (.slice a n cap) zs) (hn : 0 < n) :
    ∃ g cur, a = some ⟨g, 0, none⟩ ∧ base ≤ g ∧ g < w.heap.size ∧ w.heap[g]? = some (.cells cur 5 (0, 0)) ∧ n ≤ cap ∧ cap ≤ maxLen ∧ cur.size = cap := by
  obtain ⟨_, h2⟩ := h
  rcases h2 with ⟨h2, h3⟩ | ⟨g, cap', cur, hv, hb, hh, hle, hm, hs, _⟩
  · simp only [Value.slice.injEq] at h2; omega
  · simp only [Value.slice.injEq] at hv
    obtain ⟨rfl, h4, rfl⟩ := hv
    exact ⟨g, cur, rfl, hb, (Array.getElem?_eq_some_iff.1 hh).1, hh, by omega, hm, by simpa using hs⟩
def Marked (w wr : World) (g cap k : Nat) : Prop :=
  w.grownBy wr (some g) ∧ ∃ cur, wr.heap[g]? = some (.cells cur 5 (0, 0)) ∧ cur.size = cap ∧ ∀ i, i < k → cur[i]? = some (.int .u8 (((i : Int) + 1) % 256))
theorem marked_step {w wr : World} {g cap k : Nat} (h : Marked w wr g cap k) (hk : k < cap) : Marked w (wr.setCell ⟨g, k, none⟩ (.int .u8 (((k : Int) + 1) % 256))) g cap (k + 1) := by
  obtain ⟨hg, cur, hh, hs, hc⟩ := h
  refine ⟨⟨hg.os, hg.tape, hg.output, by simpa [World.setCell] using hg.size, fun j hj hne => ?_⟩, cur.setIfInBounds k (.int .u8 (((k : Int) + 1) % 256)), by simp [World.setCell, Array.getElem?_modify, hh], by simpa using hs, fun i hi => ?_⟩
  · rw [Below.heap_setCell _ _ _ _ (fun e => hne (by simpa using e))]; exact hg.block j hj hne
  · rw [Array.getElem?_setIfInBounds]
    by_cases e : i = k
    · subst e; rw [if_pos rfl, if_pos (by omega)]
    · rw [if_neg (fun h => e h.symm)]; exact hc i (by omega)
theorem marked_cell {w wr : World} {g cap k : Nat} (h : Marked w wr g cap k) (hk : k < cap) : (∃ v, wr.cell? ⟨g, k, none⟩ = some v) ∧ wr.frozen? ⟨g, k, none⟩ = false := by
  obtain ⟨_, cur, hh, hs, _⟩ := h
  refine ⟨⟨cur[k]'(by omega), ?_⟩, by simp [World.frozen?, hh]⟩
  simp [World.cell?, hh, hs, hk]
theorem marked_done {w wr : World} {base g n cap : Nat} (h : Marked w wr g cap n) (hb : base ≤ g) (hn : n ≤ cap) (hm : cap ≤ maxLen) : Own wr base (.slice (some ⟨g, 0, none⟩) n cap) (marks n) := by
  obtain ⟨_, cur, hh, hs, hc⟩ := h
  refine ⟨by simp, .inr ⟨g, cap, cur, by rw [marks_length], hb, hh, by rw [marks_length]; exact hn, hm, by simpa using hs, ?_⟩⟩
  rw [marks_length, Nat.mul_one]
  apply List.ext_getElem?
  intro i
  by_cases hi : i < n
  · rw [List.getElem?_take, if_pos hi, Array.getElem?_toList, hc i hi]
    simp [marks, hi]
  · rw [List.getElem?_eq_none (by simp; omega), List.getElem?_eq_none (by simp [marks]; omega)]
set_option maxHeartbeats 1000000 in
theorem markByteS_any (a : Option Addr) (n cap base : Nat) (zs : List Int) (w : World) (h : Own w base (.slice a n cap) zs) (hl : n ≤ 3000000) :
    Calls Try.prog 26 #[.slice a n cap, .int .i64 1] w fun e w' => e = .returned (.int .i64 ((n : Int) + 1)) ∧ Own w' base (.slice a n cap) (marks n) ∧ w.grownBy w' (Value.slice a n cap).ownBlock := by
  by_cases h0 : n = 0
  · subst h0
    have e : zs = [] := List.eq_nil_of_length_eq_zero h.sl.1.symm
    subst e
    have h' : Own w base (.slice a 0 cap) (marks 0) := h
    go_enter Try.func26, Try.ntmps26
    go_wp2
    refine wp_loop_rounds 1 ?_
    rw [rounds_succ]
    go_wp2
    go_ret
    exact ⟨rfl, h', World.grownBy.refl _ _⟩
  · obtain ⟨g, cur, rfl, hb, hgl, hh, hle, hm, hs⟩ := h.cells (by omega)
    have M0 : Marked w w g cap 0 := ⟨World.grownBy.refl _ _, cur, hh, hs, fun i hi => absurd hi (Nat.not_lt_zero _)⟩
    clear hh h
    go_enter Try.func26, Try.ntmps26
    go_wp2
    go_loopw [1, 5] (fun kk i wr => ∃ k : Nat, k ≤ n ∧ i = .int .i64 k ∧ kk = .int .i64 ((k : Int) + 1) ∧ Marked w wr g cap k) (fun _ i _ => n - (intOf i).toNat)
    case atStart => exact ⟨0, Nat.zero_le _, rfl, rfl, M0⟩
    case round =>
      obtain ⟨k, hk, rfl, rfl, hM⟩ := hrel
      by_cases hlt : k < n
      · obtain ⟨⟨v, hc⟩, hf⟩ := marked_cell hM (by omega)
        have hM1 := marked_step hM (by omega)
        have hi : (k : Int) < (n : Int) := by omega
        clear hM M0
        go_wp2
        go_roundw
        case rel => exact ⟨k + 1, by omega, by go_num, by go_num, hM1⟩
        case measure => simp [intOf]; omega
      · obtain rfl : k = n := by omega
        have hD := marked_done hM hb hle hm
        have hG : Hid (w.grownBy wr (some g)) := hM.1
        clear hM M0
        go_wp2
        go_ret
        exact ⟨rfl, hD, hG.out⟩
set_option maxHeartbeats 1000000 in
theorem heldByteS_any (a : Option Addr) (n cap : Nat) (w : World) (hs : Sl w a (marks n)) (hl : n ≤ 3000000) :
    Calls Try.prog 29 #[.slice a n cap, .int .i64 1] w fun e w' => e = .returned (.int .i64 ((n : Int) + 1)) ∧ w' = w := by
  have ml := marks_length n
  go_enter Try.func29, Try.ntmps29
  go_wp2
  go_loop [1, 5] (fun kk i => ∃ k : Nat, k ≤ n ∧ i = .int .i64 k ∧ kk = .int .i64 ((k : Int) + 1)) (fun _ i => n - (intOf i).toNat)
  case atStart => exact ⟨0, Nat.zero_le _, rfl, rfl⟩
  case round =>
    obtain ⟨k, hk, rfl, rfl⟩ := hrel
    by_cases hlt : k < n
    · obtain ⟨b, off, rfl, _, hc⟩ := cell_at hs (k := k) (by omega)
      rw [marks_get n k hlt] at hc
      have hi : (k : Int) < (n : Int) := by omega
      clear hs ml
      go_wp2
      go_round
      case rel => exact ⟨k + 1, by omega, by go_num, by go_num⟩
      case measure => simp [intOf]; omega
    · obtain rfl : k = n := by omega
      clear hs ml
      go_wp2
      go_ret
      exact ⟨rfl, rfl⟩
theorem own_ne {w1 w2 : World} {b1 b2 : Nat} {v1 v2 : Value} {z1 z2 : List Int} (h1 : Own w1 b1 v1 z1) (h2 : Own w2 b2 v2 z2) (hb : w1.heap.size ≤ b2) :
    (v1.ownBlock = none ∨ v1.ownBlock ≠ v2.ownBlock) ∧ (v2.ownBlock = none ∨ v2.ownBlock ≠ v1.ownBlock) := by
  have key : ∀ k, v1.ownBlock = some k → v2.ownBlock = some k → False := fun k e e2 => by
    have a := (World.ownsRow.lt h1 k e).2
    have b := (World.ownsRow.lt h2 k e2).1
    omega
  constructor
  · cases e : v1.ownBlock with
    | none => exact .inl rfl
    | some k => exact .inr (fun e2 => key k e e2.symm)
  · cases e : v2.ownBlock with
    | none => exact .inl rfl
    | some k => exact .inr (fun e2 => key k e2.symm e)
theorem drew_refl (w : World) (n : Nat) : Below w.heap.size w (w.drewN n) := bel_drewN (Below.refl _ _) n
theorem below_own {B : Nat} {w0 w w' : World} {base : Nat} {v : Value} {zs : List Int} (hb : Below B w0 w) (h : Own w base v zs) (hg : w.grownBy w' v.ownBlock) (h1 : B ≤ base) (h2 : B ≤ w.heap.size) : Below B w0 w' :=
  hb.grown hg h2 (fun k hk => by have := (World.ownsRow.lt h k hk).1; omega)
theorem hide {p : Prop} (h : p) : Hid p := h
end Go.Proofs.Ytohikbpolofklaa
namespace Go.Proofs.Ytohikbpolofklaa
open Go.RowKit
def SlI (w : World) (a : Option Addr) (zs : List Int) : Prop :=
  zs = [] ∨ ∃ b off, a = some ⟨b, off, none⟩ ∧ b < w.heap.size ∧ ∀ i, i < zs.length → w.cell? ⟨b, off + i, none⟩ = some (.int .i64 (zs.getD i 0))
theorem SlI.below {w w' : World} {a : Option Addr} {zs : List Int} (h : SlI w a zs) (hb : Below w.heap.size w w') : SlI w' a zs := by
  rcases h with h | ⟨b, off, ha, hlt, hc⟩
  · exact .inl h
  · exact .inr ⟨b, off, ha, by have := hb.size; omega, fun i hi => by rw [hb.cell (p := ⟨b, off + i, none⟩) hlt]; exact hc i hi⟩
theorem cell_atI {w : World} {a : Option Addr} {zs : List Int} (hs : SlI w a zs) {k : Nat} (hlt : k < zs.length) : ∃ b off, a = some ⟨b, off, none⟩ ∧ b < w.heap.size ∧ w.cell? ⟨b, off + k, none⟩ = some (.int .i64 (zs.getD k 0)) := by
  rcases hs with hs | ⟨b, off, h1, h2, h3⟩
  · rw [hs] at hlt; simp at hlt
  · exact ⟨b, off, h1, h2, h3 k hlt⟩
def OwnI (w : World) (base : Nat) (v : Value) (zs : List Int) : Prop := w.ownsRow base 3 1 v zs.length (zs.map (Value.int .i64))
theorem OwnI.sl {w : World} {base n cap : Nat} {a : Option Addr} {zs : List Int} (h : OwnI w base (.slice a n cap) zs) : n = zs.length ∧ SlI w a zs := by
  obtain ⟨_, h2⟩ := h
  rcases h2 with ⟨h2, h3⟩ | ⟨g, cap', cur, hv, _, hh, hle, _, hs, ht⟩
  · have e : zs = [] := List.eq_nil_of_length_eq_zero h3
    simp only [Value.slice.injEq] at h2
    exact ⟨by rw [h3]; exact h2.2.1, .inl e⟩
  · simp only [Value.slice.injEq] at hv
    refine ⟨hv.2.1, .inr ⟨g, 0, hv.1, (Array.getElem?_eq_some_iff.1 hh).1, fun i hi => ?_⟩⟩
    have e1 : cur.toList[i]? = some (.int .i64 (zs.getD i 0)) := by
      have e2 : (cur.toList.take (zs.length * 1))[i]? = (zs.map (Value.int .i64))[i]? := by rw [ht]
      rw [List.getElem?_take, if_pos (by omega)] at e2
      rw [e2]
      simp [hi]
    simp only [World.cell?, hh, Nat.zero_add]
    rw [Array.getElem?_toList] at e1
    exact e1
theorem OwnI.kept {w w' : World} {base : Nat} {v : Value} {row : Option Nat} {zs : List Int} (h : OwnI w base v zs) (hg : w.grownBy w' row) (hne : v.ownBlock = none ∨ v.ownBlock ≠ row) : OwnI w' base v zs := World.ownsRow.kept h hg hne
theorem OwnI.below {w w' : World} {base : Nat} {v : Value} {zs : List Int} (h : OwnI w base v zs) (hb : Below w.heap.size w w') : OwnI w' base v zs := by
  refine h.kept (grown_below hb (some w.heap.size)) ?_
  cases e : v.ownBlock with
  | none => exact .inl rfl
  | some k => exact .inr (fun e2 => by have := (World.ownsRow.lt h k e).2; simp at e2; omega)
theorem OwnI.ofRow {w : World} {base b n : Nat} {zs : List Int} (h : w.rowIs b 3 n (fun i => .int .i64 (zs.getD i 0))) (hn : n = zs.length) (hb : base ≤ b) (hm : n ≤ maxLen) : OwnI w base (.slice (some ⟨b, 0, none⟩) n n) zs := by
  subst hn
  obtain ⟨c, hc, hsz, hcell⟩ := h
  refine ⟨by simp, .inr ⟨b, zs.length, c, rfl, hb, hc, Nat.le_refl _, hm, by simpa using hsz, ?_⟩⟩
  apply List.ext_getElem?
  intro i
  by_cases hi : i < zs.length
  · rw [List.getElem?_take, if_pos (by omega), Array.getElem?_toList, hcell i hi]
    simp [hi]
  · rw [List.getElem?_eq_none (by simp; omega), List.getElem?_eq_none (by simp; omega)]
theorem Try.infoI3 : (Try.prog.info? 3).map (fun i => (i.zero, i.size, i.bytes)) = some (some (.int .i64 0), 1, 8) := by kernel_rfl
set_option maxHeartbeats 1000000 in
theorem toIntS_any (a : Option Addr) (n cap : Nat) (zs : List Int) (w : World) (hn : n = zs.length) (hs : SlI w a zs) (hl : zs.length ≤ 2000000) :
    Calls Try.prog 20 #[.slice a n cap] w fun e w' => e = .returned (.slice (some ⟨w.heap.size, 0, none⟩) n n) ∧
      w'.rowIs w.heap.size 3 n (fun i => .int .i64 (zs.getD i 0)) ∧ Below w.heap.size w w' := by
  subst hn
  have hmk := run_make_row' (P := Try.prog) 25 3 (.int .i64 0) 8 Try.underlying25 Try.infoI3 rfl .i64 .i64 zs.length (by omega) (by omega)
  go_enter Try.func20, Try.ntmps20
  go_wp2
  clear hmk
  go_loopw [4] (fun i wr => ∃ k : Nat, k ≤ zs.length ∧ i = .int .i64 k ∧ wr.rowIs w.heap.size 3 zs.length (fun i => if i < k then .int .i64 (zs.getD i 0) else .int .i64 0) ∧ Below w.heap.size w wr) (fun i _ => zs.length - (intOf i).toNat)
  case atStart => exact ⟨0, Nat.zero_le _, rfl, (World.rowIs_made w _ _ _).congr (fun i _ => by simp), (Below.refl _ _).alloc (Nat.le_refl _) _⟩
  case round =>
    obtain ⟨k, hk, rfl, hrow, hb⟩ := hrel
    by_cases hlt : k < zs.length
    · obtain ⟨b, off, rfl, hb0, hc0⟩ := cell_atI hs hlt
      have hc : wr.cell? ⟨b, off + k, none⟩ = some (.int .i64 (zs.getD k 0)) := by rw [hb.cell (p := ⟨b, off + k, none⟩) hb0]; exact hc0
      have hst := hrow.cell hlt
      simp only [Nat.lt_irrefl, if_false] at hst
      have hfz := hrow.frozen k
      have hi : (k : Int) < (zs.length : Int) := by omega
      have R : Hid ((wr.setCell ⟨w.heap.size, k, none⟩ (.int .i64 (zs.getD k 0))).rowIs w.heap.size 3 zs.length (fun i => if i < k + 1 then .int .i64 (zs.getD i 0) else .int .i64 0)) := by
        refine (hrow.set k _).congr (fun i _ => ?_)
        by_cases e : i = k
        · subst e; simp
        · rw [if_neg e]
          by_cases h : i < k
          · rw [if_pos h, if_pos (by omega)]
          · rw [if_neg h, if_neg (by omega)]
      have B1 : Below w.heap.size w (wr.setCell ⟨w.heap.size, k, none⟩ (.int .i64 (zs.getD k 0))) := hb.setCell (Nat.le_refl _) _
      clear hrow hb hc0 hs
      go_wp2
      go_roundw
      case rel => exact ⟨k + 1, by omega, by go_num, by simpa [hlt] using R.out, by simpa [hlt] using B1⟩
      case measure => simp [intOf]; omega
    · have hkk : k = zs.length := by omega
      have R : Hid (wr.rowIs w.heap.size 3 zs.length (fun i => .int .i64 (zs.getD i 0))) := hrow.congr (fun i hi => by rw [if_pos (by omega)])
      clear hrow hs hkk
      go_wp2
      go_ret
      exact ⟨rfl, R.out, hb⟩
set_option maxHeartbeats 1000000 in
theorem eqIntS_true (a a' : Option Addr) (n n' cap cap' : Nat) (zs : List Int) (w : World) (hn : n = zs.length) (hn' : n' = zs.length) (hs : SlI w a zs) (hs' : SlI w a' zs) (hl : zs.length ≤ 2000000) :
    Calls Try.prog 24 #[.slice a n cap, .slice a' n' cap'] w fun e w' => e = .returned (.bool true) ∧ ∃ n, w' = w.drewN n := by
  subst hn hn'
  go_enter Try.func24, Try.ntmps24
  go_wp2
  go_loopw [5] (fun i wr => ∃ k : Nat, k ≤ zs.length ∧ i = .int .i64 k ∧ ∃ n, wr = w.drewN n) (fun i _ => zs.length - (intOf i).toNat)
  case atStart => exact ⟨0, Nat.zero_le _, rfl, 0, rfl⟩
  case round =>
    obtain ⟨k, hk, rfl, n, rfl⟩ := hrel
    by_cases hlt : k < zs.length
    · obtain ⟨b, off, rfl, _, hc⟩ := cell_atI hs hlt
      obtain ⟨b', off', rfl, _, hc'⟩ := cell_atI hs' hlt
      have hi : (k : Int) < (zs.length : Int) := by omega
      clear hs hs'
      go_wp2
      go_quiet (fail)
      go_wp2
      go_roundw
      case rel => exact ⟨k + 1, by omega, by go_num, _, rfl⟩
      case measure => simp [intOf]; omega
    · clear hs hs'
      go_wp2
      go_ret
      exact ⟨rfl, _, rfl⟩
theorem OwnI.cells {w : World} {base n cap : Nat} {a : Option Addr} {zs : List Int} (h : OwnI w base (.slice a n cap) zs) (hn : 0 < n) :
    ∃ g cur, a = some ⟨g, 0, none⟩ ∧ base ≤ g ∧ g < w.heap.size ∧ w.heap[g]? = some (.cells cur 3 (0, 0)) ∧ n ≤ cap ∧ cap ≤ maxLen ∧ cur.size = cap := by
  obtain ⟨_, h2⟩ := h
  rcases h2 with ⟨h2, h3⟩ | ⟨g, cap', cur, hv, hb, hh, hle, hm, hs, _⟩
  · simp only [Value.slice.injEq] at h2; omega
  · simp only [Value.slice.injEq] at hv
    obtain ⟨rfl, h4, rfl⟩ := hv
    exact ⟨g, cur, rfl, hb, (Array.getElem?_eq_some_iff.1 hh).1, hh, by omega, hm, by simpa using hs⟩
def marksI (s n : Nat) : List Int := (List.range n).map (fun i : Nat => (s : Int) + (i : Int))
theorem marksI_length (s n : Nat) : (marksI s n).length = n := by simp [marksI]
def MarkedI (s : Nat) (w wr : World) (g cap k : Nat) : Prop :=
  w.grownBy wr (some g) ∧ ∃ cur, wr.heap[g]? = some (.cells cur 3 (0, 0)) ∧ cur.size = cap ∧ ∀ i, i < k → cur[i]? = some (.int .i64 ((s : Int) + (i : Int)))
theorem markedI_step {w wr : World} {s g cap k : Nat} (h : MarkedI s w wr g cap k) (hk : k < cap) : MarkedI s w (wr.setCell ⟨g, k, none⟩ (.int .i64 ((s : Int) + (k : Int)))) g cap (k + 1) := by
  obtain ⟨hg, cur, hh, hs, hc⟩ := h
  refine ⟨⟨hg.os, hg.tape, hg.output, by simpa [World.setCell] using hg.size, fun j hj hne => ?_⟩, cur.setIfInBounds k (.int .i64 ((s : Int) + (k : Int))), by simp [World.setCell, Array.getElem?_modify, hh], by simpa using hs, fun i hi => ?_⟩
  · rw [Below.heap_setCell _ _ _ _ (fun e => hne (by simpa using e))]; exact hg.block j hj hne
  · rw [Array.getElem?_setIfInBounds]
    by_cases e : i = k
    · subst e; rw [if_pos rfl, if_pos (by omega)]
    · rw [if_neg (fun h => e h.symm)]; exact hc i (by omega)
theorem markedI_cell {w wr : World} {s g cap k : Nat} (h : MarkedI s w wr g cap k) (hk : k < cap) : (∃ v, wr.cell? ⟨g, k, none⟩ = some v) ∧ wr.frozen? ⟨g, k, none⟩ = false := by
  obtain ⟨_, cur, hh, hs, _⟩ := h
  refine ⟨⟨cur[k]'(by omega), ?_⟩, by simp [World.frozen?, hh]⟩
  simp [World.cell?, hh, hs, hk]
theorem markedI_done {w wr : World} {s base g n cap : Nat} (h : MarkedI s w wr g cap n) (hb : base ≤ g) (hn : n ≤ cap) (hm : cap ≤ maxLen) : OwnI wr base (.slice (some ⟨g, 0, none⟩) n cap) (marksI s n) := by
  obtain ⟨_, cur, hh, hs, hc⟩ := h
  refine ⟨by simp, .inr ⟨g, cap, cur, by rw [marksI_length], hb, hh, by rw [marksI_length]; exact hn, hm, by simpa using hs, ?_⟩⟩
  rw [marksI_length, Nat.mul_one]
  apply List.ext_getElem?
  intro i
  by_cases hi : i < n
  · rw [List.getElem?_take, if_pos hi, Array.getElem?_toList, hc i hi]
    simp [marksI, hi]
  · rw [List.getElem?_eq_none (by simp; omega), List.getElem?_eq_none (by simp [marksI]; omega)]
set_option maxHeartbeats 1000000 in
theorem markIntS_from (a : Option Addr) (n cap base s : Nat) (zs : List Int) (w : World) (h : OwnI w base (.slice a n cap) zs) (hl : n ≤ 3000000) (hs' : s ≤ 9000000) :
    Calls Try.prog 27 #[.slice a n cap, .int .i64 (s : Int)] w fun e w' => e = .returned (.int .i64 ((s : Int) + (n : Int))) ∧ OwnI w' base (.slice a n cap) (marksI s n) ∧ w.grownBy w' (Value.slice a n cap).ownBlock := by
  by_cases h0 : n = 0
  · subst h0
    have e : zs = [] := List.eq_nil_of_length_eq_zero h.sl.1.symm
    subst e
    have h' : OwnI w base (.slice a 0 cap) (marksI s 0) := h
    go_enter Try.func27, Try.ntmps27
    go_wp2
    refine wp_loop_rounds 1 ?_
    rw [rounds_succ]
    go_wp2
    go_ret
    exact ⟨by simp, h', World.grownBy.refl _ _⟩
  · obtain ⟨g, cur, rfl, hb, hgl, hh, hle, hm, hs⟩ := h.cells (by omega)
    have M0 : MarkedI s w w g cap 0 := ⟨World.grownBy.refl _ _, cur, hh, hs, fun i hi => absurd hi (Nat.not_lt_zero _)⟩
    clear hh h
    go_enter Try.func27, Try.ntmps27
    go_wp2
    go_loopw [1, 5] (fun kk i wr => ∃ k : Nat, k ≤ n ∧ i = .int .i64 k ∧ kk = .int .i64 ((s : Int) + (k : Int)) ∧ MarkedI s w wr g cap k) (fun _ i _ => n - (intOf i).toNat)
    case atStart => exact ⟨0, Nat.zero_le _, rfl, by simp, M0⟩
    case round =>
      obtain ⟨k, hk, rfl, rfl, hM⟩ := hrel
      by_cases hlt : k < n
      · obtain ⟨⟨v, hc⟩, hf⟩ := markedI_cell hM (by omega)
        have hM1 := markedI_step hM (by omega)
        have hi : (k : Int) < (n : Int) := by omega
        clear hM M0
        go_wp2
        go_roundw
        case rel => exact ⟨k + 1, by omega, by go_num, by go_num, hM1⟩
        case measure => simp [intOf]; omega
      · obtain rfl : k = n := by omega
        have hD := markedI_done hM hb hle hm
        have hG : Hid (w.grownBy wr (some g)) := hM.1
        clear hM M0
        go_wp2
        go_ret
        exact ⟨rfl, hD, hG.out⟩
end Go.Proofs.Ytohikbpolofklaa
namespace Go.Proofs.Ytohikbpolofklaa
open Go.ChangeShapes Go.WideShapes Go.ChangeAt Go.RowKit Go.Deep Go.Joins
def InIos (w : World) (a : Option Addr) (len : Nat) (zs : List Int) : Prop := zs.length = len ∧ len ≤ maxLen ∧ SlI w a zs ∧ ∀ n ∈ zs, -9223372036854775808 ≤ n ∧ n ≤ 9223372036854775807
theorem inIos_of {w : World} {x : Addr} {len cap : Nat} {z : List Int} (hl : len ≤ cap) (hm : cap ≤ maxLen) (hz : z.length = cap) (hcell : ∀ i, i < z.length → w.cell? (x.add i) = some (.int .i64 (z.getD i 0)))
    (hwz : ∀ n ∈ z, (Lit.int .i64 n).wf = true) : ∃ zs : List Int, InIos w (some x) len zs := by
  refine ⟨z.take len, by simp; omega, by omega, ?_, fun n hn => bounds_i64 (hwz n (List.mem_of_mem_take hn))⟩
  by_cases h0 : len = 0
  · subst h0; exact .inl (by simp)
  · obtain ⟨b, off, spot⟩ := x
    have hc := hcell 0 (by omega)
    have hspot : spot = none := by simpa [Addr.add] using World.cell?_spot hc
    subst hspot
    refine .inr ⟨b, off, rfl, World.block_lt_of_cell? _ _ hc, fun i hi => ?_⟩
    simp only [List.length_take] at hi
    have := hcell i (by omega)
    rw [List.getD_eq_getElem?_getD, List.getElem?_take, if_pos (by omega), ← List.getD_eq_getElem?_getD]
    by_cases e : i = 0
    · subst e; simpa [Addr.add] using this
    · simpa [Addr.add, e] using this
section
variable {H : Type} {enc : TypeId × Value → H} {P : Program} {w : World} {base : Nat} {held : Bool}
theorem opened_ios {t e : TypeId} {fuel : Nat} {a : Option Addr} {len cap : Nat} {x : DataW H × List MemPlace} (ht : P.underlying t = some (.slice e)) (he : P.underlying e = some (.int .i64)) (hc : P.cellsOf e = 1)
    (hf : DataW.trod enc P w base (fun _ => true) held fuel t [.slice a len cap] = some x) : ∃ zs : List Int, InIos w a len zs := by
  rcases open_ints ht he hc hf with ⟨hcs, _⟩ | ⟨x, l, c, zs, hcs, _, hl, hm, hz, _, hcell, hwz⟩
  · simp at hcs
    obtain ⟨rfl, rfl, rfl⟩ := hcs
    exact ⟨[], rfl, Nat.zero_le _, .inl rfl, fun n hn => by cases hn⟩
  · simp at hcs
    obtain ⟨rfl, rfl, rfl⟩ := hcs
    exact inIos_of hl hm (by simpa using hz) hcell hwz
theorem opened_bosm {t e : TypeId} {fuel : Nat} {a : Option Addr} {len cap : Nat} {x : DataW H × List MemPlace} (ht : P.underlying t = some (.slice e)) (he : P.underlying e = some .bool) (hc : P.cellsOf e = 1)
    (hf : DataW.trod enc P w base (fun _ => true) held fuel t [.slice a len cap] = some x) : (∃ zs : List Bool, InBos w a len zs) ∧ len ≤ maxLen := by
  refine ⟨opened_bos ht he hc hf, ?_⟩
  rcases open_bools ht he hc hf with ⟨hcs, _⟩ | ⟨x, l, c, B, hcs, _, hl, hm, _, hcell⟩
  · simp at hcs
    obtain ⟨rfl, rfl, rfl⟩ := hcs
    exact Nat.zero_le _
  · simp at hcs
    obtain ⟨rfl, rfl, rfl⟩ := hcs
    omega
theorem array6 {α : Type} {cs : Array α} (h : cs.size = 6) : ∃ c0 c1 c2 c3 c4 c5, cs = #[c0, c1, c2, c3, c4, c5] := by
  obtain ⟨l⟩ := cs
  match l, h with
  | [c0, c1, c2, c3, c4, c5], _ => exact ⟨c0, c1, c2, c3, c4, c5, rfl⟩
theorem opened_struct6 {r : Reach} {b0 : Nat} {t : TypeId} {f0 f1 f2 f3 f4 f5 : Field} {v : Value} {d : DataW H} {p : List MemPlace} {spare : Nat → Bool} (hs : P.underlying t = some (.struct #[f0, f1, f2, f3, f4, f5])) (hone : oneCellFields P #[f0, f1, f2, f3, f4, f5] = true) (hC : P.cellsOf t = 6)
    (hv : Value.okWide P w r b0 t v) (h : DataW.Trod enc P w base spare held t v d p) :
    ∃ c0 c1 c2 c3 c4 c5 n y0 y1 y2 y3 y4 y5, v = .agg #[c0, c1, c2, c3, c4, c5] ∧ DataW.trod enc P w base spare held n f0.type [c0] = some y0 ∧ DataW.trod enc P w base spare held n f1.type [c1] = some y1 ∧ DataW.trod enc P w base spare held n f2.type [c2] = some y2 ∧
      DataW.trod enc P w base spare held n f3.type [c3] = some y3 ∧ DataW.trod enc P w base spare held n f4.type [c4] = some y4 ∧ DataW.trod enc P w base spare held n f5.type [c5] = some y5 := by
  obtain ⟨cs, rfl, hsz⟩ := okWide_struct hs hv
  obtain ⟨c0, c1, c2, c3, c4, c5, rfl⟩ := array6 (hsz.trans hC)
  obtain ⟨fuel, hf'⟩ := h
  obtain ⟨xs, n, _, hx, hl, hlen, hg⟩ := DataW.trod_struct hs hf'
  obtain ⟨o0, k0⟩ := hone_of hone 0 f0 rfl
  obtain ⟨o1, k1⟩ := hone_of hone 1 f1 rfl
  obtain ⟨o2, k2⟩ := hone_of hone 2 f2 rfl
  obtain ⟨o3, k3⟩ := hone_of hone 3 f3 rfl
  obtain ⟨o4, k4⟩ := hone_of hone 4 f4 rfl
  obtain ⟨o5, k5⟩ := hone_of hone 5 f5 rfl
  have h0 := hg 0 f0 rfl
  have h1 := hg 1 f1 rfl
  have h2 := hg 2 f2 rfl
  have h3 := hg 3 f3 rfl
  have h4 := hg 4 f4 rfl
  have h5 := hg 5 f5 rfl
  match xs, hlen with
  | [y0, y1, y2, y3, y4, y5], _ =>
    exact ⟨c0, c1, c2, c3, c4, c5, n, y0, y1, y2, y3, y4, y5, rfl, by simpa [Value.cells, o0, k0] using h0, by simpa [Value.cells, o1, k1] using h1, by simpa [Value.cells, o2, k2] using h2, by simpa [Value.cells, o3, k3] using h3, by simpa [Value.cells, o4, k4] using h4, by simpa [Value.cells, o5, k5] using h5⟩
theorem opened_int1 {t : TypeId} {k : IntKind} {n : Nat} {c : Value} {y : DataW H × List MemPlace} {spare : Nat → Bool} (ht : P.underlying t = some (.int k)) (h : DataW.trod enc P w base spare held n t [c] = some y) : ∃ x, c = .int k x ∧ (Lit.int k x).wf = true := by
  obtain ⟨x, h1, h2, h3⟩ := DataW.trod_int ht h
  exact ⟨x, by simpa using h1, by first | exact h2 | exact h3⟩
def InReq (w : World) (kd pl nn wa : Int) (a b : Option Addr) (la lb : Nat) (ws : List Int) (bs : List Bool) : Prop :=
  InIos w a la ws ∧ InBos w b lb bs ∧ lb ≤ maxLen ∧ (Lit.int .i64 kd).wf = true ∧ (Lit.int .i64 pl).wf = true ∧ (Lit.int .i64 nn).wf = true ∧ (Lit.int .i64 wa).wf = true
end
end Go.Proofs.Ytohikbpolofklaa
namespace Go.Proofs.Ytohikbpolofklaa
open Go.ChangeShapes Go.WideShapes Go.ChangeAt Go.RowKit Go.Deep Go.Joins
section
variable {H : Type} {enc : TypeId × Value → H} {P : Program} {w : World} {base : Nat} {held : Bool}
def InResp (w : World) (kd fl pl nn : Int) (a b : Option Addr) (la lb : Nat) (ws : List Int) (bs : List Bool) : Prop :=
  InIos w a la ws ∧ InBos w b lb bs ∧ lb ≤ maxLen ∧ (Lit.int .i64 kd).wf = true ∧ (Lit.int .i64 fl).wf = true ∧ (Lit.int .i64 pl).wf = true ∧ (Lit.int .i64 nn).wf = true
theorem opened_resp {r : Reach} {b0 : Nat} {t i si sb tb : TypeId} {f0 f1 f2 f3 f4 f5 : Field} {v : Value} {d : DataW H} {p : List MemPlace} (hs : P.underlying t = some (.struct #[f0, f1, f2, f3, f4, f5])) (hone : oneCellFields P #[f0, f1, f2, f3, f4, f5] = true) (hC : P.cellsOf t = 6)
    (e0 : f0.type = i) (e1 : f1.type = i) (e2 : f2.type = i) (e3 : f3.type = i) (e4 : f4.type = si) (e5 : f5.type = sb) (hi : P.underlying i = some (.int .i64)) (hsi : P.underlying si = some (.slice i)) (hsb : P.underlying sb = some (.slice tb)) (htb : P.underlying tb = some .bool) (hci : P.cellsOf i = 1) (hcb : P.cellsOf tb = 1)
    (hv : Value.okWide P w r b0 t v) (h : DataW.Trod enc P w base (fun _ => true) held t v d p) :
    ∃ kd fl pl nn a b la ca lb cb ws bs, v = .agg #[.int .i64 kd, .int .i64 fl, .int .i64 pl, .int .i64 nn, .slice a la ca, .slice b lb cb] ∧ InResp w kd fl pl nn a b la lb ws bs := by
  obtain ⟨c0, c1, c2, c3, c4, c5, n, y0, y1, y2, y3, y4, y5, rfl, h0, h1, h2, h3, h4, h5⟩ := opened_struct6 hs hone hC hv h
  rw [e0] at h0
  rw [e1] at h1
  rw [e2] at h2
  rw [e3] at h3
  rw [e4] at h4
  rw [e5] at h5
  obtain ⟨kd, rfl, q0⟩ := opened_int1 hi h0
  obtain ⟨fl, rfl, q1⟩ := opened_int1 hi h1
  obtain ⟨pl, rfl, q2⟩ := opened_int1 hi h2
  obtain ⟨nn, rfl, q5⟩ := opened_int1 hi h3
  obtain ⟨a, la, ca, hcs⟩ := slice_form hsi h4
  simp at hcs
  subst hcs
  obtain ⟨b, lb, cb, hcs⟩ := slice_form hsb h5
  simp at hcs
  subst hcs
  obtain ⟨ws, hw⟩ := opened_ios hsi hi hci h4
  obtain ⟨⟨bs, hb⟩, hm⟩ := opened_bosm hsb htb hcb h5
  exact ⟨kd, fl, pl, nn, a, b, la, ca, lb, cb, ws, bs, rfl, hw, hb, hm, q0, q1, q2, q5⟩
end
end Go.Proofs.Ytohikbpolofklaa
namespace Go.Proofs.Ytohikbpolofklaa
open Go.ChangeShapes Go.WideShapes Go.ChangeAt Go.RowKit Go.Deep Go.Joins
set_option linter.unusedVariables false
section
variable {H : Type} {enc : TypeId × Value → H} {P : Program} {w : World} {base : Nat} {held : Bool}
theorem array3 {α : Type} {cs : Array α} (h : cs.size = 3) : ∃ c0 c1 c2, cs = #[c0, c1, c2] := by
  obtain ⟨l⟩ := cs
  match l, h with
  | [c0, c1, c2], _ => exact ⟨c0, c1, c2, rfl⟩
def InBox (w : World) (nm un : Int) (a : Option Addr) (l : Nat) (zs : List Int) : Prop :=
  InBys w a l zs ∧ (Lit.int .i64 nm).wf = true ∧ (Lit.int .i64 un).wf = true
theorem opened_box {r : Reach} {b0 : Nat} {t i sb u8 : TypeId} {f0 f1 f2 : Field} {v : Value} {d : DataW H} {p : List MemPlace} (hs : P.underlying t = some (.struct #[f0, f1, f2])) (hone : oneCellFields P #[f0, f1, f2] = true) (hC : P.cellsOf t = 3)
    (e0 : f0.type = i) (e1 : f1.type = i) (e2 : f2.type = sb) (hi : P.underlying i = some (.int .i64)) (hsb : P.underlying sb = some (.slice u8)) (hu : P.underlying u8 = some (.int .u8)) (hcu : P.cellsOf u8 = 1)
    (hv : Value.okWide P w r b0 t v) (h : DataW.Trod enc P w base (fun _ => true) held t v d p) :
    ∃ nm un a l c zs, v = .agg #[.int .i64 nm, .int .i64 un, .slice a l c] ∧ InBox w nm un a l zs := by
  obtain ⟨cs, rfl, hsz⟩ := okWide_struct hs hv
  obtain ⟨c0, c1, c2, rfl⟩ := array3 (hsz.trans hC)
  obtain ⟨fuel, hf'⟩ := h
  obtain ⟨xs, n, _, hx, hl, hlen, hg⟩ := DataW.trod_struct hs hf'
  obtain ⟨o0, k0⟩ := hone_of hone 0 f0 rfl
  obtain ⟨o1, k1⟩ := hone_of hone 1 f1 rfl
  obtain ⟨o2, k2⟩ := hone_of hone 2 f2 rfl
  have h0 := hg 0 f0 rfl
  have h1 := hg 1 f1 rfl
  have h2 := hg 2 f2 rfl
  match xs, hlen with
  | [y0, y1, y2], _ =>
    obtain ⟨nm, rfl, q0⟩ := opened_int1 (c := c0) (y := y0) hi (by rw [← e0]; simpa [Value.cells, o0, k0] using h0)
    obtain ⟨un, rfl, q1⟩ := opened_int1 (c := c1) (y := y1) hi (by rw [← e1]; simpa [Value.cells, o1, k1] using h1)
    have h9 : DataW.trod enc P w base (fun _ => true) held n sb [c2] = some y2 := by rw [← e2]; simpa [Value.cells, o2, k2] using h2
    obtain ⟨a, l, c, hcs⟩ := slice_form hsb h9
    simp at hcs
    subst hcs
    obtain ⟨zs, hz⟩ := opened_bys hsb hu hcu h9
    exact ⟨nm, un, a, l, c, zs, rfl, hz, q0, q1⟩
end
end Go.Proofs.Ytohikbpolofklaa
namespace Go.Proofs.Ytohikbpolofklaa
open Go.RowKit
theorem SlB.below {w w' : World} {a : Option Addr} {zs : List Bool} (h : SlB w a zs) (hb : Below w.heap.size w w') : SlB w' a zs := by
  rcases h with h | ⟨b, off, ha, hlt, hc⟩
  · exact .inl h
  · exact .inr ⟨b, off, ha, by have := hb.size; omega, fun i hi => by rw [hb.cell (p := ⟨b, off + i, none⟩) hlt]; exact hc i hi⟩
theorem cell_atB {w : World} {a : Option Addr} {zs : List Bool} (hs : SlB w a zs) {k : Nat} (hlt : k < zs.length) : ∃ b off, a = some ⟨b, off, none⟩ ∧ b < w.heap.size ∧ w.cell? ⟨b, off + k, none⟩ = some (.bool (zs.getD k false)) := by
  rcases hs with hs | ⟨b, off, h1, h2, h3⟩
  · rw [hs] at hlt; simp at hlt
  · exact ⟨b, off, h1, h2, h3 k hlt⟩
def OwnB (w : World) (base : Nat) (v : Value) (zs : List Bool) : Prop := w.ownsRow base 4 1 v zs.length (zs.map (Value.bool))
theorem OwnB.sl {w : World} {base n cap : Nat} {a : Option Addr} {zs : List Bool} (h : OwnB w base (.slice a n cap) zs) : n = zs.length ∧ SlB w a zs := by
  obtain ⟨_, h2⟩ := h
  rcases h2 with ⟨h2, h3⟩ | ⟨g, cap', cur, hv, _, hh, hle, _, hs, ht⟩
  · have e : zs = [] := List.eq_nil_of_length_eq_zero h3
    simp only [Value.slice.injEq] at h2
    exact ⟨by rw [h3]; exact h2.2.1, .inl e⟩
  · simp only [Value.slice.injEq] at hv
    refine ⟨hv.2.1, .inr ⟨g, 0, hv.1, (Array.getElem?_eq_some_iff.1 hh).1, fun i hi => ?_⟩⟩
    have e1 : cur.toList[i]? = some (.bool (zs.getD i false)) := by
      have e2 : (cur.toList.take (zs.length * 1))[i]? = (zs.map (Value.bool))[i]? := by rw [ht]
      rw [List.getElem?_take, if_pos (by omega)] at e2
      rw [e2]
      simp [hi]
    simp only [World.cell?, hh, Nat.zero_add]
    rw [Array.getElem?_toList] at e1
    exact e1
theorem OwnB.kept {w w' : World} {base : Nat} {v : Value} {row : Option Nat} {zs : List Bool} (h : OwnB w base v zs) (hg : w.grownBy w' row) (hne : v.ownBlock = none ∨ v.ownBlock ≠ row) : OwnB w' base v zs := World.ownsRow.kept h hg hne
theorem OwnB.below {w w' : World} {base : Nat} {v : Value} {zs : List Bool} (h : OwnB w base v zs) (hb : Below w.heap.size w w') : OwnB w' base v zs := by
  refine h.kept (grown_below hb (some w.heap.size)) ?_
  cases e : v.ownBlock with
  | none => exact .inl rfl
  | some k => exact .inr (fun e2 => by have := (World.ownsRow.lt h k e).2; simp at e2; omega)
theorem OwnB.ofRow {w : World} {base b n : Nat} {zs : List Bool} (h : w.rowIs b 4 n (fun i => .bool (zs.getD i false))) (hn : n = zs.length) (hb : base ≤ b) (hm : n ≤ maxLen) : OwnB w base (.slice (some ⟨b, 0, none⟩) n n) zs := by
  subst hn
  obtain ⟨c, hc, hsz, hcell⟩ := h
  refine ⟨by simp, .inr ⟨b, zs.length, c, rfl, hb, hc, Nat.le_refl _, hm, by simpa using hsz, ?_⟩⟩
  apply List.ext_getElem?
  intro i
  by_cases hi : i < zs.length
  · rw [List.getElem?_take, if_pos (by omega), Array.getElem?_toList, hcell i hi]
    simp [hi]
  · rw [List.getElem?_eq_none (by simp; omega), List.getElem?_eq_none (by simp; omega)]
theorem Try.info4 : (Try.prog.info? 4).map (fun i => (i.zero, i.size, i.bytes)) = some (some (.bool false), 1, 1) := by kernel_rfl
set_option maxHeartbeats 1000000 in
theorem toBoolS_any (a : Option Addr) (n cap : Nat) (zs : List Bool) (w : World) (hn : n = zs.length) (hs : SlB w a zs) (hl : zs.length ≤ 20000000) :
    Calls Try.prog 21 #[.slice a n cap] w fun e w' => e = .returned (.slice (some ⟨w.heap.size, 0, none⟩) n n) ∧
      w'.rowIs w.heap.size 4 n (fun i => .bool (zs.getD i false)) ∧ Below w.heap.size w w' := by
  subst hn
  have hmk := run_make_row' (P := Try.prog) 26 4 (.bool false) 1 Try.underlying26 Try.info4 rfl .i64 .i64 zs.length (by omega) (by omega)
  go_enter Try.func21, Try.ntmps21
  go_wp2
  clear hmk
  go_loopw [4] (fun i wr => ∃ k : Nat, k ≤ zs.length ∧ i = .int .i64 k ∧ wr.rowIs w.heap.size 4 zs.length (fun i => if i < k then .bool (zs.getD i false) else .bool false) ∧ Below w.heap.size w wr) (fun i _ => zs.length - (intOf i).toNat)
  case atStart => exact ⟨0, Nat.zero_le _, rfl, (World.rowIs_made w _ _ _).congr (fun i _ => by simp), (Below.refl _ _).alloc (Nat.le_refl _) _⟩
  case round =>
    obtain ⟨k, hk, rfl, hrow, hb⟩ := hrel
    by_cases hlt : k < zs.length
    · obtain ⟨b, off, rfl, hb0, hc0⟩ := cell_atB hs hlt
      have hc : wr.cell? ⟨b, off + k, none⟩ = some (.bool (zs.getD k false)) := by rw [hb.cell (p := ⟨b, off + k, none⟩) hb0]; exact hc0
      have hst := hrow.cell hlt
      simp only [Nat.lt_irrefl, if_false] at hst
      have hfz := hrow.frozen k
      have hi : (k : Int) < (zs.length : Int) := by omega
      have R : Hid ((wr.setCell ⟨w.heap.size, k, none⟩ (.bool (zs.getD k false))).rowIs w.heap.size 4 zs.length (fun i => if i < k + 1 then .bool (zs.getD i false) else .bool false)) := by
        refine (hrow.set k _).congr (fun i _ => ?_)
        by_cases e : i = k
        · subst e; simp
        · rw [if_neg e]
          by_cases h : i < k
          · rw [if_pos h, if_pos (by omega)]
          · rw [if_neg h, if_neg (by omega)]
      have B1 : Below w.heap.size w (wr.setCell ⟨w.heap.size, k, none⟩ (.bool (zs.getD k false))) := hb.setCell (Nat.le_refl _) _
      clear hrow hb hc0 hs
      go_wp2
      go_roundw
      case rel => exact ⟨k + 1, by omega, by go_num, by simpa [hlt] using R.out, by simpa [hlt] using B1⟩
      case measure => simp [intOf]; omega
    · have hkk : k = zs.length := by omega
      have R : Hid (wr.rowIs w.heap.size 4 zs.length (fun i => .bool (zs.getD i false))) := hrow.congr (fun i hi => by rw [if_pos (by omega)])
      clear hrow hs hkk
      go_wp2
      go_ret
      exact ⟨rfl, R.out, hb⟩
set_option maxHeartbeats 1000000 in
theorem eqBoolS_true (a a' : Option Addr) (n n' cap cap' : Nat) (zs : List Bool) (w : World) (hn : n = zs.length) (hn' : n' = zs.length) (hs : SlB w a zs) (hs' : SlB w a' zs) (hl : zs.length ≤ 20000000) :
    Calls Try.prog 25 #[.slice a n cap, .slice a' n' cap'] w fun e w' => e = .returned (.bool true) ∧ ∃ n, w' = w.drewN n := by
  subst hn hn'
  go_enter Try.func25, Try.ntmps25
  go_wp2
  go_loopw [5] (fun i wr => ∃ k : Nat, k ≤ zs.length ∧ i = .int .i64 k ∧ ∃ n, wr = w.drewN n) (fun i _ => zs.length - (intOf i).toNat)
  case atStart => exact ⟨0, Nat.zero_le _, rfl, 0, rfl⟩
  case round =>
    obtain ⟨k, hk, rfl, n, rfl⟩ := hrel
    by_cases hlt : k < zs.length
    · obtain ⟨b, off, rfl, _, hc⟩ := cell_atB hs hlt
      obtain ⟨b', off', rfl, _, hc'⟩ := cell_atB hs' hlt
      have hi : (k : Int) < (zs.length : Int) := by omega
      clear hs hs'
      go_wp2
      go_quiet (fail)
      go_wp2
      go_roundw
      case rel => exact ⟨k + 1, by omega, by go_num, _, rfl⟩
      case measure => simp [intOf]; omega
    · clear hs hs'
      go_wp2
      go_ret
      exact ⟨rfl, _, rfl⟩
theorem OwnB.cells {w : World} {base n cap : Nat} {a : Option Addr} {zs : List Bool} (h : OwnB w base (.slice a n cap) zs) (hn : 0 < n) :
    ∃ g cur, a = some ⟨g, 0, none⟩ ∧ base ≤ g ∧ g < w.heap.size ∧ w.heap[g]? = some (.cells cur 4 (0, 0)) ∧ n ≤ cap ∧ cap ≤ maxLen ∧ cur.size = cap := by
  obtain ⟨_, h2⟩ := h
  rcases h2 with ⟨h2, h3⟩ | ⟨g, cap', cur, hv, hb, hh, hle, hm, hs, _⟩
  · simp only [Value.slice.injEq] at h2; omega
  · simp only [Value.slice.injEq] at hv
    obtain ⟨rfl, h4, rfl⟩ := hv
    exact ⟨g, cur, rfl, hb, (Array.getElem?_eq_some_iff.1 hh).1, hh, by omega, hm, by simpa using hs⟩
def marksB (s n : Nat) : List Bool := (List.range n).map (fun i : Nat => ((s : Int) + (i : Int)) % 3 == 0)
theorem marksB_length (s n : Nat) : (marksB s n).length = n := by simp [marksB]
def MarkedB (s : Nat) (w wr : World) (g cap k : Nat) : Prop :=
  w.grownBy wr (some g) ∧ ∃ cur, wr.heap[g]? = some (.cells cur 4 (0, 0)) ∧ cur.size = cap ∧ ∀ i, i < k → cur[i]? = some (.bool (((s : Int) + (i : Int)) % 3 == 0))
theorem markedB_step {w wr : World} {s g cap k : Nat} (h : MarkedB s w wr g cap k) (hk : k < cap) : MarkedB s w (wr.setCell ⟨g, k, none⟩ (.bool (((s : Int) + (k : Int)) % 3 == 0))) g cap (k + 1) := by
  obtain ⟨hg, cur, hh, hs, hc⟩ := h
  refine ⟨⟨hg.os, hg.tape, hg.output, by simpa [World.setCell] using hg.size, fun j hj hne => ?_⟩, cur.setIfInBounds k (.bool (((s : Int) + (k : Int)) % 3 == 0)), by simp [World.setCell, Array.getElem?_modify, hh], by simpa using hs, fun i hi => ?_⟩
  · rw [Below.heap_setCell _ _ _ _ (fun e => hne (by simpa using e))]; exact hg.block j hj hne
  · rw [Array.getElem?_setIfInBounds]
    by_cases e : i = k
    · subst e; rw [if_pos rfl, if_pos (by omega)]
    · rw [if_neg (fun h => e h.symm)]; exact hc i (by omega)
theorem markedB_cell {w wr : World} {s g cap k : Nat} (h : MarkedB s w wr g cap k) (hk : k < cap) : (∃ v, wr.cell? ⟨g, k, none⟩ = some v) ∧ wr.frozen? ⟨g, k, none⟩ = false := by
  obtain ⟨_, cur, hh, hs, _⟩ := h
  refine ⟨⟨cur[k]'(by omega), ?_⟩, by simp [World.frozen?, hh]⟩
  simp [World.cell?, hh, hs, hk]
theorem markedB_done {w wr : World} {s base g n cap : Nat} (h : MarkedB s w wr g cap n) (hb : base ≤ g) (hn : n ≤ cap) (hm : cap ≤ maxLen) : OwnB wr base (.slice (some ⟨g, 0, none⟩) n cap) (marksB s n) := by
  obtain ⟨_, cur, hh, hs, hc⟩ := h
  refine ⟨by simp, .inr ⟨g, cap, cur, by rw [marksB_length], hb, hh, by rw [marksB_length]; exact hn, hm, by simpa using hs, ?_⟩⟩
  rw [marksB_length, Nat.mul_one]
  apply List.ext_getElem?
  intro i
  by_cases hi : i < n
  · rw [List.getElem?_take, if_pos hi, Array.getElem?_toList, hc i hi]
    simp [marksB, hi]
  · rw [List.getElem?_eq_none (by simp; omega), List.getElem?_eq_none (by simp [marksB]; omega)]
set_option maxHeartbeats 1000000 in
theorem markBoolS_from (a : Option Addr) (n cap base s : Nat) (zs : List Bool) (w : World) (h : OwnB w base (.slice a n cap) zs) (hl : n ≤ 20000000) (hs' : s ≤ 9000000) :
    Calls Try.prog 28 #[.slice a n cap, .int .i64 (s : Int)] w fun e w' => e = .returned (.int .i64 ((s : Int) + (n : Int))) ∧ OwnB w' base (.slice a n cap) (marksB s n) ∧ w.grownBy w' (Value.slice a n cap).ownBlock := by
  by_cases h0 : n = 0
  · subst h0
    have e : zs = [] := List.eq_nil_of_length_eq_zero h.sl.1.symm
    subst e
    have h' : OwnB w base (.slice a 0 cap) (marksB s 0) := h
    go_enter Try.func28, Try.ntmps28
    go_wp2
    refine wp_loop_rounds 1 ?_
    rw [rounds_succ]
    go_wp2
    go_ret
    exact ⟨by simp, h', World.grownBy.refl _ _⟩
  · obtain ⟨g, cur, rfl, hb, hgl, hh, hle, hm, hs⟩ := h.cells (by omega)
    have M0 : MarkedB s w w g cap 0 := ⟨World.grownBy.refl _ _, cur, hh, hs, fun i hi => absurd hi (Nat.not_lt_zero _)⟩
    clear hh h
    go_enter Try.func28, Try.ntmps28
    go_wp2
    go_loopw [1, 5] (fun kk i wr => ∃ k : Nat, k ≤ n ∧ i = .int .i64 k ∧ kk = .int .i64 ((s : Int) + (k : Int)) ∧ MarkedB s w wr g cap k) (fun _ i _ => n - (intOf i).toNat)
    case atStart => exact ⟨0, Nat.zero_le _, rfl, by simp, M0⟩
    case round =>
      obtain ⟨k, hk, rfl, rfl, hM⟩ := hrel
      by_cases hlt : k < n
      · obtain ⟨⟨v, hc⟩, hf⟩ := markedB_cell hM (by omega)
        have hM1 := markedB_step hM (by omega)
        have hi : (k : Int) < (n : Int) := by omega
        clear hM M0
        go_wp2
        go_roundw
        case rel => exact ⟨k + 1, by omega, by go_num, by go_num, hM1⟩
        case measure => simp [intOf]; omega
      · obtain rfl : k = n := by omega
        have hD := markedB_done hM hb hle hm
        have hG : Hid (w.grownBy wr (some g)) := hM.1
        clear hM M0
        go_wp2
        go_ret
        exact ⟨rfl, hD, hG.out⟩
end Go.Proofs.Ytohikbpolofklaa
namespace Go.Proofs.Ytohikbpolofklaa
open Go.RowKit
theorem bel_next {w0 w w' : World} (h : Below w0.heap.size w0 w) (h' : Below w.heap.size w w') : Below w0.heap.size w0 w' := h.trans (h'.mono h.size)
theorem bel_alloc (w : World) (o : Obj) : Below w.heap.size w (w.alloc o) := (Below.refl _ w).alloc (Nat.le_refl _) o
def Blk (w : World) (g : Nat) (t : TypeId) (cs : Array Value) : Prop := w.heap[g]? = some (.cells cs t (0, 0))
theorem Blk.cell {w : World} {g : Nat} {t : TypeId} {cs : Array Value} (h : Blk w g t cs) (j : Nat) {v : Value} (hj : cs[j]? = some v) : w.cell? ⟨g, j, none⟩ = some v := by
  unfold Blk at h; simp [World.cell?, h, hj]
theorem Blk.fro {w : World} {g : Nat} {t : TypeId} {cs : Array Value} (h : Blk w g t cs) (j : Nat) : w.frozen? ⟨g, j, none⟩ = false := by
  unfold Blk at h; simp [World.frozen?, h]
theorem Blk.lt {w : World} {g : Nat} {t : TypeId} {cs : Array Value} (h : Blk w g t cs) : g < w.heap.size := (Array.getElem?_eq_some_iff.1 h).1
theorem Blk.new (w : World) (cs : Array Value) (t : TypeId) : Blk (w.alloc (.cells cs t)) w.heap.size t cs := by
  show (w.heap.push (.cells cs t (0, 0)))[w.heap.size]? = _; simp
theorem Blk.below {w w' : World} {g : Nat} {t : TypeId} {cs : Array Value} (h : Blk w g t cs) (hb : Below w.heap.size w w') : Blk w' g t cs := by
  unfold Blk; rw [hb.block g h.lt]; exact h
theorem Blk.grown {w w' : World} {g : Nat} {t : TypeId} {cs : Array Value} {row : Option Nat} (h : Blk w g t cs) (hg : w.grownBy w' row) (hne : row ≠ some g) : Blk w' g t cs := by
  unfold Blk; rw [hg.block g h.lt (fun e => hne e.symm)]; exact h
theorem Blk.set {w : World} {g : Nat} {t : TypeId} {cs : Array Value} (h : Blk w g t cs) (j : Nat) (y : Value) : Blk (w.setCell ⟨g, j, none⟩ y) g t (cs.setIfInBounds j y) := by
  unfold Blk at h ⊢; simp [World.setCell, Array.getElem?_modify, h]
theorem Blk.setNe {w : World} {g g' j : Nat} {t : TypeId} {cs : Array Value} {y : Value} (h : Blk w g t cs) (hne : g ≠ g') : Blk (w.setCell ⟨g', j, none⟩ y) g t cs := by
  unfold Blk; rw [Below.heap_setCell _ _ _ _ hne]; exact h
theorem row_noBlk {w : World} {base size n g : Nat} {e t : TypeId} {v : Value} {xs : List Value} {cs : Array Value} (h : w.ownsRow base e size v n xs) (hb : Blk w g t cs) (ht : t ≠ e) : v.ownBlock ≠ some g := by
  intro he
  obtain ⟨_, h2⟩ := h
  rcases h2 with ⟨h2, _⟩ | ⟨g', cap, cur, hv, _, hh, _⟩
  · rw [h2] at he; simp [Value.ownBlock] at he
  · rw [hv] at he
    simp [Value.ownBlock] at he
    subst he
    unfold Blk at hb
    rw [hb] at hh
    simp at hh
    exact ht hh.2
theorem grown_setj (w : World) (g o : Nat) (v : Value) : w.grownBy (w.setCell ⟨g, o, none⟩ v) (some g) :=
  ⟨rfl, rfl, rfl, by simp [World.setCell], fun k hk hne => Below.heap_setCell _ _ _ _ (fun e => hne (by simpa using e))⟩
theorem row_set {w : World} {base size n g j : Nat} {e t : TypeId} {v y : Value} {xs : List Value} {cs : Array Value} (h : w.ownsRow base e size v n xs) (hb : Blk w g t cs) (ht : t ≠ e) : (w.setCell ⟨g, j, none⟩ y).ownsRow base e size v n xs :=
  World.ownsRow.kept h (grown_setj w g j y) (.inr (row_noBlk h hb ht))
def ExB (w : World) (g : Nat) (t : TypeId) : Prop := ∃ cs, Blk w g t cs
theorem ExB.set {w : World} {g g' j : Nat} {t : TypeId} {y : Value} (h : ExB w g t) : ExB (w.setCell ⟨g', j, none⟩ y) g t := by
  obtain ⟨cs, h⟩ := h
  by_cases e : g = g'
  · subst e; exact ⟨_, h.set j y⟩
  · exact ⟨_, h.setNe e⟩
theorem row_setE {w : World} {base size n g j : Nat} {e t : TypeId} {v y : Value} {xs : List Value} (h : w.ownsRow base e size v n xs) (hb : ExB w g t) (ht : t ≠ e) : (w.setCell ⟨g, j, none⟩ y).ownsRow base e size v n xs := by
  obtain ⟨cs, hb⟩ := hb
  exact row_set h hb ht
theorem toIntS_ok (a : Option Addr) (n cap : Nat) (zs : List Int) (w : World) (hn : n = zs.length) (hs : SlI w a zs) (hl : zs.length ≤ 2000000) :
    Calls Try.prog 20 #[.slice a n cap] w fun e w' => ∃ g, e = .returned (.slice (some ⟨g, 0, none⟩) n n) ∧ OwnI w' w.heap.size (.slice (some ⟨g, 0, none⟩) n n) zs ∧ Below w.heap.size w w' := by
  refine (toIntS_any a n cap zs w hn hs hl).mono ?_
  rintro e w' ⟨rfl, q, b⟩
  exact ⟨_, rfl, OwnI.ofRow q hn (Nat.le_refl _) (by unfold maxLen; omega), b⟩
theorem toBoolS_ok (a : Option Addr) (n cap : Nat) (zs : List Bool) (w : World) (hn : n = zs.length) (hs : SlB w a zs) (hl : zs.length ≤ 20000000) :
    Calls Try.prog 21 #[.slice a n cap] w fun e w' => ∃ g, e = .returned (.slice (some ⟨g, 0, none⟩) n n) ∧ OwnB w' w.heap.size (.slice (some ⟨g, 0, none⟩) n n) zs ∧ Below w.heap.size w w' := by
  refine (toBoolS_any a n cap zs w hn hs hl).mono ?_
  rintro e w' ⟨rfl, q, b⟩
  exact ⟨_, rfl, OwnB.ofRow q hn (Nat.le_refl _) (by unfold maxLen; omega), b⟩
theorem OwnI.mono {w : World} {base base' : Nat} {v : Value} {zs : List Int} (h : OwnI w base v zs) (hb : base' ≤ base) : OwnI w base' v zs := by
  obtain ⟨h1, h2⟩ := h
  refine ⟨h1, ?_⟩
  rcases h2 with h2 | ⟨g, cap, cur, hv, hg, r⟩
  · exact .inl h2
  · exact .inr ⟨g, cap, cur, hv, by omega, r⟩
theorem OwnB.mono {w : World} {base base' : Nat} {v : Value} {zs : List Bool} (h : OwnB w base v zs) (hb : base' ≤ base) : OwnB w base' v zs := by
  obtain ⟨h1, h2⟩ := h
  refine ⟨h1, ?_⟩
  rcases h2 with h2 | ⟨g, cap, cur, hv, hg, r⟩
  · exact .inl h2
  · exact .inr ⟨g, cap, cur, hv, by omega, r⟩
theorem S2_below {w w' : World} {a : Option Addr} {zs : List Bool} (h : SlB w a zs) (hb : Below w.heap.size w w') : SlB w' a zs := h.below hb
theorem eqIntS_ok (a a' : Option Addr) (n n' cap cap' : Nat) (zs : List Int) (w : World) (hn : n = zs.length) (hn' : n' = zs.length) (hs : SlI w a zs) (hs' : SlI w a' zs) (hl : zs.length ≤ 2000000) :
    Calls Try.prog 24 #[.slice a n cap, .slice a' n' cap'] w fun e w' => e = .returned (.bool true) ∧ Below w.heap.size w w' := by
  refine (eqIntS_true a a' n n' cap cap' zs w hn hn' hs hs' hl).mono ?_
  rintro e w' ⟨rfl, k, rfl⟩
  exact ⟨rfl, drew_refl _ _⟩
theorem eqBoolS_ok (a a' : Option Addr) (n n' cap cap' : Nat) (zs : List Bool) (w : World) (hn : n = zs.length) (hn' : n' = zs.length) (hs : SlB w a zs) (hs' : SlB w a' zs) (hl : zs.length ≤ 20000000) :
    Calls Try.prog 25 #[.slice a n cap, .slice a' n' cap'] w fun e w' => e = .returned (.bool true) ∧ Below w.heap.size w w' := by
  refine (eqBoolS_true a a' n n' cap cap' zs w hn hn' hs hs' hl).mono ?_
  rintro e w' ⟨rfl, k, rfl⟩
  exact ⟨rfl, drew_refl _ _⟩
end Go.Proofs.Ytohikbpolofklaa
namespace Go.Proofs.Ytohikbpolofklaa
open Go.RowKit
theorem Blk.six {w : World} {g : Nat} {t : TypeId} {v0 v1 v2 v3 v4 v5 : Value} (h : Blk w g t #[v0, v1, v2, v3, v4, v5]) : w.cell? ⟨g, 0, none⟩ = some v0 ∧ w.cell? ⟨g, 1, none⟩ = some v1 ∧ w.cell? ⟨g, 2, none⟩ = some v2 ∧ w.cell? ⟨g, 3, none⟩ = some v3 ∧ w.cell? ⟨g, 4, none⟩ = some v4 ∧ w.cell? ⟨g, 5, none⟩ = some v5 :=
  ⟨h.cell 0 rfl, h.cell 1 rfl, h.cell 2 rfl, h.cell 3 rfl, h.cell 4 rfl, h.cell 5 rfl⟩
abbrev rq (kd pl nn wa : Int) (a1 a2 : Option Addr) (l1 l2 c1 c2 : Nat) : Value := .agg #[.int .i64 kd, .int .i64 pl, .int .i64 nn, .slice a1 l1 c1, .slice a2 l2 c2, .int .i64 wa]
def wrK (kd : Int) : Bool := decide (kd = 5 ∨ kd = 6 ∨ kd = 15 ∨ kd = 16 ∨ kd = 22 ∨ kd = 23)
end Go.Proofs.Ytohikbpolofklaa
namespace Go.Proofs.Ytohikbpolofklaa
open Go.RowKit
set_option linter.unusedVariables false
abbrev rp (kd fl pl nn : Int) (a1 a2 : Option Addr) (l1 l2 c1 c2 : Nat) : Value := .agg #[.int .i64 kd, .int .i64 fl, .int .i64 pl, .int .i64 nn, .slice a1 l1 c1, .slice a2 l2 c2]
set_option maxHeartbeats 2000000 in
theorem szResp_at (kd fl pl nn : Int) (a1 a2 : Option Addr) (l1 l2 c1 c2 : Nat) (m : Int) (w : World) (hm : m ≤ 1048576) (h : (l1 : Int) + (l2 : Int) ≤ m) :
    Calls Try.prog 5 #[.agg #[.int .i64 kd, .int .i64 fl, .int .i64 pl, .int .i64 nn, .slice a1 l1 c1, .slice a2 l2 c2], .int .i64 m] w fun e w' => e = .returned (.int .i64 (m - (l1 : Int) - (l2 : Int))) ∧ Below w.heap.size w w' := by
  have h1 : ¬ (m - (l1 : Int) < 0) := by omega
  have h2 : ¬ (m - (l1 : Int) - (l2 : Int) < 0) := by omega
  go_enter Try.func5, Try.ntmps5
  go_wp2_with (first | (go_at_call 16; go_in) | (go_at_call 17; go_in))
  go_ret
  exact ⟨rfl, bel_alloc _ _⟩
set_option maxHeartbeats 2000000 in
theorem szResp_over (kd fl pl nn : Int) (a1 a2 : Option Addr) (l1 l2 c1 c2 : Nat) (m : Int) (w : World) (hm0 : 0 ≤ m) (hm : m ≤ 1048576) (hm1 : l1 ≤ maxLen) (hm2 : l2 ≤ maxLen) (h : ¬ (l1 : Int) + (l2 : Int) ≤ m) :
    Calls Try.prog 5 #[.agg #[.int .i64 kd, .int .i64 fl, .int .i64 pl, .int .i64 nn, .slice a1 l1 c1, .slice a2 l2 c2], .int .i64 m] w fun e w' => e = .returned (.int .i64 (-1)) ∧ Below w.heap.size w w' := by
  unfold maxLen at hm1 hm2
  by_cases h1 : m - (l1 : Int) < 0
  · go_enter Try.func5, Try.ntmps5
    go_wp2_with (first | (go_at_call 16; go_in) | (go_at_call 17; go_in))
    go_ret
    exact ⟨rfl, bel_alloc _ _⟩
  · have h2 : m - (l1 : Int) - (l2 : Int) < 0 := by omega
    go_enter Try.func5, Try.ntmps5
    go_wp2_with (first | (go_at_call 16; go_in) | (go_at_call 17; go_in))
    go_ret
    exact ⟨rfl, bel_alloc _ _⟩
theorem rowp_set6 {w : World} {base size n g : Nat} {e t : TypeId} {v v0 v1 v2 v3 v4 v5 : Value} {xs : List Value} (h : w.ownsRow base e size v n xs) (hb : ExB w g t) (ht : t ≠ e) :
    ((((((w.setCell ⟨g, 0, none⟩ v0).setCell ⟨g, 1, none⟩ v1).setCell ⟨g, 2, none⟩ v2).setCell ⟨g, 3, none⟩ v3).setCell ⟨g, 4, none⟩ v4).setCell ⟨g, 5, none⟩ v5).ownsRow base e size v n xs :=
  row_setE (row_setE (row_setE (row_setE (row_setE (row_setE h hb ht) (ExB.set hb) ht) (ExB.set (ExB.set hb)) ht) (ExB.set (ExB.set (ExB.set hb))) ht) (ExB.set (ExB.set (ExB.set (ExB.set hb)))) ht) (ExB.set (ExB.set (ExB.set (ExB.set (ExB.set hb))))) ht
theorem belp_set6 {B : Nat} {W w : World} {g : Nat} {v0 v1 v2 v3 v4 v5 : Value} (hb : Below B W w) (hg : B ≤ g) :
    Below B W ((((((w.setCell ⟨g, 0, none⟩ v0).setCell ⟨g, 1, none⟩ v1).setCell ⟨g, 2, none⟩ v2).setCell ⟨g, 3, none⟩ v3).setCell ⟨g, 4, none⟩ v4).setCell ⟨g, 5, none⟩ v5) :=
  (((((hb.setCell (p := ⟨g, 0, none⟩) hg _).setCell (p := ⟨g, 1, none⟩) hg _).setCell (p := ⟨g, 2, none⟩) hg _).setCell (p := ⟨g, 3, none⟩) hg _).setCell (p := ⟨g, 4, none⟩) hg _).setCell (p := ⟨g, 5, none⟩) hg _
set_option maxRecDepth 20000 in
set_option maxHeartbeats 4000000 in
theorem toResp_any (kd fl pl nn : Int) (a1 a2 : Option Addr) (l1 l2 c1 c2 : Nat) (ws : List Int) (bs : List Bool) (w : World) (h1 : l1 = ws.length) (h2 : l2 = bs.length) (s1 : SlI w a1 ws) (s2 : SlB w a2 bs) (hl1 : l1 ≤ 2000000) (hl2 : l2 ≤ 2000000) :
    Calls Try.prog 8 #[.agg #[.int .i64 kd, .int .i64 fl, .int .i64 pl, .int .i64 nn, .slice a1 l1 c1, .slice a2 l2 c2]] w fun e w' => ∃ g1 g2, e = .returned (.agg #[.int .i64 kd, .int .i64 fl, .int .i64 pl, .int .i64 nn, .slice (some ⟨g1, 0, none⟩) l1 l1, .slice (some ⟨g2, 0, none⟩) l2 l2]) ∧
      OwnI w' w.heap.size (.slice (some ⟨g1, 0, none⟩) l1 l1) ws ∧ OwnB w' w.heap.size (.slice (some ⟨g2, 0, none⟩) l2 l2) bs ∧ Below w.heap.size w w' := by
  have H1 : Hid (l1 = ws.length) := h1
  have H2 : Hid (l2 = bs.length) := h2
  have HL : Hid (ws.length ≤ 2000000 ∧ bs.length ≤ 20000000) := by show _ ∧ _; omega
  obtain ⟨W0, hW0'⟩ : ∃ W0, W0 = ((w.alloc (.cells #[.int .i64 kd, .int .i64 fl, .int .i64 pl, .int .i64 nn, .slice a1 l1 c1, .slice a2 l2 c2] 28)).alloc (.cells #[.int .i64 0, .int .i64 0, .int .i64 0, .int .i64 0, .slice none 0 0, .slice none 0 0] 34)).alloc (.cells #[.int .i64 kd, .int .i64 fl, .int .i64 pl, .int .i64 nn, .slice none 0 0, .slice none 0 0] 34) := ⟨_, rfl⟩
  have hW0 : Hid (W0 = _) := hW0'
  have hz : W0.heap.size = w.heap.size + 1 + 1 + 1 := by rw [hW0']; simp
  have B0 : Below w.heap.size w W0 := by rw [hW0']; exact bel_next (bel_next (bel_alloc w _) (bel_alloc _ _)) (bel_alloc _ _)
  have A0 : Blk W0 w.heap.size 28 #[.int .i64 kd, .int .i64 fl, .int .i64 pl, .int .i64 nn, .slice a1 l1 c1, .slice a2 l2 c2] := by rw [hW0']; exact ((Blk.new w _ _).below (bel_alloc _ _)).below (bel_alloc _ _)
  have R0 : Blk W0 (w.heap.size + 1) 34 #[.int .i64 0, .int .i64 0, .int .i64 0, .int .i64 0, .slice none 0 0, .slice none 0 0] := by
    rw [hW0']; have := (Blk.new (w.alloc (.cells #[.int .i64 kd, .int .i64 fl, .int .i64 pl, .int .i64 nn, .slice a1 l1 c1, .slice a2 l2 c2] 28)) #[.int .i64 0, .int .i64 0, .int .i64 0, .int .i64 0, .slice none 0 0, .slice none 0 0] 34).below (bel_alloc _ (.cells #[.int .i64 kd, .int .i64 fl, .int .i64 pl, .int .i64 nn, .slice none 0 0, .slice none 0 0] 34)); simpa using this
  have O0 : Blk W0 (w.heap.size + 1 + 1) 34 #[.int .i64 kd, .int .i64 fl, .int .i64 pl, .int .i64 nn, .slice none 0 0, .slice none 0 0] := by
    rw [hW0']; have := Blk.new ((w.alloc (.cells #[.int .i64 kd, .int .i64 fl, .int .i64 pl, .int .i64 nn, .slice a1 l1 c1, .slice a2 l2 c2] 28)).alloc (.cells #[.int .i64 0, .int .i64 0, .int .i64 0, .int .i64 0, .slice none 0 0, .slice none 0 0] 34)) #[.int .i64 kd, .int .i64 fl, .int .i64 pl, .int .i64 nn, .slice none 0 0, .slice none 0 0] 34; simpa using this
  have S1 : Hid (SlI W0 a1 ws) := s1.below B0
  have S2 : Hid (SlB w a2 bs) := s2
  have c03 := A0.cell 4 rfl
  clear h1 h2 s1 s2 hW0'
  go_enter Try.func8, Try.ntmps8
  go_upto_region 6 with fail
  rw [← hW0.out]
  go_wp2_with fail
  refine (toIntS_ok a1 l1 c1 ws _ H1.out S1.out HL.out.1).mono ?_
  rintro e w1 ⟨g1, rfl, i1, b1'⟩
  have b1 := bel_next B0 b1'
  have A1 := A0.below b1'
  have R1 := R0.below b1'
  have O1 := O0.below b1'
  have co := O1.cell 4 rfl
  have fo := O1.fro 4
  have A2 := A1.setNe (g' := w.heap.size + 1 + 1) (j := 4) (y := .slice (some ⟨g1, 0, none⟩) l1 l1) (by omega)
  have R2 := R1.setNe (g' := w.heap.size + 1 + 1) (j := 4) (y := .slice (some ⟨g1, 0, none⟩) l1 l1) (by omega)
  have O2 := O1.set 4 (.slice (some ⟨g1, 0, none⟩) l1 l1)
  have I2 : OwnI (w1.setCell ⟨w.heap.size + 1 + 1, 4, none⟩ (.slice (some ⟨g1, 0, none⟩) l1 l1)) W0.heap.size (.slice (some ⟨g1, 0, none⟩) l1 l1) ws := row_set i1 O1 (by decide)
  have b2 := b1.setCell (p := ⟨w.heap.size + 1 + 1, 4, none⟩) (by show w.heap.size ≤ w.heap.size + 1 + 1; omega) (.slice (some ⟨g1, 0, none⟩) l1 l1)
  clear b1' B0 A0 R0 O0 A1 R1 O1 i1 b1 c03
  go_upto_region 7 with fail
  generalize w1.setCell ⟨w.heap.size + 1 + 1, 4, none⟩ (.slice (some ⟨g1, 0, none⟩) l1 l1) = w2 at *
  have c04 := A2.cell 5 rfl
  clear co fo
  go_wp2_with fail
  refine (toBoolS_ok a2 l2 c2 bs _ H2.out (S2_below S2.out b2) HL.out.2).mono ?_
  rintro e w3 ⟨g2, rfl, j3, b3'⟩
  have b3 := bel_next b2 b3'
  have R3 := R2.below b3'
  have O3 := O2.below b3'
  have I3 := I2.below b3'
  have o0 := O3.cell 0 rfl
  have o1 := O3.cell 1 rfl
  have o2 := O3.cell 2 rfl
  have o3 := O3.cell 3 rfl
  have o4 := O3.cell 4 rfl
  have o5 := O3.cell 5 rfl
  have r0 := R3.cell 0 rfl
  have r1 := R3.cell 1 rfl
  have r2 := R3.cell 2 rfl
  have r3 := R3.cell 3 rfl
  have r4 := R3.cell 4 rfl
  have r5 := R3.cell 5 rfl
  have fo := O3.fro
  have fr := R3.fro
  have HH : Hid (OwnI w3 W0.heap.size (.slice (some ⟨g1, 0, none⟩) l1 l1) ws) := I3
  have b2s : Hid (w.heap.size ≤ w2.heap.size) := b2.size
  have eO : ExB w3 (w.heap.size + 1 + 1) 34 := ⟨_, O3⟩
  have eR : ExB w3 (w.heap.size + 1) 34 := ⟨_, R3⟩
  have HJ : Hid (OwnB w3 w2.heap.size (.slice (some ⟨g2, 0, none⟩) l2 l2) bs ∧ Below w.heap.size w w3 ∧ ExB w3 (w.heap.size + 1 + 1) 34 ∧ ExB w3 (w.heap.size + 1) 34) := ⟨j3, b3, eO, eR⟩
  have hz2 : w.heap.size ≤ w2.heap.size := by have := b2s.out; omega
  have hz0 : w.heap.size ≤ W0.heap.size := by omega
  clear A2 R2 O2 I2 b3' b2 c04 I3 O3 R3 j3 b3 eO eR
  go_wp2
  refine bodyPost_ret (v := .agg #[.int .i64 kd, .int .i64 fl, .int .i64 pl, .int .i64 nn, .slice (some ⟨g1, 0, none⟩) l1 l1, .slice (some ⟨g2, 0, none⟩) l2 l2]) (by simp [results, Try.results8, go_sem, r0, r1, r2, r3, r4, r5]) rfl ?_
  obtain ⟨j3, b3, eO, eR⟩ := HJ.out
  refine ⟨g1, g2, rfl, ?_, ?_, ?_⟩
  · exact OwnI.mono (show OwnI _ _ _ _ from rowp_set6 (row_setE HH.out eO (by decide)) (ExB.set eR) (by decide)) hz0
  · exact OwnB.mono (show OwnB _ _ _ _ from rowp_set6 (row_setE j3 eO (by decide)) (ExB.set eR) (by decide)) hz2
  · exact belp_set6 (b3.setCell (p := ⟨w.heap.size + 1 + 1, 5, none⟩) (by show w.heap.size ≤ w.heap.size + 1 + 1; omega) _) (Nat.le_succ _)
set_option maxHeartbeats 2000000 in
theorem eqResp_true (kd fl pl nn : Int) (a1 a2 a1' a2' : Option Addr) (l1 l2 l1' l2' c1 c2 c1' c2' : Nat) (ws : List Int) (bs : List Bool) (w : World) (h1 : l1 = ws.length) (h2 : l2 = bs.length) (h1' : l1' = ws.length) (h2' : l2' = bs.length) (s1 : SlI w a1 ws) (s2 : SlB w a2 bs) (s1' : SlI w a1' ws) (s2' : SlB w a2' bs) (hl1 : ws.length ≤ 2000000) (hl2 : bs.length ≤ 2000000) :
    Calls Try.prog 11 #[.agg #[.int .i64 kd, .int .i64 fl, .int .i64 pl, .int .i64 nn, .slice a1 l1 c1, .slice a2 l2 c2], .agg #[.int .i64 kd, .int .i64 fl, .int .i64 pl, .int .i64 nn, .slice a1' l1' c1', .slice a2' l2' c2']] w fun e w' => e = .returned (.bool true) ∧ Below w.heap.size w w' := by
  obtain ⟨W0, hW0'⟩ : ∃ W0, W0 = (w.alloc (.cells #[.int .i64 kd, .int .i64 fl, .int .i64 pl, .int .i64 nn, .slice a1 l1 c1, .slice a2 l2 c2] 34)).alloc (.cells #[.int .i64 kd, .int .i64 fl, .int .i64 pl, .int .i64 nn, .slice a1' l1' c1', .slice a2' l2' c2'] 34) := ⟨_, rfl⟩
  have hW0 : Hid (W0 = _) := hW0'
  have B0 : Below w.heap.size w W0 := by rw [hW0']; exact bel_next (bel_alloc w _) (bel_alloc _ _)
  have X0 : Blk W0 w.heap.size 34 #[.int .i64 kd, .int .i64 fl, .int .i64 pl, .int .i64 nn, .slice a1 l1 c1, .slice a2 l2 c2] := by rw [hW0']; exact (Blk.new w _ _).below (bel_alloc _ _)
  have Y0 : Blk W0 (w.heap.size + 1) 34 #[.int .i64 kd, .int .i64 fl, .int .i64 pl, .int .i64 nn, .slice a1' l1' c1', .slice a2' l2' c2'] := by
    rw [hW0']; have := Blk.new (w.alloc (.cells #[.int .i64 kd, .int .i64 fl, .int .i64 pl, .int .i64 nn, .slice a1 l1 c1, .slice a2 l2 c2] 34)) #[.int .i64 kd, .int .i64 fl, .int .i64 pl, .int .i64 nn, .slice a1' l1' c1', .slice a2' l2' c2'] 34; simpa using this
  have HH : Hid (l1 = ws.length ∧ l2 = bs.length ∧ l1' = ws.length ∧ l2' = bs.length ∧ SlI W0 a1 ws ∧ SlB W0 a2 bs ∧ SlI W0 a1' ws ∧ SlB W0 a2' bs) := ⟨h1, h2, h1', h2', s1.below B0, s2.below B0, s1'.below B0, s2'.below B0⟩
  obtain ⟨x0, x1, x2, x3, x4, x5⟩ := X0.six
  obtain ⟨y0, y1, y2, y3, y4, y5⟩ := Y0.six
  clear h1 h2 h1' h2' s1 s2 s1' s2' hW0'
  go_enter Try.func11, Try.ntmps11
  go_upto_region 1 with fail
  rw [← hW0.out]
  go_wp2_with fail
  refine (eqIntS_ok _ _ _ _ _ _ ws _ HH.out.1 HH.out.2.2.1 HH.out.2.2.2.2.1 HH.out.2.2.2.2.2.2.1 hl1).mono ?_
  rintro e w1 ⟨rfl, b1'⟩
  have b1 := bel_next B0 b1'
  have X1 := X0.below b1'
  have Y1 := Y0.below b1'
  have S1 : Hid (SlB w1 a2 bs ∧ SlB w1 a2' bs) := ⟨HH.out.2.2.2.2.2.1.below b1', HH.out.2.2.2.2.2.2.2.below b1'⟩
  clear x0 x1 x2 x3 x4 x5 y0 y1 y2 y3 y4 y5 X0 Y0 B0 b1'
  have x5 := X1.cell 5 rfl
  have y5 := Y1.cell 5 rfl
  go_wp2_with fail
  refine (eqBoolS_ok _ _ _ _ _ _ bs _ HH.out.2.1 HH.out.2.2.2.1 S1.out.1 S1.out.2 (by omega)).mono ?_
  rintro e w2 ⟨rfl, b2'⟩
  have b2 := bel_next b1 b2'
  go_wp2
  go_ret
  exact ⟨rfl, b2⟩
end Go.Proofs.Ytohikbpolofklaa
namespace Go.Proofs.Ytohikbpolofklaa
open Go.RowKit
def word2 (x y : Int) : Int := bits BinOp.or IntKind.i64 (x * 256) y
end Go.Proofs.Ytohikbpolofklaa
namespace Go.Proofs.Ytohikbpolofklaa
open Go.RowKit
set_option linter.unusedVariables false
def inB (x lo hi : Int) : Bool := decide (lo ≤ x ∧ x ≤ hi)
def allW (ws : List Int) : Bool := decide (∀ k, k < ws.length → 0 ≤ ws.getD k 0 ∧ ws.getD k 0 ≤ 65535)
def fitB (p n : Int) : Bool := decide (0 ≤ p ∧ p ≤ 65535 ∧ p + n ≤ 65536)
def rnB (p n most : Int) : Bool := decide (1 ≤ n ∧ n ≤ most ∧ 0 ≤ p ∧ p + n ≤ 65536)
def zrB (n w b a : Bool) (nn : Int) (l1 l2 : Nat) (wa : Int) : Bool := (n || decide (nn = 0)) && ((w || decide (l1 = 0)) && ((b || decide (l2 = 0)) && (a || decide (wa = 0))))
set_option maxHeartbeats 1000000 in
theorem l1In_any (x lo hi : Int) (w : World) (b : Bool) (hb : inB x lo hi = b) : Calls Try.prog 38 #[.int .i64 x, .int .i64 lo, .int .i64 hi] w fun e w' => e = .returned (.bool b) ∧ w' = w := by
  subst hb
  unfold inB
  by_cases h1 : lo ≤ x
  · by_cases h2 : x ≤ hi
    · rw [decide_eq_true (show lo ≤ x ∧ x ≤ hi from ⟨h1, h2⟩)]
      go_enter Try.func38, Try.ntmps38
      go_wp2
      go_ret
      exact ⟨rfl, rfl⟩
    · rw [decide_eq_false (show ¬ (lo ≤ x ∧ x ≤ hi) from fun h => h2 h.2)]
      go_enter Try.func38, Try.ntmps38
      go_wp2
      go_ret
      exact ⟨rfl, rfl⟩
  · rw [decide_eq_false (show ¬ (lo ≤ x ∧ x ≤ hi) from fun h => h1 h.1)]
    go_enter Try.func38, Try.ntmps38
    go_wp2
    go_ret
    exact ⟨rfl, rfl⟩
set_option maxHeartbeats 1000000 in
theorem isWord_any (x : Int) (w : World) (b : Bool) (hb : inB x 0 65535 = b) : Calls Try.prog 56 #[.int .i64 x] w fun e w' => e = .returned (.bool b) ∧ w' = w := by
  subst hb
  unfold inB
  by_cases h1 : 0 ≤ x
  · by_cases h2 : x ≤ 65535
    · rw [decide_eq_true (show 0 ≤ x ∧ x ≤ 65535 from ⟨h1, h2⟩)]
      go_enter Try.func56, Try.ntmps56
      go_wp2
      go_ret
      exact ⟨rfl, rfl⟩
    · rw [decide_eq_false (show ¬ (0 ≤ x ∧ x ≤ 65535) from fun h => h2 h.2)]
      go_enter Try.func56, Try.ntmps56
      go_wp2
      go_ret
      exact ⟨rfl, rfl⟩
  · rw [decide_eq_false (show ¬ (0 ≤ x ∧ x ≤ 65535) from fun h => h1 h.1)]
    go_enter Try.func56, Try.ntmps56
    go_wp2
    go_ret
    exact ⟨rfl, rfl⟩
theorem allW_bad {zs : List Int} {k : Nat} (h : k < zs.length) (hb : ¬ (0 ≤ zs.getD k 0 ∧ zs.getD k 0 ≤ 65535)) : allW zs = false := by
  unfold allW; exact decide_eq_false (fun hh => hb (hh k h))
theorem allW_good {zs : List Int} (hb : ∀ k, k < zs.length → 0 ≤ zs.getD k 0 ∧ zs.getD k 0 ≤ 65535) : allW zs = true := by
  unfold allW; exact decide_eq_true hb
set_option maxHeartbeats 1000000 in
theorem l3Words_any (a : Option Addr) (n cap : Nat) (zs : List Int) (w : World) (hn : n = zs.length) (hs : SlI w a zs) (hl : zs.length ≤ 2000000) (b : Bool) (hb : allW zs = b) :
    Calls Try.prog 39 #[.slice a n cap] w fun e w' => e = .returned (.bool b) ∧ w' = w := by
  subst hn
  go_enter Try.func39, Try.ntmps39
  go_wp2
  go_loop [3] (fun i => ∃ k : Nat, k ≤ zs.length ∧ i = .int .i64 k ∧ ∀ j, j < k → 0 ≤ zs.getD j 0 ∧ zs.getD j 0 ≤ 65535) (fun i => zs.length - (intOf i).toNat)
  case atStart => exact ⟨0, Nat.zero_le _, rfl, fun j hj => absurd hj (Nat.not_lt_zero _)⟩
  case round =>
    obtain ⟨k, hk, rfl, hg⟩ := hrel
    have HG : Hid (∀ j, j < k → 0 ≤ zs.getD j 0 ∧ zs.getD j 0 ≤ 65535) := hg
    clear hg
    by_cases hlt : k < zs.length
    · obtain ⟨bb, off, rfl, _, hc⟩ := cell_atI hs hlt
      have hi : (k : Int) < (zs.length : Int) := by omega
      obtain ⟨x, hx⟩ : ∃ x, x = zs.getD k 0 := ⟨_, rfl⟩
      have HX : Hid (x = zs.getD k 0) := hx
      rw [← hx] at hc
      clear hs hx
      by_cases h1 : 0 ≤ x
      · by_cases h2 : x ≤ 65535
        · go_wp2_with (go_at_call 38; go_in)
          go_round
          case rel =>
            first
              | exact ⟨k + 1, by omega, by go_num, fun j hj => by
                  by_cases e : j = k
                  · subst e; rw [← HX.out]; exact ⟨h1, h2⟩
                  · exact HG.out j (by omega)⟩
              | exact ⟨_, _, ⟨k + 1, by omega, by go_num, fun j hj => by
                  by_cases e : j = k
                  · subst e; rw [← HX.out]; exact ⟨h1, h2⟩
                  · exact HG.out j (by omega)⟩, rfl, rfl⟩
          case measure => simp [intOf]; omega
        · have hf := allW_bad hlt (by rw [← HX.out]; exact fun h => h2 h.2)
          rw [hf] at hb
          subst hb
          go_wp2_with (go_at_call 38; go_in)
          go_ret
          exact ⟨rfl, rfl⟩
      · have hf := allW_bad hlt (by rw [← HX.out]; exact fun h => h1 h.1)
        rw [hf] at hb
        subst hb
        go_wp2_with (go_at_call 38; go_in)
        go_ret
        exact ⟨rfl, rfl⟩
    · have hf := allW_good (zs := zs) (fun j hj => HG.out j (by omega))
      rw [hf] at hb
      subst hb
      clear hs
      go_wp2
      go_ret
      exact ⟨rfl, rfl⟩
set_option maxHeartbeats 1000000 in
theorem areWords_any (a : Option Addr) (n cap : Nat) (zs : List Int) (w : World) (hn : n = zs.length) (hs : SlI w a zs) (hl : zs.length ≤ 2000000) (b : Bool) (hb : allW zs = b) :
    Calls Try.prog 55 #[.slice a n cap] w fun e w' => e = .returned (.bool b) ∧ w' = w := by
  subst hn
  go_enter Try.func55, Try.ntmps55
  go_wp2
  go_loop [7] (fun i => ∃ k : Nat, k ≤ zs.length ∧ i = .int .i64 k ∧ ∀ j, j < k → 0 ≤ zs.getD j 0 ∧ zs.getD j 0 ≤ 65535) (fun i => zs.length - (intOf i).toNat)
  case atStart => exact ⟨0, Nat.zero_le _, rfl, fun j hj => absurd hj (Nat.not_lt_zero _)⟩
  case round =>
    obtain ⟨k, hk, rfl, hg⟩ := hrel
    have HG : Hid (∀ j, j < k → 0 ≤ zs.getD j 0 ∧ zs.getD j 0 ≤ 65535) := hg
    clear hg
    by_cases hlt : k < zs.length
    · obtain ⟨bb, off, rfl, _, hc⟩ := cell_atI hs hlt
      have hi : (k : Int) < (zs.length : Int) := by omega
      obtain ⟨x, hx⟩ : ∃ x, x = zs.getD k 0 := ⟨_, rfl⟩
      have HX : Hid (x = zs.getD k 0) := hx
      rw [← hx] at hc
      clear hs hx
      by_cases h1 : 0 ≤ x
      · by_cases h2 : x ≤ 65535
        · go_wp2_with (go_at_call 56; go_in)
          go_round
          case rel =>
            first
              | exact ⟨k + 1, by omega, by go_num, fun j hj => by
                  by_cases e : j = k
                  · subst e; rw [← HX.out]; exact ⟨h1, h2⟩
                  · exact HG.out j (by omega)⟩
              | exact ⟨_, _, ⟨k + 1, by omega, by go_num, fun j hj => by
                  by_cases e : j = k
                  · subst e; rw [← HX.out]; exact ⟨h1, h2⟩
                  · exact HG.out j (by omega)⟩, rfl, rfl⟩
          case measure => simp [intOf]; omega
        · have hf := allW_bad hlt (by rw [← HX.out]; exact fun h => h2 h.2)
          rw [hf] at hb
          subst hb
          go_wp2_with (go_at_call 56; go_in)
          go_ret
          exact ⟨rfl, rfl⟩
      · have hf := allW_bad hlt (by rw [← HX.out]; exact fun h => h1 h.1)
        rw [hf] at hb
        subst hb
        go_wp2_with (go_at_call 56; go_in)
        go_ret
        exact ⟨rfl, rfl⟩
    · have hf := allW_good (zs := zs) (fun j hj => HG.out j (by omega))
      rw [hf] at hb
      subst hb
      clear hs
      go_wp2
      go_ret
      exact ⟨rfl, rfl⟩
set_option maxHeartbeats 1000000 in
theorem equal_int (a a' : Option Addr) (n n' cap cap' : Nat) (zs : List Int) (w : World) (hn : n = zs.length) (hn' : n' = zs.length) (hs : SlI w a zs) (hs' : SlI w a' zs) (hl : zs.length ≤ 2000000) :
    Calls Try.prog 57 #[.slice a n cap, .slice a' n' cap'] w fun e w' => e = .returned (.bool true) ∧ Below w.heap.size w w' := by
  subst hn hn'
  go_enter Try.func57, Try.ntmps57
  go_wp2
  go_loopw [13] (fun i wr => ∃ k : Nat, k ≤ zs.length ∧ i = .int .i64 k ∧ ∃ n, wr = w.drewN n) (fun i _ => zs.length - (intOf i).toNat)
  case atStart => exact ⟨0, Nat.zero_le _, rfl, 0, rfl⟩
  case round =>
    obtain ⟨k, hk, rfl, n, rfl⟩ := hrel
    by_cases hlt : k < zs.length
    · obtain ⟨b, off, rfl, _, hc⟩ := cell_atI hs hlt
      obtain ⟨b', off', rfl, _, hc'⟩ := cell_atI hs' hlt
      have hi : (k : Int) < (zs.length : Int) := by omega
      clear hs hs'
      go_wp2
      go_quiet (fail)
      go_wp2
      go_roundw
      case rel => first | exact ⟨k + 1, by omega, by go_num, _, rfl⟩ | exact ⟨_, _, ⟨k + 1, by omega, by go_num, _, rfl⟩, rfl, rfl⟩
      case measure => simp [intOf]; omega
    · clear hs hs'
      go_wp2
      go_ret
      exact ⟨rfl, drew_refl _ _⟩
set_option maxHeartbeats 1000000 in
theorem equal_int_len (a a' : Option Addr) (n n' cap cap' : Nat) (w : World) (hne : ¬ (n : Int) = (n' : Int)) (h1 : n ≤ 20000000) (h2 : n' ≤ 20000000) :
    Calls Try.prog 57 #[.slice a n cap, .slice a' n' cap'] w fun e w' => e = .returned (.bool false) ∧ Below w.heap.size w w' := by
  go_enter Try.func57, Try.ntmps57
  go_wp2
  go_ret
  exact ⟨rfl, Below.refl _ _⟩
set_option maxHeartbeats 1000000 in
theorem equal_bool (a a' : Option Addr) (n n' cap cap' : Nat) (zs : List Bool) (w : World) (hn : n = zs.length) (hn' : n' = zs.length) (hs : SlB w a zs) (hs' : SlB w a' zs) (hl : zs.length ≤ 2000000) :
    Calls Try.prog 58 #[.slice a n cap, .slice a' n' cap'] w fun e w' => e = .returned (.bool true) ∧ Below w.heap.size w w' := by
  subst hn hn'
  go_enter Try.func58, Try.ntmps58
  go_wp2
  go_loopw [13] (fun i wr => ∃ k : Nat, k ≤ zs.length ∧ i = .int .i64 k ∧ ∃ n, wr = w.drewN n) (fun i _ => zs.length - (intOf i).toNat)
  case atStart => exact ⟨0, Nat.zero_le _, rfl, 0, rfl⟩
  case round =>
    obtain ⟨k, hk, rfl, n, rfl⟩ := hrel
    by_cases hlt : k < zs.length
    · obtain ⟨b, off, rfl, _, hc⟩ := cell_atB hs hlt
      obtain ⟨b', off', rfl, _, hc'⟩ := cell_atB hs' hlt
      have hi : (k : Int) < (zs.length : Int) := by omega
      clear hs hs'
      go_wp2
      go_quiet (fail)
      go_wp2
      go_roundw
      case rel => first | exact ⟨k + 1, by omega, by go_num, _, rfl⟩ | exact ⟨_, _, ⟨k + 1, by omega, by go_num, _, rfl⟩, rfl, rfl⟩
      case measure => simp [intOf]; omega
    · clear hs hs'
      go_wp2
      go_ret
      exact ⟨rfl, drew_refl _ _⟩
set_option maxHeartbeats 1000000 in
theorem equal_bool_len (a a' : Option Addr) (n n' cap cap' : Nat) (w : World) (hne : ¬ (n : Int) = (n' : Int)) (h1 : n ≤ 20000000) (h2 : n' ≤ 20000000) :
    Calls Try.prog 58 #[.slice a n cap, .slice a' n' cap'] w fun e w' => e = .returned (.bool false) ∧ Below w.heap.size w w' := by
  go_enter Try.func58, Try.ntmps58
  go_wp2
  go_ret
  exact ⟨rfl, Below.refl _ _⟩
end Go.Proofs.Ytohikbpolofklaa
namespace Go.Proofs.Ytohikbpolofklaa
open Go.RowKit
set_option linter.unusedVariables false
def okK (kd pl nn wa : Int) (l1 l2 : Nat) : Bool :=
  if kd = 1 ∨ kd = 2 then zrB true false false false nn l1 l2 wa && (inB nn 1 2000 && fitB pl nn)
  else if kd = 3 ∨ kd = 4 then zrB true false false false nn l1 l2 wa && (inB nn 1 125 && fitB pl nn)
  else if kd = 5 then zrB false false true false nn l1 l2 wa && decide (l2 = 1)
  else if kd = 6 then zrB false true false false nn l1 l2 wa && decide (l1 = 1)
  else if kd = 15 then zrB false false true false nn l1 l2 wa && (inB l2 1 1968 && fitB pl l2)
  else if kd = 16 then zrB false true false false nn l1 l2 wa && (inB l1 1 123 && fitB pl l1)
  else if kd = 22 then zrB false true false false nn l1 l2 wa && decide (l1 = 2)
  else if kd = 23 then zrB true true false true nn l1 l2 wa && (inB nn 1 125 && (fitB pl nn && (inB l1 1 121 && fitB wa l1)))
  else false
def okR (kd pl nn wa : Int) (ws : List Int) (l1 l2 : Nat) : Bool := allW ws && (inB pl 0 65535 && okK kd pl nn wa l1 l2)
theorem inB_yes {x lo hi : Int} (h : inB x lo hi = true) : lo ≤ x ∧ x ≤ hi := by unfold inB at h; exact of_decide_eq_true h
theorem l1In_or (x lo hi : Int) (w : World) : Calls Try.prog 38 #[.int .i64 x, .int .i64 lo, .int .i64 hi] w fun e w' => w' = w ∧ ((inB x lo hi = true ∧ (lo ≤ x ∧ x ≤ hi) ∧ e = .returned (.bool true)) ∨ (inB x lo hi = false ∧ e = .returned (.bool false))) :=
  (l1In_any x lo hi w _ rfl).mono (by rintro e w' ⟨rfl, rfl⟩; cases h : inB x lo hi <;> simp; exact inB_yes h)
theorem bo {n : Nat} {ar : Array Value} {w : World} {b : Bool} {Q : World → Prop} (h : Calls Try.prog n ar w fun e w' => e = .returned (.bool b) ∧ Q w') : Calls Try.prog n ar w fun e w' => Q w' ∧ ((b = true ∧ e = .returned (.bool true)) ∨ (b = false ∧ e = .returned (.bool false))) :=
  h.mono (by rintro e w' ⟨rfl, q⟩; cases b <;> simp [q])
end Go.Proofs.Ytohikbpolofklaa
namespace Go.Proofs.Ytohikbpolofklaa
open Go.RowKit
set_option linter.unusedVariables false
end Go.Proofs.Ytohikbpolofklaa
namespace Go.Proofs.Ytohikbpolofklaa
open Go.RowKit
set_option linter.unusedVariables false
theorem lit_slI2 (w : World) (x y : Int) {g : Nat} (hg : g = w.heap.size) : SlI (w.alloc (.cells #[.int .i64 x, .int .i64 y] 3)) (some ⟨g, 0, none⟩) [x, y] := hg ▸
  .inr ⟨_, 0, rfl, by simp, fun i hi => by
    have : i = 0 ∨ i = 1 := by simp at hi; omega
    rcases this with rfl | rfl <;> simp⟩
end Go.Proofs.Ytohikbpolofklaa
namespace Go.Proofs.Ytohikbpolofklaa
open Go.RowKit
set_option linter.unusedVariables false
set_option linter.unusedSimpArgs false
end Go.Proofs.Ytohikbpolofklaa
namespace Go.Proofs.Ytohikbpolofklaa
open Go.RowKit
set_option linter.unusedVariables false
set_option linter.unusedSimpArgs false
abbrev WfQ (kd pl nn wa : Int) (ws : List Int) : Prop := (∀ n ∈ ws, -9223372036854775808 ≤ n ∧ n ≤ 9223372036854775807) ∧ (Lit.int .i64 kd).wf = true ∧ (Lit.int .i64 pl).wf = true ∧ (Lit.int .i64 nn).wf = true ∧ (Lit.int .i64 wa).wf = true
def spcN (kd nn : Int) (l1 l2 : Nat) : Int := if kd = 5 ∨ kd = 15 then l2 else if kd = 6 ∨ kd = 22 then 1 else if kd = 16 then l1 else nn
def spc0 (kd : Int) : Int := if kd = 1 ∨ kd = 5 ∨ kd = 15 then 0 else if kd = 2 then 1 else if kd = 4 then 3 else 2
def spcV (b : Bool) (kd pl nn : Int) (l1 l2 : Nat) : Value := bif b then .tuple #[.int .i64 (spc0 kd), .int .i64 pl, .int .i64 (spcN kd nn l1 l2)] else .tuple #[.int .i64 (-1), .int .i64 0, .int .i64 0]
end Go.Proofs.Ytohikbpolofklaa
namespace Go.Proofs.Ytohikbpolofklaa
theorem i64_and_mask (n : Int) (k : Nat) (m : Int) (hm : (BitVec.ofInt 64 m).toNat = 2 ^ k - 1) (hk : k ≤ 62) : bits .and .i64 n m = n % ((2 ^ k : Nat) : Int) := by
  have key : (BitVec.ofInt 64 n &&& BitVec.ofInt 64 m).toNat = (n % ((2 ^ 64 : Nat) : Int)).toNat % 2 ^ k := by
    rw [BitVec.toNat_and, BitVec.toNat_ofInt, hm, Nat.and_two_pow_sub_one_eq_mod]
  show IntKind.i64.wrap ((BitVec.ofInt 64 n &&& BitVec.ofInt 64 m).toNat : Nat) = n % ((2 ^ k : Nat) : Int)
  have hlt : 2 ^ k ≤ 2 ^ 62 := Nat.pow_le_pow_right (by decide) hk
  have hpos : 0 < 2 ^ k := Nat.two_pow_pos k
  have e1 : (((n % ((2 ^ 64 : Nat) : Int)).toNat % 2 ^ k : Nat) : Int) = n % ((2 ^ k : Nat) : Int) := by
    have h0 : 0 ≤ n % ((2 ^ 64 : Nat) : Int) := Int.emod_nonneg _ (by decide)
    rw [Int.natCast_emod, Int.toNat_of_nonneg h0]
    refine Int.emod_emod_of_dvd n ?_
    exact Int.natCast_dvd_natCast.2 (Nat.pow_dvd_pow 2 (by omega))
  rw [key, e1, IntKind.wrap_i64]
  have h1 : 0 ≤ n % ((2 ^ k : Nat) : Int) := Int.emod_nonneg _ (by omega)
  have h2 : n % ((2 ^ k : Nat) : Int) < ((2 ^ k : Nat) : Int) := Int.emod_lt_of_pos _ (by omega)
  omega
theorem and16 (n : Int) : bits .and .i64 n 65535 = n % 65536 := i64_and_mask n 16 65535 (by decide) (by decide)
end Go.Proofs.Ytohikbpolofklaa
