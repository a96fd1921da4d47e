/- Slices of bools: read, and made by the call. -/
import Derived.Test.YtmhdneenjoelfaaGreatArgS
import Derived.Test.YtmhdneenjoelfaaGreatMarks
namespace Go.Proofs.YtmhdneenjoelfaaGreat
open Go.RowKit

theorem SlB.below {w w' : World} {a : Option Addr} {zs : List Bool} (h : SlB w a zs) (hb : Below w.heap.size w w') : SlB w' a zs := by
  rcases h with h | ⟨b, off, ha, hlt, hc⟩
  · exact .inl h
  · exact .inr ⟨b, off, ha, by have := hb.size; omega, fun i hi => by rw [hb.cell (p := ⟨b, off + i, none⟩) hlt]; exact hc i hi⟩

theorem SlB.ofRow {w : World} {b n : Nat} {t : TypeId} {zs : List Bool} (h : w.rowIs b t n (fun i => .bool (zs.getD i false))) (hn : zs.length ≤ n) : SlB w (some ⟨b, 0, none⟩) zs :=
  .inr ⟨b, 0, rfl, h.lt, fun i hi => by rw [Nat.zero_add]; exact h.cell (by omega)⟩

theorem cell_atB {w : World} {a : Option Addr} {zs : List Bool} (hs : SlB w a zs) {k : Nat} (hlt : k < zs.length) : ∃ b off, a = some ⟨b, off, none⟩ ∧ b < w.heap.size ∧ w.cell? ⟨b, off + k, none⟩ = some (.bool (zs.getD k false)) := by
  rcases hs with hs | ⟨b, off, h1, h2, h3⟩
  · rw [hs] at hlt; simp at hlt
  · exact ⟨b, off, h1, h2, h3 k hlt⟩

/-- The slice v is the call's own, from block base on, and holds the bytes zs. -/
def OwnB (w : World) (base : Nat) (v : Value) (zs : List Bool) : Prop := w.ownsRow base 4 1 v zs.length (zs.map (Value.bool))

theorem OwnB.sl {w : World} {base n cap : Nat} {a : Option Addr} {zs : List Bool} (h : OwnB w base (.slice a n cap) zs) : n = zs.length ∧ SlB w a zs := by
  obtain ⟨_, h2⟩ := h
  rcases h2 with ⟨h2, h3⟩ | ⟨g, cap', cur, hv, _, hh, hle, _, hs, ht⟩
  · have e : zs = [] := List.eq_nil_of_length_eq_zero h3
    simp only [Value.slice.injEq] at h2
    exact ⟨by rw [h3]; exact h2.2.1, .inl e⟩
  · simp only [Value.slice.injEq] at hv
    refine ⟨hv.2.1, .inr ⟨g, 0, hv.1, (Array.getElem?_eq_some_iff.1 hh).1, fun i hi => ?_⟩⟩
    have e1 : cur.toList[i]? = some (.bool (zs.getD i false)) := by
      have e2 : (cur.toList.take (zs.length * 1))[i]? = (zs.map (Value.bool))[i]? := by rw [ht]
      rw [List.getElem?_take, if_pos (by omega)] at e2
      rw [e2]
      simp [hi]
    simp only [World.cell?, hh, Nat.zero_add]
    rw [Array.getElem?_toList] at e1
    exact e1

theorem OwnB.lt {w : World} {base n cap : Nat} {a : Option Addr} {zs : List Bool} (h : OwnB w base (.slice a n cap) zs) : ∀ k, (Value.slice a n cap).ownBlock = some k → base ≤ k ∧ k < w.heap.size := World.ownsRow.lt h

theorem OwnB.kept {w w' : World} {base : Nat} {v : Value} {row : Option Nat} {zs : List Bool} (h : OwnB w base v zs) (hg : w.grownBy w' row) (hne : v.ownBlock = none ∨ v.ownBlock ≠ row) : OwnB w' base v zs := World.ownsRow.kept h hg hne

theorem OwnB.below {w w' : World} {base : Nat} {v : Value} {zs : List Bool} (h : OwnB w base v zs) (hb : Below w.heap.size w w') : OwnB w' base v zs := by
  refine h.kept (grown_below hb (some w.heap.size)) ?_
  cases e : v.ownBlock with
  | none => exact .inl rfl
  | some k => exact .inr (fun e2 => by have := (World.ownsRow.lt h k e).2; simp at e2; omega)

theorem OwnB.ofRow {w : World} {base b n : Nat} {zs : List Bool} (h : w.rowIs b 4 n (fun i => .bool (zs.getD i false))) (hn : n = zs.length) (hb : base ≤ b) (hm : n ≤ maxLen) : OwnB w base (.slice (some ⟨b, 0, none⟩) n n) zs := by
  subst hn
  obtain ⟨c, hc, hsz, hcell⟩ := h
  refine ⟨by simp, .inr ⟨b, zs.length, c, rfl, hb, hc, Nat.le_refl _, hm, by simpa using hsz, ?_⟩⟩
  apply List.ext_getElem?
  intro i
  by_cases hi : i < zs.length
  · rw [List.getElem?_take, if_pos (by omega), Array.getElem?_toList, hcell i hi]
    simp [hi]
  · rw [List.getElem?_eq_none (by simp; omega), List.getElem?_eq_none (by simp; omega)]

theorem Tryz.info4 : (Tryz.prog.info? 4).map (fun i => (i.zero, i.size, i.bytes)) = some (some (.bool false), 1, 1) := by kernel_rfl

set_option maxHeartbeats 1000000 in
theorem toBoolS_any (a : Option Addr) (n cap : Nat) (zs : List Bool) (w : World) (hn : n = zs.length) (hs : SlB w a zs) (hl : zs.length ≤ 20000000) :
    Calls Tryz.prog 74 #[.slice a n cap] w fun e w' => e = .returned (.slice (some ⟨w.heap.size, 0, none⟩) n n) ∧
      w'.rowIs w.heap.size 4 n (fun i => .bool (zs.getD i false)) ∧ Below w.heap.size w w' := by
  subst hn
  have hmk := run_make_row' (P := Tryz.prog) 26 4 (.bool false) 1 Tryz.underlying26 Tryz.info4 rfl .i64 .i64 zs.length (by omega) (by omega)
  go_enter Tryz.func74, Tryz.ntmps74
  go_wp2
  clear hmk
  go_loopw [4] (fun i wr => ∃ k : Nat, k ≤ zs.length ∧ i = .int .i64 k ∧ wr.rowIs w.heap.size 4 zs.length (fun i => if i < k then .bool (zs.getD i false) else .bool false) ∧ Below w.heap.size w wr) (fun i _ => zs.length - (intOf i).toNat)
  case atStart => exact ⟨0, Nat.zero_le _, rfl, (World.rowIs_made w _ _ _).congr (fun i _ => by simp), (Below.refl _ _).alloc (Nat.le_refl _) _⟩
  case round =>
    obtain ⟨k, hk, rfl, hrow, hb⟩ := hrel
    by_cases hlt : k < zs.length
    · obtain ⟨b, off, rfl, hb0, hc0⟩ := cell_atB hs hlt
      have hc : wr.cell? ⟨b, off + k, none⟩ = some (.bool (zs.getD k false)) := by rw [hb.cell (p := ⟨b, off + k, none⟩) hb0]; exact hc0
      have hst := hrow.cell hlt
      simp only [Nat.lt_irrefl, if_false] at hst
      have hfz := hrow.frozen k
      have hi : (k : Int) < (zs.length : Int) := by omega
      have R : Hid ((wr.setCell ⟨w.heap.size, k, none⟩ (.bool (zs.getD k false))).rowIs w.heap.size 4 zs.length (fun i => if i < k + 1 then .bool (zs.getD i false) else .bool false)) := by
        refine (hrow.set k _).congr (fun i _ => ?_)
        by_cases e : i = k
        · subst e; simp
        · rw [if_neg e]
          by_cases h : i < k
          · rw [if_pos h, if_pos (by omega)]
          · rw [if_neg h, if_neg (by omega)]
      have B1 : Below w.heap.size w (wr.setCell ⟨w.heap.size, k, none⟩ (.bool (zs.getD k false))) := hb.setCell (Nat.le_refl _) _
      clear hrow hb hc0 hs
      go_wp2
      go_roundw
      case rel => exact ⟨k + 1, by omega, by go_num, by simpa [hlt] using R.out, by simpa [hlt] using B1⟩
      case measure => simp [intOf]; omega
    · have hkk : k = zs.length := by omega
      have R : Hid (wr.rowIs w.heap.size 4 zs.length (fun i => .bool (zs.getD i false))) := hrow.congr (fun i hi => by rw [if_pos (by omega)])
      clear hrow hs hkk
      go_wp2
      go_ret
      exact ⟨rfl, R.out, hb⟩

set_option maxHeartbeats 1000000 in
theorem eqBoolS_true (a a' : Option Addr) (n n' cap cap' : Nat) (zs : List Bool) (w : World) (hn : n = zs.length) (hn' : n' = zs.length) (hs : SlB w a zs) (hs' : SlB w a' zs) (hl : zs.length ≤ 20000000) :
    Calls Tryz.prog 76 #[.slice a n cap, .slice a' n' cap'] w fun e w' => e = .returned (.bool true) ∧ ∃ n, w' = w.drewN n := by
  subst hn hn'
  go_enter Tryz.func76, Tryz.ntmps76
  go_wp2
  go_loopw [5] (fun i wr => ∃ k : Nat, k ≤ zs.length ∧ i = .int .i64 k ∧ ∃ n, wr = w.drewN n) (fun i _ => zs.length - (intOf i).toNat)
  case atStart => exact ⟨0, Nat.zero_le _, rfl, 0, rfl⟩
  case round =>
    obtain ⟨k, hk, rfl, n, rfl⟩ := hrel
    by_cases hlt : k < zs.length
    · obtain ⟨b, off, rfl, _, hc⟩ := cell_atB hs hlt
      obtain ⟨b', off', rfl, _, hc'⟩ := cell_atB hs' hlt
      have hi : (k : Int) < (zs.length : Int) := by omega
      clear hs hs'
      go_wp2
      go_quiet (fail)
      go_wp2
      go_roundw
      case rel => exact ⟨k + 1, by omega, by go_num, _, rfl⟩
      case measure => simp [intOf]; omega
    · clear hs hs'
      go_wp2
      go_ret
      exact ⟨rfl, _, rfl⟩

/-- A row of bytes of one length, its cells written. -/
theorem OwnB.cells {w : World} {base n cap : Nat} {a : Option Addr} {zs : List Bool} (h : OwnB w base (.slice a n cap) zs) (hn : 0 < n) :
    ∃ g cur, a = some ⟨g, 0, none⟩ ∧ base ≤ g ∧ g < w.heap.size ∧ w.heap[g]? = some (.cells cur 4 (0, 0)) ∧ n ≤ cap ∧ cap ≤ maxLen ∧ cur.size = cap := by
  obtain ⟨_, h2⟩ := h
  rcases h2 with ⟨h2, h3⟩ | ⟨g, cap', cur, hv, hb, hh, hle, hm, hs, _⟩
  · simp only [Value.slice.injEq] at h2; omega
  · simp only [Value.slice.injEq] at hv
    obtain ⟨rfl, h4, rfl⟩ := hv
    exact ⟨g, cur, rfl, hb, (Array.getElem?_eq_some_iff.1 hh).1, hh, by omega, hm, by simpa using hs⟩

/-- The marks s, s + 1, .. as bytes. -/
def marksB (s n : Nat) : List Bool := (List.range n).map (fun i : Nat => ((s : Int) + (i : Int)) % 3 == 0)

theorem marksB_length (s n : Nat) : (marksB s n).length = n := by simp [marksB]

theorem marksB_get (s n i : Nat) (h : i < n) : (marksB s n).getD i false = (((s : Int) + (i : Int)) % 3 == 0) := by simp [marksB, h]

/-- Behind k marks. -/
def MarkedB (s : Nat) (w wr : World) (g cap k : Nat) : Prop :=
  w.grownBy wr (some g) ∧ ∃ cur, wr.heap[g]? = some (.cells cur 4 (0, 0)) ∧ cur.size = cap ∧ ∀ i, i < k → cur[i]? = some (.bool (((s : Int) + (i : Int)) % 3 == 0))

theorem markedB_step {w wr : World} {s g cap k : Nat} (h : MarkedB s w wr g cap k) (hk : k < cap) : MarkedB s w (wr.setCell ⟨g, k, none⟩ (.bool (((s : Int) + (k : Int)) % 3 == 0))) g cap (k + 1) := by
  obtain ⟨hg, cur, hh, hs, hc⟩ := h
  refine ⟨⟨hg.os, hg.tape, hg.output, by simpa [World.setCell] using hg.size, fun j hj hne => ?_⟩, cur.setIfInBounds k (.bool (((s : Int) + (k : Int)) % 3 == 0)), by simp [World.setCell, Array.getElem?_modify, hh], by simpa using hs, fun i hi => ?_⟩
  · rw [Below.heap_setCell _ _ _ _ (fun e => hne (by simpa using e))]; exact hg.block j hj hne
  · rw [Array.getElem?_setIfInBounds]
    by_cases e : i = k
    · subst e; rw [if_pos rfl, if_pos (by omega)]
    · rw [if_neg (fun h => e h.symm)]; exact hc i (by omega)

theorem markedB_cell {w wr : World} {s g cap k : Nat} (h : MarkedB s w wr g cap k) (hk : k < cap) : (∃ v, wr.cell? ⟨g, k, none⟩ = some v) ∧ wr.frozen? ⟨g, k, none⟩ = false := by
  obtain ⟨_, cur, hh, hs, _⟩ := h
  refine ⟨⟨cur[k]'(by omega), ?_⟩, by simp [World.frozen?, hh]⟩
  simp [World.cell?, hh, hs, hk]

theorem markedB_done {w wr : World} {s base g n cap : Nat} (h : MarkedB s w wr g cap n) (hb : base ≤ g) (hn : n ≤ cap) (hm : cap ≤ maxLen) : OwnB wr base (.slice (some ⟨g, 0, none⟩) n cap) (marksB s n) := by
  obtain ⟨_, cur, hh, hs, hc⟩ := h
  refine ⟨by simp, .inr ⟨g, cap, cur, by rw [marksB_length], hb, hh, by rw [marksB_length]; exact hn, hm, by simpa using hs, ?_⟩⟩
  rw [marksB_length, Nat.mul_one]
  apply List.ext_getElem?
  intro i
  by_cases hi : i < n
  · rw [List.getElem?_take, if_pos hi, Array.getElem?_toList, hc i hi]
    simp [marksB, hi]
  · rw [List.getElem?_eq_none (by simp; omega), List.getElem?_eq_none (by simp [marksB]; omega)]

set_option maxHeartbeats 1000000 in
theorem markBoolS_from (a : Option Addr) (n cap base s : Nat) (zs : List Bool) (w : World) (h : OwnB w base (.slice a n cap) zs) (hl : n ≤ 20000000) (hs' : s ≤ 9000000) :
    Calls Tryz.prog 64 #[.slice a n cap, .int .i64 (s : Int)] w fun e w' => e = .returned (.int .i64 ((s : Int) + (n : Int))) ∧ OwnB w' base (.slice a n cap) (marksB s n) ∧ w.grownBy w' (Value.slice a n cap).ownBlock := by
  by_cases h0 : n = 0
  · subst h0
    have e : zs = [] := List.eq_nil_of_length_eq_zero h.sl.1.symm
    subst e
    have h' : OwnB w base (.slice a 0 cap) (marksB s 0) := h
    go_enter Tryz.func64, Tryz.ntmps64
    go_wp2
    refine wp_loop_rounds 1 ?_
    rw [rounds_succ]
    go_wp2
    go_ret
    exact ⟨by simp, h', World.grownBy.refl _ _⟩
  · obtain ⟨g, cur, rfl, hb, hgl, hh, hle, hm, hs⟩ := h.cells (by omega)
    have M0 : MarkedB s w w g cap 0 := ⟨World.grownBy.refl _ _, cur, hh, hs, fun i hi => absurd hi (Nat.not_lt_zero _)⟩
    clear hh h
    go_enter Tryz.func64, Tryz.ntmps64
    go_wp2
    go_loopw [1, 5] (fun kk i wr => ∃ k : Nat, k ≤ n ∧ i = .int .i64 k ∧ kk = .int .i64 ((s : Int) + (k : Int)) ∧ MarkedB s w wr g cap k) (fun _ i _ => n - (intOf i).toNat)
    case atStart => exact ⟨0, Nat.zero_le _, rfl, by simp, M0⟩
    case round =>
      obtain ⟨k, hk, rfl, rfl, hM⟩ := hrel
      by_cases hlt : k < n
      · obtain ⟨⟨v, hc⟩, hf⟩ := markedB_cell hM (by omega)
        have hM1 := markedB_step hM (by omega)
        have hi : (k : Int) < (n : Int) := by omega
        clear hM M0
        go_wp2
        go_roundw
        case rel => exact ⟨k + 1, by omega, by go_num, by go_num, hM1⟩
        case measure => simp [intOf]; omega
      · obtain rfl : k = n := by omega
        have hD := markedB_done hM hb hle hm
        have hG : Hid (w.grownBy wr (some g)) := hM.1
        clear hM M0
        go_wp2
        go_ret
        exact ⟨rfl, hD, hG.out⟩

set_option maxHeartbeats 1000000 in
theorem heldBoolS_from (a : Option Addr) (n cap s : Nat) (w : World) (hs : SlB w a (marksB s n)) (hl : n ≤ 20000000) (hs' : s ≤ 9000000) :
    Calls Tryz.prog 68 #[.slice a n cap, .int .i64 (s : Int)] w fun e w' => e = .returned (.int .i64 ((s : Int) + (n : Int))) ∧ w' = w := by
  have ml := marksB_length s n
  go_enter Tryz.func68, Tryz.ntmps68
  go_wp2
  go_loop [1, 5] (fun kk i => ∃ k : Nat, k ≤ n ∧ i = .int .i64 k ∧ kk = .int .i64 ((s : Int) + (k : Int))) (fun _ i => n - (intOf i).toNat)
  case atStart => exact ⟨0, Nat.zero_le _, rfl, by simp⟩
  case round =>
    obtain ⟨k, hk, rfl, rfl⟩ := hrel
    by_cases hlt : k < n
    · obtain ⟨b, off, rfl, _, hc⟩ := cell_atB hs (k := k) (by omega)
      rw [marksB_get s n k hlt] at hc
      have hi : (k : Int) < (n : Int) := by omega
      clear hs ml
      go_wp2
      go_round
      case rel => exact ⟨k + 1, by omega, by go_num, by go_num⟩
      case measure => simp [intOf]; omega
    · obtain rfl : k = n := by omega
      clear hs ml
      go_wp2
      go_ret
      exact ⟨rfl, rfl⟩

end Go.Proofs.YtmhdneenjoelfaaGreat
