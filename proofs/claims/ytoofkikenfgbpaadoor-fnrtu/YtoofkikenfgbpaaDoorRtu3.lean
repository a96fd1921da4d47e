/- Frames by their sum: GetRtu, of the program and of its model. -/
import Derived.Test.YtoofkikenfgbpaaDoorRtu2
import Derived.Test.YtoofkikenfgbpaaDoorCopT
import Derived.Test.YtoofkikenfgbpaaDoorSumQ
import Derived.Test.YtoofkikenfgbpaaDoorSteps
import Derived.OwnWalk
import Derived.Deep.RegionHeld3
namespace Go.Proofs.YtoofkikenfgbpaaDoor
open Go.RowKit

set_option linter.unusedVariables false

set_option linter.unusedSimpArgs false

/-- What GetRtu answers. -/
def gtC (bs : List Int) : Int := if bs.length < 4 then 1 else if 256 < bs.length then 2 else if crcTo bs bs.length = 0 then 0 else 3

def gtU (bs : List Int) : Int := if gtC bs = 0 then bs.getD 0 0 else 0

def gtP (bs : List Int) : List Int := if gtC bs = 0 then (bs.drop 1).take (bs.length - 3) else []

def GT (w w' : World) (e : Ending) (u : Int) (ps : List Int) (code : Int) : Prop :=
  ∃ a c n, e = .returned (.tuple #[.int .i64 u, .slice a n c, .int .i64 code]) ∧ n = ps.length ∧ Own w' w.heap.size (.slice a n c) ps ∧ Below w.heap.size w w'

theorem gt_bad {bs : List Int} {k : Int} (h : gtC bs = k) (hk : k ≠ 0) : gtU bs = 0 ∧ gtP bs = [] := by
  unfold gtU gtP; rw [h, if_neg hk, if_neg hk]; exact ⟨rfl, rfl⟩

theorem gt_good {bs : List Int} (h : gtC bs = 0) : gtU bs = bs.getD 0 0 ∧ gtP bs = (bs.drop 1).take (bs.length - 3) := by
  unfold gtU gtP; rw [if_pos h, if_pos h]; exact ⟨rfl, rfl⟩

theorem Sl.takeT {w : World} {a : Option Addr} {zs : List Int} (h : Sl w a zs) (m : Nat) : Sl w a (zs.take m) := by
  rcases h with h | ⟨b, off, ha, hb, hc⟩
  · exact .inl (by rw [h]; simp)
  · refine .inr ⟨b, off, ha, hb, fun i hi => ?_⟩
    have hi' : i < zs.length := by simp at hi; omega
    have hm : i < m := by simp at hi; omega
    rw [List.getD_eq_getElem?_getD, List.getElem?_take, if_pos hm, ← List.getD_eq_getElem?_getD]
    exact hc i hi'

theorem Sl.dropT {w : World} {b off : Nat} {zs : List Int} (h : Sl w (some ⟨b, off, none⟩) zs) (hz : 1 < zs.length) : Sl w (some ⟨b, off + 1, none⟩) (zs.drop 1) := by
  rcases h with h | ⟨b', off', ha, hb, hc⟩
  · rw [h] at hz; simp at hz
  · simp at ha
    obtain ⟨rfl, rfl⟩ := ha
    refine .inr ⟨b, off + 1, rfl, hb, fun i hi => ?_⟩
    have := hc (i + 1) (by simp at hi; omega)
    rw [show off + 1 + i = off + (i + 1) by omega, this]
    simp [List.getD_eq_getElem?_getD, List.getElem?_drop, Nat.add_comm]

theorem gt_none (w : World) (k : Int) (bs : List Int) (h : gtC bs = k) (hk : k ≠ 0) : GT w w (.returned (.tuple #[.int .i64 0, .slice none 0 0, .int .i64 k])) (gtU bs) (gtP bs) (gtC bs) := by
  rw [(gt_bad h hk).1, (gt_bad h hk).2, h]
  exact ⟨none, 0, 0, rfl, rfl, ⟨rfl, .inl ⟨rfl, rfl⟩⟩, Below.refl _ _⟩

theorem gt_lit (w : World) (k : Int) (bs : List Int) (h : gtC bs = k) (hk : k ≠ 0) : GT w (w.alloc (.cells #[] 5)) (.returned (.tuple #[.int .i64 0, .slice (some ⟨w.heap.size, 0, none⟩) 0 0, .int .i64 k])) (gtU bs) (gtP bs) (gtC bs) := by
  rw [(gt_bad h hk).1, (gt_bad h hk).2, h]
  exact ⟨_, 0, 0, rfl, rfl, ⟨rfl, .inr ⟨w.heap.size, 0, #[], rfl, Nat.le_refl _, Blk.new w #[] 5, by simp, by simp, rfl, rfl⟩⟩, bel_alloc _ _⟩

set_option maxRecDepth 20000 in
set_option maxHeartbeats 4000000 in
theorem implGetRtu_any (a : Option Addr) (l c : Nat) (bs : List Int) (w : World) (hn : l = bs.length) (hlc : l ≤ c) (hs : Sl w a bs) (hr : ∀ z ∈ bs, 0 ≤ z ∧ z ≤ 255) (hl : bs.length ≤ 2000000) (hT : Tab w) :
    Calls Tryd.prog 8 #[.slice a l c] w fun e w' => GT w w' e (gtU bs) (gtP bs) (gtC bs) := by
  have HN : Hid (l = bs.length) := hn
  by_cases h4 : (l : Int) < 4
  · have R := gt_none w 1 bs (by unfold gtC; rw [if_pos (by omega)]) (by decide)
    clear hn hs hr hl hT
    go_enter Tryd.func8, Tryd.ntmps8
    go_wp2_with fail
    go_ret3
    exact R
  by_cases h256 : (256 : Int) < (l : Int)
  · have R := gt_none w 2 bs (by unfold gtC; rw [if_neg (by omega), if_pos (by omega)]) (by decide)
    clear hn hs hr hl hT
    go_enter Tryd.func8, Tryd.ntmps8
    go_wp2_with fail
    go_ret3
    exact R
  obtain ⟨b, off, rfl, hb0, hc0⟩ := cell_at hs (k := 0) (by omega)
  have HS : Hid (Sl w (some ⟨b, off, none⟩) bs) := hs
  have HR : Hid (∀ z ∈ bs, 0 ≤ z ∧ z ≤ 255) := hr
  have HT : Hid (Tab w) := hT
  have HC : Hid (gtC bs = if crcTo bs bs.length = 0 then 0 else 3) := by show gtC bs = _; unfold gtC; rw [if_neg (by omega), if_neg (by omega)]
  have hc : ¬ c = 1 := by omega
  have HL : Hid (bs.length ≤ 2000000 ∧ 4 ≤ bs.length) := by show _ ∧ _; omega
  clear hn hs hr hT hl
  go_enter Tryd.func8, Tryd.ntmps8
  go_wp2_with fail
  refine (implCrc_any _ _ _ bs _ HN.out HT.out HS.out HR.out HL.out.1).mono ?_
  rintro e w1 ⟨rfl, e1⟩
  subst e1
  by_cases hx : crcTo bs bs.length = 0
  · have hxi : (((crcTo bs bs.length : Nat) : Int) == 0) = true := by rw [hx]; rfl
    have h0 : gtC bs = 0 := by rw [HC.out, if_pos hx]
    have G0 := gt_good h0
    clear hx HC
    generalize crcTo bs bs.length = x at *
    have rg := get_range HR.out 0
    have S1 : Hid (Sl w1 (some ⟨b, off + 1, none⟩) ((bs.drop 1).take (bs.length - 3))) := (Sl.dropT HS.out (by have := HL.out; omega)).takeT _
    have HN2 : Hid (((bs.drop 1).take (bs.length - 3)).length = l - 3) := by show ((bs.drop 1).take (bs.length - 3)).length = l - 3; have := HN.out; have := HL.out; simp; omega
    have HQ : Hid (((bs.drop 1).take (bs.length - 3)).length ≤ 2000000) := by show ((bs.drop 1).take (bs.length - 3)).length ≤ 2000000; have := HN2.out; have := HL.out; have := HN.out; omega
    have hc1 : w1.cell? ⟨b, off, none⟩ = some (.int .u8 (bs.getD 0 0)) := by simpa using hc0
    clear hc0
    generalize bs.getD 0 0 = z at *
    generalize (bs.drop 1).take (bs.length - 3) = ps at *
    have R : Hid (∀ m g w2, m = l - 3 → Own w2 w1.heap.size (.slice (some ⟨g, 0, none⟩) m m) ps → Below w1.heap.size w1 w2 → GT w1 w2 (.returned (.tuple #[.int .i64 z, .slice (some ⟨g, 0, none⟩) m m, .int .i64 0])) (gtU bs) (gtP bs) (gtC bs)) := by
      intro m g w2 hm o2 b2
      subst hm
      rw [G0.1, G0.2, h0]
      exact ⟨_, _, _, rfl, HN2.out.symm, o2, b2⟩
    clear G0 h0
    have i0 : (1 : Int) ≤ (l : Int) - 2 := by omega
    have i1 : (l : Int) - 2 ≤ (l : Int) := by omega
    have i2 : (l : Int) - 2 ≤ (c : Int) := by omega
    have i4 : (0 : Int) ≤ (l : Int) - 2 := by omega
    have i5 : IntKind.i64.wrap ((l : Int) - 2) = (l : Int) - 2 := by rw [IntKind.wrap_i64]; omega
    have i6 : (1 : Int) ≤ (c : Int) := by omega
    have i7 : (0 : Int) < (l : Int) := by omega
    have i8 : 0 < l := by omega
    have iz : IntKind.i64.wrap z = z := by rw [IntKind.wrap_i64]; omega
    have dz : Below w1.heap.size w1 w1.drew := (Below.refl _ _).drew
    have e1 : ((l : Int) - 2).toNat - 1 = l - 3 := by omega
    go_upto_region 7 with fail
    go_region_held3 (fun w' => w'.cell? ⟨b, off, none⟩ = some (.int .u8 z)) (go_keep)
      (first | (go_at_call 29; refine (copyT_any _ _ _ ps _ (by have := HN2.out; omega) (S1.out.below (by first | exact Below.refl _ _ | exact dz)) HQ.out).mono ?_; rintro e w2 ⟨g, rfl, o2, b'⟩; have b2 : Below w1.heap.size w1 w2 := (by first | exact b' | exact bel_next dz b'); have hc2 : w2.cell? ⟨b, off, none⟩ = some (.int .u8 z) := by (rw [b2.cell (p := ⟨b, off, none⟩) hb0]; exact hc1)))
    all_goals (go_wp2; go_ret3; exact R.out _ _ _ rfl o2 b2)
  · have hxi : (((crcTo bs bs.length : Nat) : Int) == 0) = false := by simp; omega
    have R := gt_none w1 3 bs (by rw [HC.out, if_neg hx]) (by decide)
    clear hx HC
    generalize crcTo bs bs.length = x at *
    go_wp2_with fail
    go_ret3
    exact R

/-- append onto a row of bytes of the call's own, in a statement whose order is open. -/
theorem step_appT {ops : Array Oper} {o : Oper} {a : Act} {w : World} {K : Act → World → Prop} {Q : Exit → Act → World → Prop} {E : Prop} (hgd : o.guard = none) (s x : Operand)
    (ho : o.op = .call { callee := .builtin .append, args := #[s, x], argTypes := #[22, 22] }) (base : Nat) (v : Value) (zs : List Int) (hs : a.eval s = v) (hown : Own w base v zs)
    (ad : Addr) (m c : Nat) (ys : List Int) (hx : a.eval x = .slice (some ad) m c) (hm : m = ys.length) (hsl : Sl w (some ad) ys) (hlen : zs.length + ys.length ≤ 4000000) (hbase : base ≤ w.heap.size)
    (h : ∀ v' w', Own w' base v' (zs ++ ys) → w.grownBy w' v.ownBlock → K (a.put o.dst v') w') : if Region.wanted o (yielded ops a.tmps) = true then Oper.wp Tryd.prog o a w K Q else E := by
  obtain ⟨i0, hi, hz0, hz1, hz2⟩ := info_parts Tryd.info5
  subst hm
  refine step_append_own hgd s x 22 ho base 5 i0 (.int .u8 0) 1 1 Tryd.underlying22 hi hz0 hz1 hz2 rfl (by decide) v zs.length (zs.map (Value.int .u8)) hs hown ad ys.length c (ys.map (Value.int .u8)) hx (by simp) hsl.cellsAt (ones ys) (by unfold maxLen; omega) (by omega) hbase ?_
  intro v' w' h1 h2
  exact h v' w' (by simpa [Own] using h1) h2

theorem own_lit0 (w : World) (B : Nat) (hB : B ≤ w.heap.size) : Own (w.alloc (.cells #[] 5)) B (.slice (some ⟨w.heap.size, 0, none⟩) 0 0) [] :=
  ⟨rfl, .inr ⟨w.heap.size, 0, #[], rfl, hB, Blk.new w #[] 5, by simp, by simp, rfl, rfl⟩⟩

end Go.Proofs.YtoofkikenfgbpaaDoor
