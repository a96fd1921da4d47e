/- Texts that the proof needs, joined. -/
import Derived.Test.YtaaokbmfpfmfgaaPNmm
import Derived.Deep.Upon
import Derived.Test.YtaaokbmfpfmfgaaBits
import Derived.Test.YtaaokbmfpfmfgaaPutWord1
import Derived.Test.YtaaokbmfpfmfgaaR1
import Derived.Lib.AppendZeros
import Derived.Test.YtaaokbmfpfmfgaaSteps
namespace Go.Proofs.Ytaaokbmfpfmfgaa
open Go.RowKit

set_option linter.unusedVariables false

set_option linter.unusedSimpArgs false

theorem Try.infoQ3 : (Try.prog.info? 3).map (fun i => (i.zero, i.size, i.bytes)) = some (some (.int .i64 0), 1, 8) := by kernel_rfl

theorem SlI.cellsAt {w : World} {ad : Addr} {zs : List Int} (h : SlI w (some ad) zs) : ∀ j u, (zs.map (Value.int .i64))[j]? = some u → w.cell? (ad.add j) = some u := by
  intro j u hu
  rcases h with h | ⟨b, off, ha, _, hc⟩
  · subst h; simp at hu
  · obtain rfl : ad = ⟨b, off, none⟩ := by simpa using ha
    have hj : j < zs.length := by
      have := (List.getElem?_eq_some_iff.1 hu).1
      simpa using this
    have e : Addr.add ⟨b, off, none⟩ j = ⟨b, off + j, none⟩ := by
      by_cases h0 : j = 0
      · subst h0; simp [Addr.add]
      · simp [Addr.add, h0]
    rw [e, hc j hj]
    rw [← hu]
    simp [hj]

/-- append onto a row of ints of the call's own. -/
theorem wpList_appI {w : World} {ops : Array Oper} {rest : List Oper} {o : Oper} {a : Act} {Q : Exit → Act → World → Prop} (hgd : o.guard = none) (s x : Operand)
    (ho : o.op = .call { callee := .builtin .append, args := #[s, x], argTypes := #[25, 25] }) (base : Nat) (v : Value) (zs : List Int) (hs : a.eval s = v) (hown : OwnI w base v zs)
    (ad : Addr) (m c : Nat) (ys : List Int) (hx : a.eval x = .slice (some ad) m c) (hm : m = ys.length) (hsl : SlI w (some ad) ys) (hlen : zs.length + ys.length ≤ 4000000) (hbase : base ≤ w.heap.size)
    (h : ∀ v' w', OwnI w' base v' (zs ++ ys) → w.grownBy w' v.ownBlock → wpList Try.prog ops Q rest (a.put o.dst v') w') : wpList Try.prog ops Q (o :: rest) a w := by
  obtain ⟨i0, hi, hz0, hz1, hz2⟩ := info_parts Try.infoQ3
  subst hm
  refine wpList_append_own w hgd s x 25 ho base 3 i0 (.int .i64 0) 1 8 Try.underlying25 hi hz0 hz1 hz2 rfl (by decide) v zs.length (zs.map (Value.int .i64)) hs hown ad ys.length c (ys.map (Value.int .i64)) hx (by simp) hsl.cellsAt (ints_oneCell _ _) (by unfold maxLen; omega) (by omega) hbase ?_
  intro v' w' h1 h2 _
  exact h v' w' (by simpa [OwnI] using h1) h2

theorem ints_none {w : World} {ys : List Int} (h : SlI w none ys) : ys = [] := by
  cases ys with
  | nil => rfl
  | cons y r => obtain ⟨b, off, e, _⟩ := cell_atI (k := 0) h (by simp); simp at e

theorem bools_none {w : World} {ys : List Bool} (h : SlB w none ys) : ys = [] := by
  cases ys with
  | nil => rfl
  | cons y r => obtain ⟨b, off, e, _⟩ := cell_atB (k := 0) h (by simp); simp at e

/-- append of a row of ints that may be none onto one of the call's own. -/
theorem wpList_appIO {w : World} {ops : Array Oper} {rest : List Oper} {o : Oper} {a : Act} {Q : Exit → Act → World → Prop} (hgd : o.guard = none) (s x : Operand)
    (ho : o.op = .call { callee := .builtin .append, args := #[s, x], argTypes := #[25, 25] }) (base : Nat) (v : Value) (zs : List Int) (hs : a.eval s = v) (hown : OwnI w base v zs)
    (ad : Option Addr) (m c : Nat) (ys : List Int) (hx : a.eval x = .slice ad m c) (hm : m = ys.length) (hsl : SlI w ad ys) (hlen : zs.length + ys.length ≤ 4000000) (hbase : base ≤ w.heap.size)
    (h : ∀ v' w', OwnI w' base v' (zs ++ ys) → w.grownBy w' v.ownBlock → wpList Try.prog ops Q rest (a.put o.dst v') w') : wpList Try.prog ops Q (o :: rest) a w := by
  cases ad with
  | some ad => exact wpList_appI hgd s x ho base v zs hs hown ad m c ys hx hm hsl hlen hbase h
  | none =>
    obtain rfl := ints_none hsl
    obtain rfl : m = 0 := hm
    obtain ⟨i0, hi, hz0, hz1, hz2⟩ := info_parts Try.infoQ3
    have hgo : ∀ (sa : Option Addr) (sn sc : Nat), sn ≤ sc → v = .slice sa sn sc → wpList Try.prog ops Q (o :: rest) a w := by
      rintro sa sn sc hcap rfl
      exact Lib.wpList_append_run _ hgd s x _ _ ho _ _ hs hx _ _ (run_append_nothing w 25 25 o.type 3 i0 Try.underlying25 hi sa sn sc hcap _ (Src.ofNil w Try.underlying25 c)) (h _ w (by simpa using hown) ⟨rfl, rfl, rfl, Nat.le_refl _, fun _ _ _ => rfl⟩)
    rcases hown.2 with ⟨e, _⟩ | ⟨g, cap', cur, hv, _, hh, h3, _⟩
    · exact hgo _ _ _ (Nat.le_refl 0) e
    · exact hgo _ _ _ h3 hv

theorem boolCells {w : World} {ad : Addr} {ys : List Bool} (h : SlB w (some ad) ys) : ∀ j u, (ys.map Value.bool)[j]? = some u → w.cell? (ad.add j) = some u := by
  intro j u hu
  rw [List.getElem?_map] at hu
  by_cases hj : j < ys.length
  · obtain ⟨b, off, e, _, hc⟩ := cell_atB h hj
    simp at e
    subst e
    rw [List.getElem?_eq_getElem hj] at hu
    simp at hu
    subst hu
    have : ys.getD j false = ys[j] := by simp [List.getD_eq_getElem?_getD, hj]
    rw [this] at hc
    by_cases h0 : j = 0
    · subst h0; simpa [Addr.add] using hc
    · simpa [Addr.add, h0] using hc
  · rw [List.getElem?_eq_none (by omega)] at hu; simp at hu

/-- append of a row of bools that may be none onto one of the call's own. -/
theorem wpList_appBO {w : World} {ops : Array Oper} {rest : List Oper} {o : Oper} {a : Act} {Q : Exit → Act → World → Prop} (hgd : o.guard = none) (s x : Operand)
    (ho : o.op = .call { callee := .builtin .append, args := #[s, x], argTypes := #[26, 26] }) (base : Nat) (v : Value) (zs : List Bool) (hs : a.eval s = v) (hown : OwnB w base v zs)
    (ad : Option Addr) (m c : Nat) (ys : List Bool) (hx : a.eval x = .slice ad m c) (hm : m = ys.length) (hsl : SlB w ad ys) (hlen : zs.length + ys.length ≤ 4000000) (hbase : base ≤ w.heap.size)
    (h : ∀ v' w', OwnB w' base v' (zs ++ ys) → w.grownBy w' v.ownBlock → wpList Try.prog ops Q rest (a.put o.dst v') w') : wpList Try.prog ops Q (o :: rest) a w := by
  obtain ⟨i0, hi, hz0, hz1, hz2⟩ := info_parts Try.info4
  cases ad with
  | some ad =>
    subst hm
    have hml : zs.length + ys.length ≤ maxLen := by unfold maxLen; omega
    refine wpList_append_own _ hgd s x 26 ho base 4 i0 (.bool false) 1 1 Try.underlying26 hi hz0 hz1 hz2 rfl (by decide) v zs.length (zs.map Value.bool) hs hown ad ys.length c (ys.map Value.bool) hx (by simp) (boolCells hsl) (by intro u hu; obtain ⟨y, _, rfl⟩ := List.mem_map.mp hu; rfl) hml (by omega) hbase ?_
    intro v' w' o' g' _
    exact h v' w' (by simpa [OwnB] using o') g'
  | none =>
    obtain rfl := bools_none hsl
    obtain rfl : m = 0 := hm
    have hgo : ∀ (sa : Option Addr) (sn sc : Nat), sn ≤ sc → v = .slice sa sn sc → wpList Try.prog ops Q (o :: rest) a w := by
      rintro sa sn sc hcap rfl
      exact Lib.wpList_append_run _ hgd s x _ _ ho _ _ hs hx _ _ (run_append_nothing w 26 26 o.type 4 i0 Try.underlying26 hi sa sn sc hcap _ (Src.ofNil w Try.underlying26 c)) (h _ w (by simpa using hown) ⟨rfl, rfl, rfl, Nat.le_refl _, fun _ _ _ => rfl⟩)
    rcases hown.2 with ⟨e, _⟩ | ⟨g, cap', cur, hv, _, hh, h3, _⟩
    · exact hgo _ _ _ (Nat.le_refl 0) e
    · exact hgo _ _ _ h3 hv

theorem newI (u : World) (base : Nat) (hb : base ≤ u.heap.size) : OwnI (u.alloc (.cells #[] 3)) base (.slice (some ⟨u.heap.size, 0, none⟩) 0 0) [] := ⟨rfl, .inr ⟨u.heap.size, 0, #[], rfl, hb, Blk.new u #[] 3, by simp, by simp, rfl, rfl⟩⟩

theorem newB (u : World) (base : Nat) (hb : base ≤ u.heap.size) : OwnB (u.alloc (.cells #[] 4)) base (.slice (some ⟨u.heap.size, 0, none⟩) 0 0) [] := ⟨rfl, .inr ⟨u.heap.size, 0, #[], rfl, hb, Blk.new u #[] 4, by simp, by simp, rfl, rfl⟩⟩

theorem ownB_shape {w : World} {base : Nat} {v : Value} {zs : List Bool} (h : OwnB w base v zs) : ∃ a c n, v = .slice a n c ∧ n = zs.length := by
  obtain ⟨_, h2⟩ := h
  rcases h2 with ⟨hv, h3⟩ | ⟨g, cap, cur, hv, hg, hh, _⟩
  · exact ⟨none, 0, 0, hv, h3.symm⟩
  · exact ⟨_, cap, _, hv, rfl⟩

theorem ownI_shape2 {w : World} {base : Nat} {v : Value} {zs : List Int} (h : OwnI w base v zs) : ∃ a c n, v = .slice a n c ∧ n = zs.length := by
  obtain ⟨_, h2⟩ := h
  rcases h2 with ⟨hv, h3⟩ | ⟨g, cap, cur, hv, hg, hh, _⟩
  · exact ⟨none, 0, 0, hv, h3.symm⟩
  · exact ⟨_, cap, _, hv, rfl⟩

end Go.Proofs.Ytaaokbmfpfmfgaa

namespace Go.Proofs.Ytaaokbmfpfmfgaa
open Go.RowKit Go.Joins

set_option linter.unusedVariables false

set_option linter.unusedSimpArgs false

/-- A question of the call's own. -/
def ReqPost (w w' : World) (e : Ending) (kd pl nn wa : Int) (ws : List Int) (bs : List Bool) : Prop :=
  ∃ r1 r2 l1 l2 c1 c2, e = .returned (.agg (rqc kd pl nn wa r1 r2 l1 l2 c1 c2)) ∧ l1 = ws.length ∧ l2 = bs.length ∧ OwnI w' w.heap.size (.slice r1 l1 c1) ws ∧ OwnB w' w.heap.size (.slice r2 l2 c2) bs ∧ Below w.heap.size w w'

theorem Blk.six2 {w : World} {g : Nat} {t : TypeId} {v0 v1 v2 v3 v4 v5 : Value} (h : Blk w g t #[v0, v1, v2, v3, v4, v5]) : (w.cell? ⟨g, 0, none⟩ = some v0 ∧ w.cell? ⟨g, 1, none⟩ = some v1 ∧ w.cell? ⟨g, 2, none⟩ = some v2 ∧ w.cell? ⟨g, 3, none⟩ = some v3 ∧ w.cell? ⟨g, 4, none⟩ = some v4 ∧ w.cell? ⟨g, 5, none⟩ = some v5) ∧ (w.frozen? ⟨g, 0, none⟩ = false ∧ w.frozen? ⟨g, 1, none⟩ = false ∧ w.frozen? ⟨g, 2, none⟩ = false ∧ w.frozen? ⟨g, 3, none⟩ = false ∧ w.frozen? ⟨g, 4, none⟩ = false ∧ w.frozen? ⟨g, 5, none⟩ = false) :=
  ⟨⟨h.cell 0 rfl, h.cell 1 rfl, h.cell 2 rfl, h.cell 3 rfl, h.cell 4 rfl, h.cell 5 rfl⟩, ⟨h.fro 0, h.fro 1, h.fro 2, h.fro 3, h.fro 4, h.fro 5⟩⟩

theorem grown_below2 {B : Nat} {w0 w w' : World} {g : Nat} (hb : Below B w0 w) (hg : w.grownBy w' (some g)) (h1 : B ≤ g) (h2 : B ≤ w.heap.size) : Below B w0 w' :=
  hb.grown hg h2 (fun k hk => by have := Option.some.inj hk; omega)

set_option maxRecDepth 20000 in
set_option maxHeartbeats 1000000 in
theorem copyReq_any (kd pl nn wa : Int) (q1 q2 : Option Addr) (m1 m2 k1 k2 : Nat) (ws : List Int) (bs : List Bool) (w : World) (h1 : m1 = ws.length) (h2 : m2 = bs.length) (s1 : SlI w q1 ws) (s2 : SlB w q2 bs) (hl1 : ws.length ≤ 2000000) (hl2 : bs.length ≤ 2000000) :
    Calls Try.prog 90 #[.agg (rqc kd pl nn wa q1 q2 m1 m2 k1 k2)] w fun e w' => ReqPost w w' e kd pl nn wa ws bs := by
  obtain ⟨B, hB⟩ : ∃ B, B = w.heap.size := ⟨_, rfl⟩
  obtain ⟨W, hW⟩ : ∃ W, W = (w.alloc (.cells (rqc kd pl nn wa q1 q2 m1 m2 k1 k2) 28)).alloc (.cells #[.int .i64 0, .int .i64 0, .int .i64 0, .slice none 0 0, .slice none 0 0, .int .i64 0] 28) := ⟨_, rfl⟩
  have bW : Below w.heap.size w W := by rw [hW]; exact bel_next (bel_alloc _ _) (bel_alloc _ _)
  have HW : Hid (Below w.heap.size w W ∧ Blk W B 28 (rqc kd pl nn wa q1 q2 m1 m2 k1 k2) ∧ Blk W (B + 1) 28 #[.int .i64 0, .int .i64 0, .int .i64 0, .slice none 0 0, .slice none 0 0, .int .i64 0] ∧ w.heap.size ≤ W.heap.size) := ⟨bW, by rw [hW, hB]; exact (Blk.new w _ _).below (bel_alloc _ _), by rw [hW, hB]; have := Blk.new (w.alloc (.cells (rqc kd pl nn wa q1 q2 m1 m2 k1 k2) 28)) #[.int .i64 0, .int .i64 0, .int .i64 0, .slice none 0 0, .slice none 0 0, .int .i64 0] 28; simpa using this, bW.size⟩
  have HS : Hid (m1 = ws.length ∧ m2 = bs.length ∧ SlI w q1 ws ∧ SlB w q2 bs ∧ w.heap.size = B) := ⟨h1, h2, s1, s2, hB.symm⟩
  clear bW h1 h2 s1 s2
  go_enter Try.func90, Try.ntmps90
  go_upto_region 1 with fail
  rw [← hW, ← hB]
  clear hW hB
  obtain ⟨⟨y0, y1, y2, y3, y4, y5⟩, _⟩ := (HW.out.2.1.below (bel_alloc W (.cells #[] 3))).six2
  go_upto_region 2 with (at_builtin; refine wpList_appIO rfl (.tmp 3) (.tmp 5) rfl w.heap.size (.slice (some ⟨W.heap.size, 0, none⟩) 0 0) [] rfl (newI W w.heap.size HW.out.2.2.2) q1 m1 k1 ws rfl HS.out.1 (HS.out.2.2.1.below (bel_next HW.out.1 (bel_alloc _ _))) (by simp; omega) (by have := HW.out.2.2.2; simp; omega) ?_; intro v1 w1 O1 g1'; have g1 : (W.alloc (.cells #[] 3)).grownBy w1 (some W.heap.size) := g1'; clear g1'; have HU : Hid (OwnI w1 w.heap.size v1 ws ∧ Below w.heap.size w w1 ∧ Blk w1 B 28 (rqc kd pl nn wa q1 q2 m1 m2 k1 k2) ∧ Blk w1 (B + 1) 28 #[.int .i64 0, .int .i64 0, .int .i64 0, .slice none 0 0, .slice none 0 0, .int .i64 0]) := ⟨by simpa using O1, grown_below2 (bel_next HW.out.1 (bel_alloc _ _)) g1 HW.out.2.2.2 (by have := HW.out.2.2.2; simp; omega), (HW.out.2.1.below (bel_alloc _ _)).grown g1 (by have := HW.out.2.1.lt; intro e9; have := Option.some.inj e9; omega), (HW.out.2.2.1.below (bel_alloc _ _)).grown g1 (by have := HW.out.2.2.1.lt; intro e9; have := Option.some.inj e9; omega)⟩; clear O1 g1; obtain ⟨a1, c1, n1, hv1, hn1⟩ := ownI_shape2 HU.out.1; subst hv1; have HN1 : Hid (n1 = ws.length) := hn1; clear hn1; obtain ⟨⟨x0, x1, x2, x3, x4, x5⟩, ⟨f0, f1, f2, f3, f4, f5⟩⟩ := HU.out.2.2.1.six2)
  obtain ⟨W2, hW2⟩ : ∃ W2, W2 = w1.setCell ⟨B, 3, none⟩ (.slice a1 n1 c1) := ⟨_, rfl⟩
  have HV : Hid (OwnI W2 w.heap.size (.slice a1 n1 c1) ws ∧ Below w.heap.size w W2 ∧ Blk W2 B 28 (rqc kd pl nn wa a1 q2 n1 m2 c1 k2) ∧ Blk W2 (B + 1) 28 #[.int .i64 0, .int .i64 0, .int .i64 0, .slice none 0 0, .slice none 0 0, .int .i64 0] ∧ w.heap.size ≤ W2.heap.size) := by
    have hb : Below w.heap.size w W2 := by rw [hW2]; exact HU.out.2.1.setCell (p := ⟨B, 3, none⟩) (by show w.heap.size ≤ B; rw [HS.out.2.2.2.2]; exact Nat.le_refl _) _
    exact ⟨by rw [hW2]; exact row_setE HU.out.1 ⟨_, HU.out.2.2.1⟩ (by decide), hb, by rw [hW2]; have h9 := HU.out.2.2.1.set 3 (.slice a1 n1 c1); simpa using h9, by rw [hW2]; exact HU.out.2.2.2.setNe (by omega), hb.size⟩
  rw [← hW2]
  clear hW2 HU x0 x1 x2 x3 x4 x5 f0 f1 f2 f3 f4 f5 y0 y1 y2 y3 y4 y5 HW
  obtain ⟨⟨y0, y1, y2, y3, y4, y5⟩, _⟩ := (HV.out.2.2.1.below (bel_alloc W2 (.cells #[] 4))).six2
  go_upto_region 3 with (at_builtin; refine wpList_appBO rfl (.tmp 8) (.tmp 10) rfl w.heap.size (.slice (some ⟨W2.heap.size, 0, none⟩) 0 0) [] rfl (newB W2 w.heap.size HV.out.2.2.2.2) q2 m2 k2 bs rfl HS.out.2.1 (HS.out.2.2.2.1.below (bel_next HV.out.2.1 (bel_alloc _ _))) (by simp; omega) (by have := HV.out.2.2.2.2; simp; omega) ?_; intro v2 w2 O2 g2'; have g2 : (W2.alloc (.cells #[] 4)).grownBy w2 (some W2.heap.size) := g2'; clear g2'; have HU : Hid (OwnB w2 w.heap.size v2 bs ∧ Below w.heap.size w w2 ∧ Blk w2 B 28 (rqc kd pl nn wa a1 q2 n1 m2 c1 k2) ∧ Blk w2 (B + 1) 28 #[.int .i64 0, .int .i64 0, .int .i64 0, .slice none 0 0, .slice none 0 0, .int .i64 0] ∧ OwnI w2 w.heap.size (.slice a1 n1 c1) ws) := ⟨by simpa using O2, grown_below2 (bel_next HV.out.2.1 (bel_alloc _ _)) g2 HV.out.2.2.2.2 (by have := HV.out.2.2.2.2; simp; omega), (HV.out.2.2.1.below (bel_alloc _ _)).grown g2 (by have := HV.out.2.2.1.lt; intro e9; have := Option.some.inj e9; omega), (HV.out.2.2.2.1.below (bel_alloc _ _)).grown g2 (by have := HV.out.2.2.2.1.lt; intro e9; have := Option.some.inj e9; omega), (OwnI.below HV.out.1 (bel_alloc _ _)).kept g2 (.inr (by intro e9; have := (World.ownsRow.lt HV.out.1 _ e9).2; simp at this))⟩; clear O2 g2; obtain ⟨a2, c2, n2, hv2, hn2⟩ := ownB_shape HU.out.1; subst hv2; have HN2 : Hid (n2 = bs.length) := hn2; clear hn2; obtain ⟨⟨x0, x1, x2, x3, x4, x5⟩, ⟨f0, f1, f2, f3, f4, f5⟩⟩ := HU.out.2.2.1.six2)
  obtain ⟨W3, hW3⟩ : ∃ W3, W3 = w2.setCell ⟨B, 4, none⟩ (.slice a2 n2 c2) := ⟨_, rfl⟩
  have HX : Hid (OwnI W3 w.heap.size (.slice a1 n1 c1) ws ∧ OwnB W3 w.heap.size (.slice a2 n2 c2) bs ∧ Below w.heap.size w W3 ∧ Blk W3 B 28 (rqc kd pl nn wa a1 a2 n1 n2 c1 c2) ∧ Blk W3 (B + 1) 28 #[.int .i64 0, .int .i64 0, .int .i64 0, .slice none 0 0, .slice none 0 0, .int .i64 0]) := by
    have hb : Below w.heap.size w W3 := by rw [hW3]; exact HU.out.2.1.setCell (p := ⟨B, 4, none⟩) (by show w.heap.size ≤ B; rw [HS.out.2.2.2.2]; exact Nat.le_refl _) _
    exact ⟨by rw [hW3]; exact row_setE HU.out.2.2.2.2 ⟨_, HU.out.2.2.1⟩ (by decide), by rw [hW3]; exact row_setE HU.out.1 ⟨_, HU.out.2.2.1⟩ (by decide), hb, by rw [hW3]; have h9 := HU.out.2.2.1.set 4 (.slice a2 n2 c2); simpa using h9, by rw [hW3]; exact HU.out.2.2.2.1.setNe (by omega)⟩
  rw [← hW3]
  clear hW3 HU HV x0 x1 x2 x3 x4 x5 f0 f1 f2 f3 f4 f5 y0 y1 y2 y3 y4 y5
  obtain ⟨⟨y0, y1, y2, y3, y4, y5⟩, _⟩ := HX.out.2.2.2.1.six2
  obtain ⟨⟨x0, x1, x2, x3, x4, x5⟩, ⟨f0, f1, f2, f3, f4, f5⟩⟩ := HX.out.2.2.2.2.six2
  have HY : Hid (OwnI (setL W3 (B + 1) 0 (rqc kd pl nn wa a1 a2 n1 n2 c1 c2).toList) w.heap.size (.slice a1 n1 c1) ws ∧ OwnB (setL W3 (B + 1) 0 (rqc kd pl nn wa a1 a2 n1 n2 c1 c2).toList) w.heap.size (.slice a2 n2 c2) bs ∧ Below w.heap.size w (setL W3 (B + 1) 0 (rqc kd pl nn wa a1 a2 n1 n2 c1 c2).toList)) := ⟨row_setL HX.out.1 ⟨_, HX.out.2.2.2.2⟩ (by decide), row_setL HX.out.2.1 ⟨_, HX.out.2.2.2.2⟩ (by decide), setL_below (by have := HS.out.2.2.2.2; omega) _ _ _ HX.out.2.2.1⟩
  clear HX
  go_wp2
  refine bodyPost_ret (v := .agg (rqc kd pl nn wa a1 a2 n1 n2 c1 c2)) (by simp [results, Try.results90, go_sem, x0, x1, x2, x3, x4, x5]) rfl ⟨a1, a2, n1, n2, c1, c2, rfl, HN1.out, HN2.out, HY.out.1, HY.out.2.1, HY.out.2.2⟩

end Go.Proofs.Ytaaokbmfpfmfgaa

namespace Go.Proofs.Ytaaokbmfpfmfgaa
open Go.RowKit Go.Joins

set_option linter.unusedVariables false

set_option linter.unusedSimpArgs false

set_option maxRecDepth 20000 in
set_option maxHeartbeats 1000000 in
theorem piece_1 (pl nn wa sh : Int) (fr N : Nat) (q1 q2 : Option Addr) (m1 m2 k1 k2 : Nat) (ws : List Int) (bs : List Bool) (w : World) (h1 : m1 = ws.length) (h2 : m2 = bs.length) (s1 : SlI w q1 ws) (s2 : SlB w q2 bs) (hl1 : ws.length ≤ 2000000) (hl2 : bs.length ≤ 2000000) (hp : 0 ≤ pl ∧ pl ≤ 65535) (hf : fr ≤ 65536) (hN : N ≤ 65536) (hsh : -65535 ≤ sh ∧ sh ≤ 65535) :
    Calls Try.prog 42 #[.agg (rqc 1 pl nn wa q1 q2 m1 m2 k1 k2), .int .i64 (fr : Int), .int .i64 (N : Int), .int .i64 sh] w fun e w' => ReqPost w w' e 1 (pl + fr + sh) (N : Int) wa ws bs := by
  obtain ⟨B, hB⟩ : ∃ B, B = w.heap.size := ⟨_, rfl⟩
  obtain ⟨W, hW⟩ : ∃ W, W = (w.alloc (.cells (rqc 1 pl nn wa q1 q2 m1 m2 k1 k2) 28)).alloc (.cells #[.int .i64 0, .int .i64 0, .int .i64 0, .slice none 0 0, .slice none 0 0, .int .i64 0] 28) := ⟨_, rfl⟩
  have bW : Below w.heap.size w W := by rw [hW]; exact bel_next (bel_alloc _ _) (bel_alloc _ _)
  have HW : Hid (Below w.heap.size w W ∧ Blk W B 28 (rqc 1 pl nn wa q1 q2 m1 m2 k1 k2) ∧ Blk W (B + 1) 28 #[.int .i64 0, .int .i64 0, .int .i64 0, .slice none 0 0, .slice none 0 0, .int .i64 0] ∧ w.heap.size ≤ W.heap.size) := ⟨bW, by rw [hW, hB]; exact (Blk.new w _ _).below (bel_alloc _ _), by rw [hW, hB]; have := Blk.new (w.alloc (.cells (rqc 1 pl nn wa q1 q2 m1 m2 k1 k2) 28)) #[.int .i64 0, .int .i64 0, .int .i64 0, .slice none 0 0, .slice none 0 0, .int .i64 0] 28; simpa using this, bW.size⟩
  have HS : Hid (m1 = ws.length ∧ m2 = bs.length ∧ SlI w q1 ws ∧ SlB w q2 bs ∧ w.heap.size = B) := ⟨h1, h2, s1, s2, hB.symm⟩
  have e1 : IntKind.i64.wrap (pl + (fr : Int)) = pl + fr := by rw [IntKind.wrap_i64]; omega
  have e2 : IntKind.i64.wrap (pl + (fr : Int) + sh) = pl + fr + sh := by rw [IntKind.wrap_i64]; omega
  clear bW h1 h2 s1 s2 hp hsh
  go_enter Try.func42, Try.ntmps42
  go_upto_region 1 with fail
  rw [← hW, ← hB]
  clear hW hB
  obtain ⟨⟨y0, y1, y2, y3, y4, y5⟩, _⟩ := HW.out.2.1.six2
  go_wp2_with fail
  refine (copyReq_any 1 pl nn wa q1 q2 m1 m2 k1 k2 ws bs _ HS.out.1 HS.out.2.1 (HS.out.2.2.1.below HW.out.1) (HS.out.2.2.2.1.below HW.out.1) hl1 hl2).mono ?_
  rintro e w1 ⟨r1, r2, l1, l2, c1, c2, rfl, g1, g2, o1, o2, b1⟩
  obtain ⟨B2, hB2⟩ : ∃ B2, B2 = w1.heap.size := ⟨_, rfl⟩
  have HU : Hid (Below w.heap.size w w1 ∧ Blk w1 B 28 (rqc 1 pl nn wa q1 q2 m1 m2 k1 k2) ∧ Blk w1 (B + 1) 28 #[.int .i64 0, .int .i64 0, .int .i64 0, .slice none 0 0, .slice none 0 0, .int .i64 0] ∧ OwnI w1 w.heap.size (.slice r1 l1 c1) ws ∧ OwnB w1 w.heap.size (.slice r2 l2 c2) bs ∧ l1 = ws.length ∧ l2 = bs.length ∧ B2 = w1.heap.size) := ⟨bel_next HW.out.1 b1, HW.out.2.1.below b1, HW.out.2.2.1.below b1, OwnI.mono o1 HW.out.1.size, OwnB.mono o2 HW.out.1.size, g1, g2, hB2⟩
  clear b1 o1 o2 g1 g2 HW y0 y1 y2 y3 y4 y5
  obtain ⟨⟨y0, y1, y2, y3, y4, y5⟩, _⟩ := HU.out.2.1.six2
  have d1 : ¬ B = B2 := by have := HU.out.2.1.lt; omega
  have d2 : ¬ B + 1 = B2 := by have := HU.out.2.2.1.lt; omega
  have d3 : ¬ B2 = B := fun e => d1 e.symm
  have d4 : ¬ B2 = B + 1 := fun e => d2 e.symm
  go_upto_region 2 with fail
  obtain ⟨W2, hW2⟩ : ∃ W2, W2 = w1.alloc (.cells (rqc 1 pl nn wa r1 r2 l1 l2 c1 c2) 28) := ⟨_, rfl⟩
  have bW2 : Below w1.heap.size w1 W2 := by rw [hW2]; exact bel_alloc _ _
  have HV : Hid (Below w.heap.size w W2 ∧ Blk W2 B 28 (rqc 1 pl nn wa q1 q2 m1 m2 k1 k2) ∧ Blk W2 (B + 1) 28 #[.int .i64 0, .int .i64 0, .int .i64 0, .slice none 0 0, .slice none 0 0, .int .i64 0] ∧ OwnI W2 w.heap.size (.slice r1 l1 c1) ws ∧ OwnB W2 w.heap.size (.slice r2 l2 c2) bs ∧ Blk W2 B2 28 (rqc 1 pl nn wa r1 r2 l1 l2 c1 c2) ∧ l1 = ws.length ∧ l2 = bs.length ∧ w.heap.size ≤ B2) := ⟨bel_next HU.out.1 bW2, HU.out.2.1.below bW2, HU.out.2.2.1.below bW2, HU.out.2.2.2.1.below bW2, HU.out.2.2.2.2.1.below bW2, by rw [hW2, hB2]; exact Blk.new w1 _ _, HU.out.2.2.2.2.2.1, HU.out.2.2.2.2.2.2.1, by rw [hB2]; exact HU.out.1.size⟩
  rw [← hW2, ← hB2]
  clear hW2 hB2 HU bW2 y0 y1 y2 y3 y4 y5
  obtain ⟨⟨y0, y1, y2, y3, y4, y5⟩, _⟩ := HV.out.2.1.six2
  obtain ⟨⟨x0, x1, x2, x3, x4, x5⟩, ⟨f0, f1, f2, f3, f4, f5⟩⟩ := HV.out.2.2.2.2.2.1.six2
  go_upto_region 3 with fail
  obtain ⟨W3, hW3⟩ : ∃ W3, W3 = W2.setCell ⟨B2, 1, none⟩ (.int .i64 (pl + fr + sh)) := ⟨_, rfl⟩
  have HX : Hid (Below w.heap.size w W3 ∧ Blk W3 B 28 (rqc 1 pl nn wa q1 q2 m1 m2 k1 k2) ∧ Blk W3 (B + 1) 28 #[.int .i64 0, .int .i64 0, .int .i64 0, .slice none 0 0, .slice none 0 0, .int .i64 0] ∧ OwnI W3 w.heap.size (.slice r1 l1 c1) ws ∧ OwnB W3 w.heap.size (.slice r2 l2 c2) bs ∧ Blk W3 B2 28 (rqc 1 (pl + fr + sh) nn wa r1 r2 l1 l2 c1 c2) ∧ l1 = ws.length ∧ l2 = bs.length ∧ w.heap.size ≤ B2 ∧ w.heap.size ≤ W3.heap.size) := by
    have hb : Below w.heap.size w W3 := by rw [hW3]; exact HV.out.1.setCell (p := ⟨B2, 1, none⟩) HV.out.2.2.2.2.2.2.2.2 _
    refine ⟨hb, by rw [hW3]; exact HV.out.2.1.setNe d1, by rw [hW3]; exact HV.out.2.2.1.setNe d2, by rw [hW3]; exact row_setE HV.out.2.2.2.1 ⟨_, HV.out.2.2.2.2.2.1⟩ (by decide), by rw [hW3]; exact row_setE HV.out.2.2.2.2.1 ⟨_, HV.out.2.2.2.2.2.1⟩ (by decide), ?_, HV.out.2.2.2.2.2.2.1, HV.out.2.2.2.2.2.2.2.1, HV.out.2.2.2.2.2.2.2.2, hb.size⟩
    rw [hW3]; have h9 := HV.out.2.2.2.2.2.1.set 1 (.int .i64 (pl + fr + sh)); simpa using h9
  rw [← hW3]
  clear hW3 HV x0 x1 x2 x3 x4 x5 f0 f1 f2 f3 f4 f5 y0 y1 y2 y3 y4 y5
  obtain ⟨⟨y0, y1, y2, y3, y4, y5⟩, _⟩ := HX.out.2.1.six2
  obtain ⟨⟨x0, x1, x2, x3, x4, x5⟩, ⟨f0, f1, f2, f3, f4, f5⟩⟩ := HX.out.2.2.2.2.2.1.six2
  obtain ⟨⟨z0, z1, z2, z3, z4, z5⟩, ⟨g0, g1, g2, g3, g4, g5⟩⟩ := HX.out.2.2.1.six2
  have HY : Hid (OwnI (setL (W3.setCell ⟨B2, 2, none⟩ (.int .i64 (N : Int))) (B + 1) 0 (rqc 1 (pl + fr + sh) (N : Int) wa r1 r2 l1 l2 c1 c2).toList) w.heap.size (.slice r1 l1 c1) ws ∧ OwnB (setL (W3.setCell ⟨B2, 2, none⟩ (.int .i64 (N : Int))) (B + 1) 0 (rqc 1 (pl + fr + sh) (N : Int) wa r1 r2 l1 l2 c1 c2).toList) w.heap.size (.slice r2 l2 c2) bs ∧ Below w.heap.size w (setL (W3.setCell ⟨B2, 2, none⟩ (.int .i64 (N : Int))) (B + 1) 0 (rqc 1 (pl + fr + sh) (N : Int) wa r1 r2 l1 l2 c1 c2).toList) ∧ l1 = ws.length ∧ l2 = bs.length) := ⟨row_setL (row_setE HX.out.2.2.2.1 ⟨_, HX.out.2.2.2.2.2.1⟩ (by decide)) (ExB.set ⟨_, HX.out.2.2.1⟩) (by decide), row_setL (row_setE HX.out.2.2.2.2.1 ⟨_, HX.out.2.2.2.2.2.1⟩ (by decide)) (ExB.set ⟨_, HX.out.2.2.1⟩) (by decide), setL_below (by have := HS.out.2.2.2.2; omega) _ _ _ (HX.out.1.setCell (p := ⟨B2, 2, none⟩) HX.out.2.2.2.2.2.2.2.2.1 _), HX.out.2.2.2.2.2.2.1, HX.out.2.2.2.2.2.2.2.1⟩
  clear HX
  go_wp2
  refine bodyPost_ret (v := .agg (rqc 1 (pl + fr + sh) (N : Int) wa r1 r2 l1 l2 c1 c2)) (by simp [results, Try.results42, go_sem, x0, x1, x2, x3, x4, x5, z0, z1, z2, z3, z4, z5, d1, d2, d3, d4]) rfl ⟨r1, r2, l1, l2, c1, c2, rfl, HY.out.2.2.2.1, HY.out.2.2.2.2, HY.out.1, HY.out.2.1, HY.out.2.2.1⟩

set_option maxRecDepth 20000 in
set_option maxHeartbeats 1000000 in
theorem piece_2 (pl nn wa sh : Int) (fr N : Nat) (q1 q2 : Option Addr) (m1 m2 k1 k2 : Nat) (ws : List Int) (bs : List Bool) (w : World) (h1 : m1 = ws.length) (h2 : m2 = bs.length) (s1 : SlI w q1 ws) (s2 : SlB w q2 bs) (hl1 : ws.length ≤ 2000000) (hl2 : bs.length ≤ 2000000) (hp : 0 ≤ pl ∧ pl ≤ 65535) (hf : fr ≤ 65536) (hN : N ≤ 65536) (hsh : -65535 ≤ sh ∧ sh ≤ 65535) :
    Calls Try.prog 42 #[.agg (rqc 2 pl nn wa q1 q2 m1 m2 k1 k2), .int .i64 (fr : Int), .int .i64 (N : Int), .int .i64 sh] w fun e w' => ReqPost w w' e 2 (pl + fr + sh) (N : Int) wa ws bs := by
  obtain ⟨B, hB⟩ : ∃ B, B = w.heap.size := ⟨_, rfl⟩
  obtain ⟨W, hW⟩ : ∃ W, W = (w.alloc (.cells (rqc 2 pl nn wa q1 q2 m1 m2 k1 k2) 28)).alloc (.cells #[.int .i64 0, .int .i64 0, .int .i64 0, .slice none 0 0, .slice none 0 0, .int .i64 0] 28) := ⟨_, rfl⟩
  have bW : Below w.heap.size w W := by rw [hW]; exact bel_next (bel_alloc _ _) (bel_alloc _ _)
  have HW : Hid (Below w.heap.size w W ∧ Blk W B 28 (rqc 2 pl nn wa q1 q2 m1 m2 k1 k2) ∧ Blk W (B + 1) 28 #[.int .i64 0, .int .i64 0, .int .i64 0, .slice none 0 0, .slice none 0 0, .int .i64 0] ∧ w.heap.size ≤ W.heap.size) := ⟨bW, by rw [hW, hB]; exact (Blk.new w _ _).below (bel_alloc _ _), by rw [hW, hB]; have := Blk.new (w.alloc (.cells (rqc 2 pl nn wa q1 q2 m1 m2 k1 k2) 28)) #[.int .i64 0, .int .i64 0, .int .i64 0, .slice none 0 0, .slice none 0 0, .int .i64 0] 28; simpa using this, bW.size⟩
  have HS : Hid (m1 = ws.length ∧ m2 = bs.length ∧ SlI w q1 ws ∧ SlB w q2 bs ∧ w.heap.size = B) := ⟨h1, h2, s1, s2, hB.symm⟩
  have e1 : IntKind.i64.wrap (pl + (fr : Int)) = pl + fr := by rw [IntKind.wrap_i64]; omega
  have e2 : IntKind.i64.wrap (pl + (fr : Int) + sh) = pl + fr + sh := by rw [IntKind.wrap_i64]; omega
  clear bW h1 h2 s1 s2 hp hsh
  go_enter Try.func42, Try.ntmps42
  go_upto_region 1 with fail
  rw [← hW, ← hB]
  clear hW hB
  obtain ⟨⟨y0, y1, y2, y3, y4, y5⟩, _⟩ := HW.out.2.1.six2
  go_wp2_with fail
  refine (copyReq_any 2 pl nn wa q1 q2 m1 m2 k1 k2 ws bs _ HS.out.1 HS.out.2.1 (HS.out.2.2.1.below HW.out.1) (HS.out.2.2.2.1.below HW.out.1) hl1 hl2).mono ?_
  rintro e w1 ⟨r1, r2, l1, l2, c1, c2, rfl, g1, g2, o1, o2, b1⟩
  obtain ⟨B2, hB2⟩ : ∃ B2, B2 = w1.heap.size := ⟨_, rfl⟩
  have HU : Hid (Below w.heap.size w w1 ∧ Blk w1 B 28 (rqc 2 pl nn wa q1 q2 m1 m2 k1 k2) ∧ Blk w1 (B + 1) 28 #[.int .i64 0, .int .i64 0, .int .i64 0, .slice none 0 0, .slice none 0 0, .int .i64 0] ∧ OwnI w1 w.heap.size (.slice r1 l1 c1) ws ∧ OwnB w1 w.heap.size (.slice r2 l2 c2) bs ∧ l1 = ws.length ∧ l2 = bs.length ∧ B2 = w1.heap.size) := ⟨bel_next HW.out.1 b1, HW.out.2.1.below b1, HW.out.2.2.1.below b1, OwnI.mono o1 HW.out.1.size, OwnB.mono o2 HW.out.1.size, g1, g2, hB2⟩
  clear b1 o1 o2 g1 g2 HW y0 y1 y2 y3 y4 y5
  obtain ⟨⟨y0, y1, y2, y3, y4, y5⟩, _⟩ := HU.out.2.1.six2
  have d1 : ¬ B = B2 := by have := HU.out.2.1.lt; omega
  have d2 : ¬ B + 1 = B2 := by have := HU.out.2.2.1.lt; omega
  have d3 : ¬ B2 = B := fun e => d1 e.symm
  have d4 : ¬ B2 = B + 1 := fun e => d2 e.symm
  go_upto_region 2 with fail
  obtain ⟨W2, hW2⟩ : ∃ W2, W2 = w1.alloc (.cells (rqc 2 pl nn wa r1 r2 l1 l2 c1 c2) 28) := ⟨_, rfl⟩
  have bW2 : Below w1.heap.size w1 W2 := by rw [hW2]; exact bel_alloc _ _
  have HV : Hid (Below w.heap.size w W2 ∧ Blk W2 B 28 (rqc 2 pl nn wa q1 q2 m1 m2 k1 k2) ∧ Blk W2 (B + 1) 28 #[.int .i64 0, .int .i64 0, .int .i64 0, .slice none 0 0, .slice none 0 0, .int .i64 0] ∧ OwnI W2 w.heap.size (.slice r1 l1 c1) ws ∧ OwnB W2 w.heap.size (.slice r2 l2 c2) bs ∧ Blk W2 B2 28 (rqc 2 pl nn wa r1 r2 l1 l2 c1 c2) ∧ l1 = ws.length ∧ l2 = bs.length ∧ w.heap.size ≤ B2) := ⟨bel_next HU.out.1 bW2, HU.out.2.1.below bW2, HU.out.2.2.1.below bW2, HU.out.2.2.2.1.below bW2, HU.out.2.2.2.2.1.below bW2, by rw [hW2, hB2]; exact Blk.new w1 _ _, HU.out.2.2.2.2.2.1, HU.out.2.2.2.2.2.2.1, by rw [hB2]; exact HU.out.1.size⟩
  rw [← hW2, ← hB2]
  clear hW2 hB2 HU bW2 y0 y1 y2 y3 y4 y5
  obtain ⟨⟨y0, y1, y2, y3, y4, y5⟩, _⟩ := HV.out.2.1.six2
  obtain ⟨⟨x0, x1, x2, x3, x4, x5⟩, ⟨f0, f1, f2, f3, f4, f5⟩⟩ := HV.out.2.2.2.2.2.1.six2
  go_upto_region 3 with fail
  obtain ⟨W3, hW3⟩ : ∃ W3, W3 = W2.setCell ⟨B2, 1, none⟩ (.int .i64 (pl + fr + sh)) := ⟨_, rfl⟩
  have HX : Hid (Below w.heap.size w W3 ∧ Blk W3 B 28 (rqc 2 pl nn wa q1 q2 m1 m2 k1 k2) ∧ Blk W3 (B + 1) 28 #[.int .i64 0, .int .i64 0, .int .i64 0, .slice none 0 0, .slice none 0 0, .int .i64 0] ∧ OwnI W3 w.heap.size (.slice r1 l1 c1) ws ∧ OwnB W3 w.heap.size (.slice r2 l2 c2) bs ∧ Blk W3 B2 28 (rqc 2 (pl + fr + sh) nn wa r1 r2 l1 l2 c1 c2) ∧ l1 = ws.length ∧ l2 = bs.length ∧ w.heap.size ≤ B2 ∧ w.heap.size ≤ W3.heap.size) := by
    have hb : Below w.heap.size w W3 := by rw [hW3]; exact HV.out.1.setCell (p := ⟨B2, 1, none⟩) HV.out.2.2.2.2.2.2.2.2 _
    refine ⟨hb, by rw [hW3]; exact HV.out.2.1.setNe d1, by rw [hW3]; exact HV.out.2.2.1.setNe d2, by rw [hW3]; exact row_setE HV.out.2.2.2.1 ⟨_, HV.out.2.2.2.2.2.1⟩ (by decide), by rw [hW3]; exact row_setE HV.out.2.2.2.2.1 ⟨_, HV.out.2.2.2.2.2.1⟩ (by decide), ?_, HV.out.2.2.2.2.2.2.1, HV.out.2.2.2.2.2.2.2.1, HV.out.2.2.2.2.2.2.2.2, hb.size⟩
    rw [hW3]; have h9 := HV.out.2.2.2.2.2.1.set 1 (.int .i64 (pl + fr + sh)); simpa using h9
  rw [← hW3]
  clear hW3 HV x0 x1 x2 x3 x4 x5 f0 f1 f2 f3 f4 f5 y0 y1 y2 y3 y4 y5
  obtain ⟨⟨y0, y1, y2, y3, y4, y5⟩, _⟩ := HX.out.2.1.six2
  obtain ⟨⟨x0, x1, x2, x3, x4, x5⟩, ⟨f0, f1, f2, f3, f4, f5⟩⟩ := HX.out.2.2.2.2.2.1.six2
  obtain ⟨⟨z0, z1, z2, z3, z4, z5⟩, ⟨g0, g1, g2, g3, g4, g5⟩⟩ := HX.out.2.2.1.six2
  have HY : Hid (OwnI (setL (W3.setCell ⟨B2, 2, none⟩ (.int .i64 (N : Int))) (B + 1) 0 (rqc 2 (pl + fr + sh) (N : Int) wa r1 r2 l1 l2 c1 c2).toList) w.heap.size (.slice r1 l1 c1) ws ∧ OwnB (setL (W3.setCell ⟨B2, 2, none⟩ (.int .i64 (N : Int))) (B + 1) 0 (rqc 2 (pl + fr + sh) (N : Int) wa r1 r2 l1 l2 c1 c2).toList) w.heap.size (.slice r2 l2 c2) bs ∧ Below w.heap.size w (setL (W3.setCell ⟨B2, 2, none⟩ (.int .i64 (N : Int))) (B + 1) 0 (rqc 2 (pl + fr + sh) (N : Int) wa r1 r2 l1 l2 c1 c2).toList) ∧ l1 = ws.length ∧ l2 = bs.length) := ⟨row_setL (row_setE HX.out.2.2.2.1 ⟨_, HX.out.2.2.2.2.2.1⟩ (by decide)) (ExB.set ⟨_, HX.out.2.2.1⟩) (by decide), row_setL (row_setE HX.out.2.2.2.2.1 ⟨_, HX.out.2.2.2.2.2.1⟩ (by decide)) (ExB.set ⟨_, HX.out.2.2.1⟩) (by decide), setL_below (by have := HS.out.2.2.2.2; omega) _ _ _ (HX.out.1.setCell (p := ⟨B2, 2, none⟩) HX.out.2.2.2.2.2.2.2.2.1 _), HX.out.2.2.2.2.2.2.1, HX.out.2.2.2.2.2.2.2.1⟩
  clear HX
  go_wp2
  refine bodyPost_ret (v := .agg (rqc 2 (pl + fr + sh) (N : Int) wa r1 r2 l1 l2 c1 c2)) (by simp [results, Try.results42, go_sem, x0, x1, x2, x3, x4, x5, z0, z1, z2, z3, z4, z5, d1, d2, d3, d4]) rfl ⟨r1, r2, l1, l2, c1, c2, rfl, HY.out.2.2.2.1, HY.out.2.2.2.2, HY.out.1, HY.out.2.1, HY.out.2.2.1⟩

set_option maxRecDepth 20000 in
set_option maxHeartbeats 1000000 in
theorem piece_3 (pl nn wa sh : Int) (fr N : Nat) (q1 q2 : Option Addr) (m1 m2 k1 k2 : Nat) (ws : List Int) (bs : List Bool) (w : World) (h1 : m1 = ws.length) (h2 : m2 = bs.length) (s1 : SlI w q1 ws) (s2 : SlB w q2 bs) (hl1 : ws.length ≤ 2000000) (hl2 : bs.length ≤ 2000000) (hp : 0 ≤ pl ∧ pl ≤ 65535) (hf : fr ≤ 65536) (hN : N ≤ 65536) (hsh : -65535 ≤ sh ∧ sh ≤ 65535) :
    Calls Try.prog 42 #[.agg (rqc 3 pl nn wa q1 q2 m1 m2 k1 k2), .int .i64 (fr : Int), .int .i64 (N : Int), .int .i64 sh] w fun e w' => ReqPost w w' e 3 (pl + fr + sh) (N : Int) wa ws bs := by
  obtain ⟨B, hB⟩ : ∃ B, B = w.heap.size := ⟨_, rfl⟩
  obtain ⟨W, hW⟩ : ∃ W, W = (w.alloc (.cells (rqc 3 pl nn wa q1 q2 m1 m2 k1 k2) 28)).alloc (.cells #[.int .i64 0, .int .i64 0, .int .i64 0, .slice none 0 0, .slice none 0 0, .int .i64 0] 28) := ⟨_, rfl⟩
  have bW : Below w.heap.size w W := by rw [hW]; exact bel_next (bel_alloc _ _) (bel_alloc _ _)
  have HW : Hid (Below w.heap.size w W ∧ Blk W B 28 (rqc 3 pl nn wa q1 q2 m1 m2 k1 k2) ∧ Blk W (B + 1) 28 #[.int .i64 0, .int .i64 0, .int .i64 0, .slice none 0 0, .slice none 0 0, .int .i64 0] ∧ w.heap.size ≤ W.heap.size) := ⟨bW, by rw [hW, hB]; exact (Blk.new w _ _).below (bel_alloc _ _), by rw [hW, hB]; have := Blk.new (w.alloc (.cells (rqc 3 pl nn wa q1 q2 m1 m2 k1 k2) 28)) #[.int .i64 0, .int .i64 0, .int .i64 0, .slice none 0 0, .slice none 0 0, .int .i64 0] 28; simpa using this, bW.size⟩
  have HS : Hid (m1 = ws.length ∧ m2 = bs.length ∧ SlI w q1 ws ∧ SlB w q2 bs ∧ w.heap.size = B) := ⟨h1, h2, s1, s2, hB.symm⟩
  have e1 : IntKind.i64.wrap (pl + (fr : Int)) = pl + fr := by rw [IntKind.wrap_i64]; omega
  have e2 : IntKind.i64.wrap (pl + (fr : Int) + sh) = pl + fr + sh := by rw [IntKind.wrap_i64]; omega
  clear bW h1 h2 s1 s2 hp hsh
  go_enter Try.func42, Try.ntmps42
  go_upto_region 1 with fail
  rw [← hW, ← hB]
  clear hW hB
  obtain ⟨⟨y0, y1, y2, y3, y4, y5⟩, _⟩ := HW.out.2.1.six2
  go_wp2_with fail
  refine (copyReq_any 3 pl nn wa q1 q2 m1 m2 k1 k2 ws bs _ HS.out.1 HS.out.2.1 (HS.out.2.2.1.below HW.out.1) (HS.out.2.2.2.1.below HW.out.1) hl1 hl2).mono ?_
  rintro e w1 ⟨r1, r2, l1, l2, c1, c2, rfl, g1, g2, o1, o2, b1⟩
  obtain ⟨B2, hB2⟩ : ∃ B2, B2 = w1.heap.size := ⟨_, rfl⟩
  have HU : Hid (Below w.heap.size w w1 ∧ Blk w1 B 28 (rqc 3 pl nn wa q1 q2 m1 m2 k1 k2) ∧ Blk w1 (B + 1) 28 #[.int .i64 0, .int .i64 0, .int .i64 0, .slice none 0 0, .slice none 0 0, .int .i64 0] ∧ OwnI w1 w.heap.size (.slice r1 l1 c1) ws ∧ OwnB w1 w.heap.size (.slice r2 l2 c2) bs ∧ l1 = ws.length ∧ l2 = bs.length ∧ B2 = w1.heap.size) := ⟨bel_next HW.out.1 b1, HW.out.2.1.below b1, HW.out.2.2.1.below b1, OwnI.mono o1 HW.out.1.size, OwnB.mono o2 HW.out.1.size, g1, g2, hB2⟩
  clear b1 o1 o2 g1 g2 HW y0 y1 y2 y3 y4 y5
  obtain ⟨⟨y0, y1, y2, y3, y4, y5⟩, _⟩ := HU.out.2.1.six2
  have d1 : ¬ B = B2 := by have := HU.out.2.1.lt; omega
  have d2 : ¬ B + 1 = B2 := by have := HU.out.2.2.1.lt; omega
  have d3 : ¬ B2 = B := fun e => d1 e.symm
  have d4 : ¬ B2 = B + 1 := fun e => d2 e.symm
  go_upto_region 2 with fail
  obtain ⟨W2, hW2⟩ : ∃ W2, W2 = w1.alloc (.cells (rqc 3 pl nn wa r1 r2 l1 l2 c1 c2) 28) := ⟨_, rfl⟩
  have bW2 : Below w1.heap.size w1 W2 := by rw [hW2]; exact bel_alloc _ _
  have HV : Hid (Below w.heap.size w W2 ∧ Blk W2 B 28 (rqc 3 pl nn wa q1 q2 m1 m2 k1 k2) ∧ Blk W2 (B + 1) 28 #[.int .i64 0, .int .i64 0, .int .i64 0, .slice none 0 0, .slice none 0 0, .int .i64 0] ∧ OwnI W2 w.heap.size (.slice r1 l1 c1) ws ∧ OwnB W2 w.heap.size (.slice r2 l2 c2) bs ∧ Blk W2 B2 28 (rqc 3 pl nn wa r1 r2 l1 l2 c1 c2) ∧ l1 = ws.length ∧ l2 = bs.length ∧ w.heap.size ≤ B2) := ⟨bel_next HU.out.1 bW2, HU.out.2.1.below bW2, HU.out.2.2.1.below bW2, HU.out.2.2.2.1.below bW2, HU.out.2.2.2.2.1.below bW2, by rw [hW2, hB2]; exact Blk.new w1 _ _, HU.out.2.2.2.2.2.1, HU.out.2.2.2.2.2.2.1, by rw [hB2]; exact HU.out.1.size⟩
  rw [← hW2, ← hB2]
  clear hW2 hB2 HU bW2 y0 y1 y2 y3 y4 y5
  obtain ⟨⟨y0, y1, y2, y3, y4, y5⟩, _⟩ := HV.out.2.1.six2
  obtain ⟨⟨x0, x1, x2, x3, x4, x5⟩, ⟨f0, f1, f2, f3, f4, f5⟩⟩ := HV.out.2.2.2.2.2.1.six2
  go_upto_region 3 with fail
  obtain ⟨W3, hW3⟩ : ∃ W3, W3 = W2.setCell ⟨B2, 1, none⟩ (.int .i64 (pl + fr + sh)) := ⟨_, rfl⟩
  have HX : Hid (Below w.heap.size w W3 ∧ Blk W3 B 28 (rqc 3 pl nn wa q1 q2 m1 m2 k1 k2) ∧ Blk W3 (B + 1) 28 #[.int .i64 0, .int .i64 0, .int .i64 0, .slice none 0 0, .slice none 0 0, .int .i64 0] ∧ OwnI W3 w.heap.size (.slice r1 l1 c1) ws ∧ OwnB W3 w.heap.size (.slice r2 l2 c2) bs ∧ Blk W3 B2 28 (rqc 3 (pl + fr + sh) nn wa r1 r2 l1 l2 c1 c2) ∧ l1 = ws.length ∧ l2 = bs.length ∧ w.heap.size ≤ B2 ∧ w.heap.size ≤ W3.heap.size) := by
    have hb : Below w.heap.size w W3 := by rw [hW3]; exact HV.out.1.setCell (p := ⟨B2, 1, none⟩) HV.out.2.2.2.2.2.2.2.2 _
    refine ⟨hb, by rw [hW3]; exact HV.out.2.1.setNe d1, by rw [hW3]; exact HV.out.2.2.1.setNe d2, by rw [hW3]; exact row_setE HV.out.2.2.2.1 ⟨_, HV.out.2.2.2.2.2.1⟩ (by decide), by rw [hW3]; exact row_setE HV.out.2.2.2.2.1 ⟨_, HV.out.2.2.2.2.2.1⟩ (by decide), ?_, HV.out.2.2.2.2.2.2.1, HV.out.2.2.2.2.2.2.2.1, HV.out.2.2.2.2.2.2.2.2, hb.size⟩
    rw [hW3]; have h9 := HV.out.2.2.2.2.2.1.set 1 (.int .i64 (pl + fr + sh)); simpa using h9
  rw [← hW3]
  clear hW3 HV x0 x1 x2 x3 x4 x5 f0 f1 f2 f3 f4 f5 y0 y1 y2 y3 y4 y5
  obtain ⟨⟨y0, y1, y2, y3, y4, y5⟩, _⟩ := HX.out.2.1.six2
  obtain ⟨⟨x0, x1, x2, x3, x4, x5⟩, ⟨f0, f1, f2, f3, f4, f5⟩⟩ := HX.out.2.2.2.2.2.1.six2
  obtain ⟨⟨z0, z1, z2, z3, z4, z5⟩, ⟨g0, g1, g2, g3, g4, g5⟩⟩ := HX.out.2.2.1.six2
  have HY : Hid (OwnI (setL (W3.setCell ⟨B2, 2, none⟩ (.int .i64 (N : Int))) (B + 1) 0 (rqc 3 (pl + fr + sh) (N : Int) wa r1 r2 l1 l2 c1 c2).toList) w.heap.size (.slice r1 l1 c1) ws ∧ OwnB (setL (W3.setCell ⟨B2, 2, none⟩ (.int .i64 (N : Int))) (B + 1) 0 (rqc 3 (pl + fr + sh) (N : Int) wa r1 r2 l1 l2 c1 c2).toList) w.heap.size (.slice r2 l2 c2) bs ∧ Below w.heap.size w (setL (W3.setCell ⟨B2, 2, none⟩ (.int .i64 (N : Int))) (B + 1) 0 (rqc 3 (pl + fr + sh) (N : Int) wa r1 r2 l1 l2 c1 c2).toList) ∧ l1 = ws.length ∧ l2 = bs.length) := ⟨row_setL (row_setE HX.out.2.2.2.1 ⟨_, HX.out.2.2.2.2.2.1⟩ (by decide)) (ExB.set ⟨_, HX.out.2.2.1⟩) (by decide), row_setL (row_setE HX.out.2.2.2.2.1 ⟨_, HX.out.2.2.2.2.2.1⟩ (by decide)) (ExB.set ⟨_, HX.out.2.2.1⟩) (by decide), setL_below (by have := HS.out.2.2.2.2; omega) _ _ _ (HX.out.1.setCell (p := ⟨B2, 2, none⟩) HX.out.2.2.2.2.2.2.2.2.1 _), HX.out.2.2.2.2.2.2.1, HX.out.2.2.2.2.2.2.2.1⟩
  clear HX
  go_wp2
  refine bodyPost_ret (v := .agg (rqc 3 (pl + fr + sh) (N : Int) wa r1 r2 l1 l2 c1 c2)) (by simp [results, Try.results42, go_sem, x0, x1, x2, x3, x4, x5, z0, z1, z2, z3, z4, z5, d1, d2, d3, d4]) rfl ⟨r1, r2, l1, l2, c1, c2, rfl, HY.out.2.2.2.1, HY.out.2.2.2.2, HY.out.1, HY.out.2.1, HY.out.2.2.1⟩

set_option maxRecDepth 20000 in
set_option maxHeartbeats 1000000 in
theorem piece_4 (pl nn wa sh : Int) (fr N : Nat) (q1 q2 : Option Addr) (m1 m2 k1 k2 : Nat) (ws : List Int) (bs : List Bool) (w : World) (h1 : m1 = ws.length) (h2 : m2 = bs.length) (s1 : SlI w q1 ws) (s2 : SlB w q2 bs) (hl1 : ws.length ≤ 2000000) (hl2 : bs.length ≤ 2000000) (hp : 0 ≤ pl ∧ pl ≤ 65535) (hf : fr ≤ 65536) (hN : N ≤ 65536) (hsh : -65535 ≤ sh ∧ sh ≤ 65535) :
    Calls Try.prog 42 #[.agg (rqc 4 pl nn wa q1 q2 m1 m2 k1 k2), .int .i64 (fr : Int), .int .i64 (N : Int), .int .i64 sh] w fun e w' => ReqPost w w' e 4 (pl + fr + sh) (N : Int) wa ws bs := by
  obtain ⟨B, hB⟩ : ∃ B, B = w.heap.size := ⟨_, rfl⟩
  obtain ⟨W, hW⟩ : ∃ W, W = (w.alloc (.cells (rqc 4 pl nn wa q1 q2 m1 m2 k1 k2) 28)).alloc (.cells #[.int .i64 0, .int .i64 0, .int .i64 0, .slice none 0 0, .slice none 0 0, .int .i64 0] 28) := ⟨_, rfl⟩
  have bW : Below w.heap.size w W := by rw [hW]; exact bel_next (bel_alloc _ _) (bel_alloc _ _)
  have HW : Hid (Below w.heap.size w W ∧ Blk W B 28 (rqc 4 pl nn wa q1 q2 m1 m2 k1 k2) ∧ Blk W (B + 1) 28 #[.int .i64 0, .int .i64 0, .int .i64 0, .slice none 0 0, .slice none 0 0, .int .i64 0] ∧ w.heap.size ≤ W.heap.size) := ⟨bW, by rw [hW, hB]; exact (Blk.new w _ _).below (bel_alloc _ _), by rw [hW, hB]; have := Blk.new (w.alloc (.cells (rqc 4 pl nn wa q1 q2 m1 m2 k1 k2) 28)) #[.int .i64 0, .int .i64 0, .int .i64 0, .slice none 0 0, .slice none 0 0, .int .i64 0] 28; simpa using this, bW.size⟩
  have HS : Hid (m1 = ws.length ∧ m2 = bs.length ∧ SlI w q1 ws ∧ SlB w q2 bs ∧ w.heap.size = B) := ⟨h1, h2, s1, s2, hB.symm⟩
  have e1 : IntKind.i64.wrap (pl + (fr : Int)) = pl + fr := by rw [IntKind.wrap_i64]; omega
  have e2 : IntKind.i64.wrap (pl + (fr : Int) + sh) = pl + fr + sh := by rw [IntKind.wrap_i64]; omega
  clear bW h1 h2 s1 s2 hp hsh
  go_enter Try.func42, Try.ntmps42
  go_upto_region 1 with fail
  rw [← hW, ← hB]
  clear hW hB
  obtain ⟨⟨y0, y1, y2, y3, y4, y5⟩, _⟩ := HW.out.2.1.six2
  go_wp2_with fail
  refine (copyReq_any 4 pl nn wa q1 q2 m1 m2 k1 k2 ws bs _ HS.out.1 HS.out.2.1 (HS.out.2.2.1.below HW.out.1) (HS.out.2.2.2.1.below HW.out.1) hl1 hl2).mono ?_
  rintro e w1 ⟨r1, r2, l1, l2, c1, c2, rfl, g1, g2, o1, o2, b1⟩
  obtain ⟨B2, hB2⟩ : ∃ B2, B2 = w1.heap.size := ⟨_, rfl⟩
  have HU : Hid (Below w.heap.size w w1 ∧ Blk w1 B 28 (rqc 4 pl nn wa q1 q2 m1 m2 k1 k2) ∧ Blk w1 (B + 1) 28 #[.int .i64 0, .int .i64 0, .int .i64 0, .slice none 0 0, .slice none 0 0, .int .i64 0] ∧ OwnI w1 w.heap.size (.slice r1 l1 c1) ws ∧ OwnB w1 w.heap.size (.slice r2 l2 c2) bs ∧ l1 = ws.length ∧ l2 = bs.length ∧ B2 = w1.heap.size) := ⟨bel_next HW.out.1 b1, HW.out.2.1.below b1, HW.out.2.2.1.below b1, OwnI.mono o1 HW.out.1.size, OwnB.mono o2 HW.out.1.size, g1, g2, hB2⟩
  clear b1 o1 o2 g1 g2 HW y0 y1 y2 y3 y4 y5
  obtain ⟨⟨y0, y1, y2, y3, y4, y5⟩, _⟩ := HU.out.2.1.six2
  have d1 : ¬ B = B2 := by have := HU.out.2.1.lt; omega
  have d2 : ¬ B + 1 = B2 := by have := HU.out.2.2.1.lt; omega
  have d3 : ¬ B2 = B := fun e => d1 e.symm
  have d4 : ¬ B2 = B + 1 := fun e => d2 e.symm
  go_upto_region 2 with fail
  obtain ⟨W2, hW2⟩ : ∃ W2, W2 = w1.alloc (.cells (rqc 4 pl nn wa r1 r2 l1 l2 c1 c2) 28) := ⟨_, rfl⟩
  have bW2 : Below w1.heap.size w1 W2 := by rw [hW2]; exact bel_alloc _ _
  have HV : Hid (Below w.heap.size w W2 ∧ Blk W2 B 28 (rqc 4 pl nn wa q1 q2 m1 m2 k1 k2) ∧ Blk W2 (B + 1) 28 #[.int .i64 0, .int .i64 0, .int .i64 0, .slice none 0 0, .slice none 0 0, .int .i64 0] ∧ OwnI W2 w.heap.size (.slice r1 l1 c1) ws ∧ OwnB W2 w.heap.size (.slice r2 l2 c2) bs ∧ Blk W2 B2 28 (rqc 4 pl nn wa r1 r2 l1 l2 c1 c2) ∧ l1 = ws.length ∧ l2 = bs.length ∧ w.heap.size ≤ B2) := ⟨bel_next HU.out.1 bW2, HU.out.2.1.below bW2, HU.out.2.2.1.below bW2, HU.out.2.2.2.1.below bW2, HU.out.2.2.2.2.1.below bW2, by rw [hW2, hB2]; exact Blk.new w1 _ _, HU.out.2.2.2.2.2.1, HU.out.2.2.2.2.2.2.1, by rw [hB2]; exact HU.out.1.size⟩
  rw [← hW2, ← hB2]
  clear hW2 hB2 HU bW2 y0 y1 y2 y3 y4 y5
  obtain ⟨⟨y0, y1, y2, y3, y4, y5⟩, _⟩ := HV.out.2.1.six2
  obtain ⟨⟨x0, x1, x2, x3, x4, x5⟩, ⟨f0, f1, f2, f3, f4, f5⟩⟩ := HV.out.2.2.2.2.2.1.six2
  go_upto_region 3 with fail
  obtain ⟨W3, hW3⟩ : ∃ W3, W3 = W2.setCell ⟨B2, 1, none⟩ (.int .i64 (pl + fr + sh)) := ⟨_, rfl⟩
  have HX : Hid (Below w.heap.size w W3 ∧ Blk W3 B 28 (rqc 4 pl nn wa q1 q2 m1 m2 k1 k2) ∧ Blk W3 (B + 1) 28 #[.int .i64 0, .int .i64 0, .int .i64 0, .slice none 0 0, .slice none 0 0, .int .i64 0] ∧ OwnI W3 w.heap.size (.slice r1 l1 c1) ws ∧ OwnB W3 w.heap.size (.slice r2 l2 c2) bs ∧ Blk W3 B2 28 (rqc 4 (pl + fr + sh) nn wa r1 r2 l1 l2 c1 c2) ∧ l1 = ws.length ∧ l2 = bs.length ∧ w.heap.size ≤ B2 ∧ w.heap.size ≤ W3.heap.size) := by
    have hb : Below w.heap.size w W3 := by rw [hW3]; exact HV.out.1.setCell (p := ⟨B2, 1, none⟩) HV.out.2.2.2.2.2.2.2.2 _
    refine ⟨hb, by rw [hW3]; exact HV.out.2.1.setNe d1, by rw [hW3]; exact HV.out.2.2.1.setNe d2, by rw [hW3]; exact row_setE HV.out.2.2.2.1 ⟨_, HV.out.2.2.2.2.2.1⟩ (by decide), by rw [hW3]; exact row_setE HV.out.2.2.2.2.1 ⟨_, HV.out.2.2.2.2.2.1⟩ (by decide), ?_, HV.out.2.2.2.2.2.2.1, HV.out.2.2.2.2.2.2.2.1, HV.out.2.2.2.2.2.2.2.2, hb.size⟩
    rw [hW3]; have h9 := HV.out.2.2.2.2.2.1.set 1 (.int .i64 (pl + fr + sh)); simpa using h9
  rw [← hW3]
  clear hW3 HV x0 x1 x2 x3 x4 x5 f0 f1 f2 f3 f4 f5 y0 y1 y2 y3 y4 y5
  obtain ⟨⟨y0, y1, y2, y3, y4, y5⟩, _⟩ := HX.out.2.1.six2
  obtain ⟨⟨x0, x1, x2, x3, x4, x5⟩, ⟨f0, f1, f2, f3, f4, f5⟩⟩ := HX.out.2.2.2.2.2.1.six2
  obtain ⟨⟨z0, z1, z2, z3, z4, z5⟩, ⟨g0, g1, g2, g3, g4, g5⟩⟩ := HX.out.2.2.1.six2
  have HY : Hid (OwnI (setL (W3.setCell ⟨B2, 2, none⟩ (.int .i64 (N : Int))) (B + 1) 0 (rqc 4 (pl + fr + sh) (N : Int) wa r1 r2 l1 l2 c1 c2).toList) w.heap.size (.slice r1 l1 c1) ws ∧ OwnB (setL (W3.setCell ⟨B2, 2, none⟩ (.int .i64 (N : Int))) (B + 1) 0 (rqc 4 (pl + fr + sh) (N : Int) wa r1 r2 l1 l2 c1 c2).toList) w.heap.size (.slice r2 l2 c2) bs ∧ Below w.heap.size w (setL (W3.setCell ⟨B2, 2, none⟩ (.int .i64 (N : Int))) (B + 1) 0 (rqc 4 (pl + fr + sh) (N : Int) wa r1 r2 l1 l2 c1 c2).toList) ∧ l1 = ws.length ∧ l2 = bs.length) := ⟨row_setL (row_setE HX.out.2.2.2.1 ⟨_, HX.out.2.2.2.2.2.1⟩ (by decide)) (ExB.set ⟨_, HX.out.2.2.1⟩) (by decide), row_setL (row_setE HX.out.2.2.2.2.1 ⟨_, HX.out.2.2.2.2.2.1⟩ (by decide)) (ExB.set ⟨_, HX.out.2.2.1⟩) (by decide), setL_below (by have := HS.out.2.2.2.2; omega) _ _ _ (HX.out.1.setCell (p := ⟨B2, 2, none⟩) HX.out.2.2.2.2.2.2.2.2.1 _), HX.out.2.2.2.2.2.2.1, HX.out.2.2.2.2.2.2.2.1⟩
  clear HX
  go_wp2
  refine bodyPost_ret (v := .agg (rqc 4 (pl + fr + sh) (N : Int) wa r1 r2 l1 l2 c1 c2)) (by simp [results, Try.results42, go_sem, x0, x1, x2, x3, x4, x5, z0, z1, z2, z3, z4, z5, d1, d2, d3, d4]) rfl ⟨r1, r2, l1, l2, c1, c2, rfl, HY.out.2.2.2.1, HY.out.2.2.2.2, HY.out.1, HY.out.2.1, HY.out.2.2.1⟩

set_option maxRecDepth 20000 in
set_option maxHeartbeats 1000000 in
theorem piece_5 (pl nn wa sh : Int) (fr N : Nat) (q1 q2 : Option Addr) (m1 m2 k1 k2 : Nat) (ws : List Int) (bs : List Bool) (w : World) (h1 : m1 = ws.length) (h2 : m2 = bs.length) (s1 : SlI w q1 ws) (s2 : SlB w q2 bs) (hl1 : ws.length ≤ 2000000) (hl2 : bs.length ≤ 2000000) (hp : 0 ≤ pl ∧ pl ≤ 65535) (hf : fr ≤ 65536) (hN : N ≤ 65536) (hsh : -65535 ≤ sh ∧ sh ≤ 65535) (hin : fr + N ≤ bs.length) (hpos : 0 < N) (hk2 : m2 ≤ k2) :
    Calls Try.prog 42 #[.agg (rqc 5 pl nn wa q1 q2 m1 m2 k1 k2), .int .i64 (fr : Int), .int .i64 (N : Int), .int .i64 sh] w fun e w' => ReqPost w w' e 5 (pl + fr + sh) nn wa ws ((bs.drop fr).take N) := by
  obtain ⟨qb, qo, rfl⟩ := slB_some s2 (by omega)
  obtain ⟨B, hB⟩ : ∃ B, B = w.heap.size := ⟨_, rfl⟩
  obtain ⟨W, hW⟩ : ∃ W, W = (w.alloc (.cells (rqc 5 pl nn wa q1 (some ⟨qb, qo, none⟩) m1 m2 k1 k2) 28)).alloc (.cells #[.int .i64 0, .int .i64 0, .int .i64 0, .slice none 0 0, .slice none 0 0, .int .i64 0] 28) := ⟨_, rfl⟩
  have bW : Below w.heap.size w W := by rw [hW]; exact bel_next (bel_alloc _ _) (bel_alloc _ _)
  have HW : Hid (Below w.heap.size w W ∧ Blk W B 28 (rqc 5 pl nn wa q1 (some ⟨qb, qo, none⟩) m1 m2 k1 k2) ∧ Blk W (B + 1) 28 #[.int .i64 0, .int .i64 0, .int .i64 0, .slice none 0 0, .slice none 0 0, .int .i64 0] ∧ w.heap.size ≤ W.heap.size) := ⟨bW, by rw [hW, hB]; exact (Blk.new w _ _).below (bel_alloc _ _), by rw [hW, hB]; have := Blk.new (w.alloc (.cells (rqc 5 pl nn wa q1 (some ⟨qb, qo, none⟩) m1 m2 k1 k2) 28)) #[.int .i64 0, .int .i64 0, .int .i64 0, .slice none 0 0, .slice none 0 0, .int .i64 0] 28; simpa using this, bW.size⟩
  have HS : Hid (m1 = ws.length ∧ m2 = bs.length ∧ SlI w q1 ws ∧ SlB w (some ⟨qb, qo, none⟩) bs ∧ w.heap.size = B) := ⟨h1, h2, s1, s2, hB.symm⟩
  have e1 : IntKind.i64.wrap (pl + (fr : Int)) = pl + fr := by rw [IntKind.wrap_i64]; omega
  have e2 : IntKind.i64.wrap (pl + (fr : Int) + sh) = pl + fr + sh := by rw [IntKind.wrap_i64]; omega
  have hck : ¬ k2 = fr := by omega
  have i0 : (fr : Int) ≤ (fr : Int) + (N : Int) := by omega
  have i1 : (fr : Int) + (N : Int) ≤ (m2 : Int) := by omega
  have i2 : (fr : Int) + (N : Int) ≤ (k2 : Int) := by omega
  have i3' : (0 : Int) ≤ (fr : Int) := by omega
  have i4 : (0 : Int) ≤ (fr : Int) + (N : Int) := by omega
  have i5 : IntKind.i64.wrap ((fr : Int) + (N : Int)) = (fr : Int) + (N : Int) := by rw [IntKind.wrap_i64]; omega
  have i6 : (fr : Int) ≤ (k2 : Int) := by omega
  have HG : Hid (N = ((bs.drop fr).take N).length ∧ SlB w (some ⟨qb, qo + fr, none⟩) ((bs.drop fr).take N) ∧ ((bs.drop fr).take N).length ≤ 2000000) := ⟨by simp; omega, slB_off s2 hin, by simp; omega⟩
  clear hin
  clear bW h1 h2 s1 s2 hp hsh
  go_enter Try.func42, Try.ntmps42
  go_upto_region 1 with fail
  rw [← hW, ← hB]
  clear hW hB
  obtain ⟨⟨y0, y1, y2, y3, y4, y5⟩, _⟩ := HW.out.2.1.six2
  go_wp2_with fail
  refine (copyReq_any 5 pl nn wa q1 (some ⟨qb, qo, none⟩) m1 m2 k1 k2 ws bs _ HS.out.1 HS.out.2.1 (HS.out.2.2.1.below HW.out.1) (HS.out.2.2.2.1.below HW.out.1) hl1 hl2).mono ?_
  rintro e w1 ⟨r1, r2, l1, l2, c1, c2, rfl, g1, g2, o1, o2, b1⟩
  obtain ⟨B2, hB2⟩ : ∃ B2, B2 = w1.heap.size := ⟨_, rfl⟩
  have HU : Hid (Below w.heap.size w w1 ∧ Blk w1 B 28 (rqc 5 pl nn wa q1 (some ⟨qb, qo, none⟩) m1 m2 k1 k2) ∧ Blk w1 (B + 1) 28 #[.int .i64 0, .int .i64 0, .int .i64 0, .slice none 0 0, .slice none 0 0, .int .i64 0] ∧ OwnI w1 w.heap.size (.slice r1 l1 c1) ws ∧ OwnB w1 w.heap.size (.slice r2 l2 c2) bs ∧ l1 = ws.length ∧ l2 = bs.length ∧ B2 = w1.heap.size) := ⟨bel_next HW.out.1 b1, HW.out.2.1.below b1, HW.out.2.2.1.below b1, OwnI.mono o1 HW.out.1.size, OwnB.mono o2 HW.out.1.size, g1, g2, hB2⟩
  clear b1 o1 o2 g1 g2 HW y0 y1 y2 y3 y4 y5
  obtain ⟨⟨y0, y1, y2, y3, y4, y5⟩, _⟩ := HU.out.2.1.six2
  have d1 : ¬ B = B2 := by have := HU.out.2.1.lt; omega
  have d2 : ¬ B + 1 = B2 := by have := HU.out.2.2.1.lt; omega
  have d3 : ¬ B2 = B := fun e => d1 e.symm
  have d4 : ¬ B2 = B + 1 := fun e => d2 e.symm
  go_upto_region 2 with fail
  obtain ⟨W2, hW2⟩ : ∃ W2, W2 = w1.alloc (.cells (rqc 5 pl nn wa r1 r2 l1 l2 c1 c2) 28) := ⟨_, rfl⟩
  have bW2 : Below w1.heap.size w1 W2 := by rw [hW2]; exact bel_alloc _ _
  have HV : Hid (Below w.heap.size w W2 ∧ Blk W2 B 28 (rqc 5 pl nn wa q1 (some ⟨qb, qo, none⟩) m1 m2 k1 k2) ∧ Blk W2 (B + 1) 28 #[.int .i64 0, .int .i64 0, .int .i64 0, .slice none 0 0, .slice none 0 0, .int .i64 0] ∧ OwnI W2 w.heap.size (.slice r1 l1 c1) ws ∧ OwnB W2 w.heap.size (.slice r2 l2 c2) bs ∧ Blk W2 B2 28 (rqc 5 pl nn wa r1 r2 l1 l2 c1 c2) ∧ l1 = ws.length ∧ l2 = bs.length ∧ w.heap.size ≤ B2) := ⟨bel_next HU.out.1 bW2, HU.out.2.1.below bW2, HU.out.2.2.1.below bW2, HU.out.2.2.2.1.below bW2, HU.out.2.2.2.2.1.below bW2, by rw [hW2, hB2]; exact Blk.new w1 _ _, HU.out.2.2.2.2.2.1, HU.out.2.2.2.2.2.2.1, by rw [hB2]; exact HU.out.1.size⟩
  rw [← hW2, ← hB2]
  clear hW2 hB2 HU bW2 y0 y1 y2 y3 y4 y5
  obtain ⟨⟨y0, y1, y2, y3, y4, y5⟩, _⟩ := HV.out.2.1.six2
  obtain ⟨⟨x0, x1, x2, x3, x4, x5⟩, ⟨f0, f1, f2, f3, f4, f5⟩⟩ := HV.out.2.2.2.2.2.1.six2
  go_upto_region 3 with fail
  obtain ⟨W3, hW3⟩ : ∃ W3, W3 = W2.setCell ⟨B2, 1, none⟩ (.int .i64 (pl + fr + sh)) := ⟨_, rfl⟩
  have HX : Hid (Below w.heap.size w W3 ∧ Blk W3 B 28 (rqc 5 pl nn wa q1 (some ⟨qb, qo, none⟩) m1 m2 k1 k2) ∧ Blk W3 (B + 1) 28 #[.int .i64 0, .int .i64 0, .int .i64 0, .slice none 0 0, .slice none 0 0, .int .i64 0] ∧ OwnI W3 w.heap.size (.slice r1 l1 c1) ws ∧ OwnB W3 w.heap.size (.slice r2 l2 c2) bs ∧ Blk W3 B2 28 (rqc 5 (pl + fr + sh) nn wa r1 r2 l1 l2 c1 c2) ∧ l1 = ws.length ∧ l2 = bs.length ∧ w.heap.size ≤ B2 ∧ w.heap.size ≤ W3.heap.size) := by
    have hb : Below w.heap.size w W3 := by rw [hW3]; exact HV.out.1.setCell (p := ⟨B2, 1, none⟩) HV.out.2.2.2.2.2.2.2.2 _
    refine ⟨hb, by rw [hW3]; exact HV.out.2.1.setNe d1, by rw [hW3]; exact HV.out.2.2.1.setNe d2, by rw [hW3]; exact row_setE HV.out.2.2.2.1 ⟨_, HV.out.2.2.2.2.2.1⟩ (by decide), by rw [hW3]; exact row_setE HV.out.2.2.2.2.1 ⟨_, HV.out.2.2.2.2.2.1⟩ (by decide), ?_, HV.out.2.2.2.2.2.2.1, HV.out.2.2.2.2.2.2.2.1, HV.out.2.2.2.2.2.2.2.2, hb.size⟩
    rw [hW3]; have h9 := HV.out.2.2.2.2.2.1.set 1 (.int .i64 (pl + fr + sh)); simpa using h9
  rw [← hW3]
  clear hW3 HV x0 x1 x2 x3 x4 x5 f0 f1 f2 f3 f4 f5 y0 y1 y2 y3 y4 y5
  obtain ⟨⟨y0, y1, y2, y3, y4, y5⟩, _⟩ := (HX.out.2.1.below (bel_alloc W3 (.cells #[] 4))).six2
  obtain ⟨⟨x0, x1, x2, x3, x4, x5⟩, _⟩ := HX.out.2.1.six2
  go_upto_region 15 with (at_builtin; refine wpList_appBO rfl (.tmp 24) (.tmp 31) rfl w.heap.size (.slice (some ⟨W3.heap.size, 0, none⟩) 0 0) [] rfl (newB W3 w.heap.size HX.out.2.2.2.2.2.2.2.2.2) (some ⟨qb, qo + fr, none⟩) (fr + N - fr) (k2 - fr) ((bs.drop fr).take N) rfl (by have := HG.out.1; omega) (HG.out.2.1.below (bel_next HX.out.1 (bel_alloc _ _))) (by have := HG.out.2.2; simp only [List.length_nil]; omega) (by have := HX.out.2.2.2.2.2.2.2.2.2; simp; omega) ?_; intro v2 w2 O2 g2'; have g2 : (W3.alloc (.cells #[] 4)).grownBy w2 (some W3.heap.size) := g2'; clear g2'; have HU : Hid (OwnB w2 w.heap.size v2 ((bs.drop fr).take N) ∧ Below w.heap.size w w2 ∧ Blk w2 B2 28 (rqc 5 (pl + fr + sh) nn wa r1 r2 l1 l2 c1 c2) ∧ Blk w2 (B + 1) 28 #[.int .i64 0, .int .i64 0, .int .i64 0, .slice none 0 0, .slice none 0 0, .int .i64 0] ∧ OwnI w2 w.heap.size (.slice r1 l1 c1) ws ∧ l1 = ws.length ∧ l2 = bs.length ∧ w.heap.size ≤ B2) := ⟨by simpa using O2, grown_below2 (bel_next HX.out.1 (bel_alloc _ _)) g2 HX.out.2.2.2.2.2.2.2.2.2 (by have := HX.out.2.2.2.2.2.2.2.2.2; simp; omega), (HX.out.2.2.2.2.2.1.below (bel_alloc _ _)).grown g2 (by have := HX.out.2.2.2.2.2.1.lt; intro e9; have := Option.some.inj e9; omega), (HX.out.2.2.1.below (bel_alloc _ _)).grown g2 (by have := HX.out.2.2.1.lt; intro e9; have := Option.some.inj e9; omega), (OwnI.below HX.out.2.2.2.1 (bel_alloc _ _)).kept g2 (.inr (by intro e9; have := (World.ownsRow.lt HX.out.2.2.2.1 _ e9).2; simp at this)), HX.out.2.2.2.2.2.2.1, HX.out.2.2.2.2.2.2.2.1, HX.out.2.2.2.2.2.2.2.2.1⟩; clear O2 g2; obtain ⟨n0a, n0c, n0, hv2, hn2⟩ := ownB_shape HU.out.1; subst hv2; have HN2 : Hid (n0 = ((bs.drop fr).take N).length) := hn2; clear hn2; obtain ⟨⟨u0, u1, u2, u3, u4, u5⟩, ⟨f0, f1, f2, f3, f4, f5⟩⟩ := HU.out.2.2.1.six2)
  obtain ⟨W4, hW4⟩ : ∃ W4, W4 = w2.setCell ⟨B2, 4, none⟩ (.slice n0a n0 n0c) := ⟨_, rfl⟩
  have HZ : Hid (OwnB W4 w.heap.size (.slice n0a n0 n0c) ((bs.drop fr).take N) ∧ OwnI W4 w.heap.size (.slice r1 l1 c1) ws ∧ Below w.heap.size w W4 ∧ Blk W4 B2 28 (rqc 5 (pl + fr + sh) nn wa r1 n0a l1 n0 c1 n0c) ∧ Blk W4 (B + 1) 28 #[.int .i64 0, .int .i64 0, .int .i64 0, .slice none 0 0, .slice none 0 0, .int .i64 0] ∧ l1 = ws.length ∧ l2 = bs.length) := by
    have hb : Below w.heap.size w W4 := by rw [hW4]; exact HU.out.2.1.setCell (p := ⟨B2, 4, none⟩) HU.out.2.2.2.2.2.2.2 _
    refine ⟨by rw [hW4]; exact row_setE HU.out.1 ⟨_, HU.out.2.2.1⟩ (by decide), by rw [hW4]; exact row_setE HU.out.2.2.2.2.1 ⟨_, HU.out.2.2.1⟩ (by decide), hb, ?_, by rw [hW4]; exact HU.out.2.2.2.1.setNe d2, HU.out.2.2.2.2.2.1, HU.out.2.2.2.2.2.2.1⟩
    rw [hW4]; have h9 := HU.out.2.2.1.set 4 (.slice n0a n0 n0c); simpa using h9
  rw [← hW4]
  clear hW4 HU HX u0 u1 u2 u3 u4 u5 f0 f1 f2 f3 f4 f5 y0 y1 y2 y3 y4 y5 x0 x1 x2 x3 x4 x5
  obtain ⟨⟨x0, x1, x2, x3, x4, x5⟩, _⟩ := HZ.out.2.2.2.1.six2
  obtain ⟨⟨z0, z1, z2, z3, z4, z5⟩, ⟨g0, g1, g2, g3, g4, g5⟩⟩ := HZ.out.2.2.2.2.1.six2
  have HY : Hid (OwnB (setL W4 (B + 1) 0 (rqc 5 (pl + fr + sh) nn wa r1 n0a l1 n0 c1 n0c).toList) w.heap.size (.slice n0a n0 n0c) ((bs.drop fr).take N) ∧ OwnI (setL W4 (B + 1) 0 (rqc 5 (pl + fr + sh) nn wa r1 n0a l1 n0 c1 n0c).toList) w.heap.size (.slice r1 l1 c1) ws ∧ Below w.heap.size w (setL W4 (B + 1) 0 (rqc 5 (pl + fr + sh) nn wa r1 n0a l1 n0 c1 n0c).toList)) := ⟨row_setL HZ.out.1 ⟨_, HZ.out.2.2.2.2.1⟩ (by decide), row_setL HZ.out.2.1 ⟨_, HZ.out.2.2.2.2.1⟩ (by decide), setL_below (by have := HS.out.2.2.2.2; omega) _ _ _ HZ.out.2.2.1⟩
  have HL : Hid (l1 = ws.length ∧ l2 = bs.length) := HZ.out.2.2.2.2.2
  clear HZ
  go_wp2
  refine bodyPost_ret (v := .agg (rqc 5 (pl + fr + sh) nn wa r1 n0a l1 n0 c1 n0c)) (by simp [results, Try.results42, go_sem, x0, x1, x2, x3, x4, x5, z0, z1, z2, z3, z4, z5, d1, d2, d3, d4]) rfl ⟨r1, n0a, l1, n0, c1, n0c, rfl, HL.out.1, HN2.out, HY.out.2.1, HY.out.1, HY.out.2.2⟩

set_option maxRecDepth 20000 in
set_option maxHeartbeats 1000000 in
theorem piece_15 (pl nn wa sh : Int) (fr N : Nat) (q1 q2 : Option Addr) (m1 m2 k1 k2 : Nat) (ws : List Int) (bs : List Bool) (w : World) (h1 : m1 = ws.length) (h2 : m2 = bs.length) (s1 : SlI w q1 ws) (s2 : SlB w q2 bs) (hl1 : ws.length ≤ 2000000) (hl2 : bs.length ≤ 2000000) (hp : 0 ≤ pl ∧ pl ≤ 65535) (hf : fr ≤ 65536) (hN : N ≤ 65536) (hsh : -65535 ≤ sh ∧ sh ≤ 65535) (hin : fr + N ≤ bs.length) (hpos : 0 < N) (hk2 : m2 ≤ k2) :
    Calls Try.prog 42 #[.agg (rqc 15 pl nn wa q1 q2 m1 m2 k1 k2), .int .i64 (fr : Int), .int .i64 (N : Int), .int .i64 sh] w fun e w' => ReqPost w w' e 15 (pl + fr + sh) nn wa ws ((bs.drop fr).take N) := by
  obtain ⟨qb, qo, rfl⟩ := slB_some s2 (by omega)
  obtain ⟨B, hB⟩ : ∃ B, B = w.heap.size := ⟨_, rfl⟩
  obtain ⟨W, hW⟩ : ∃ W, W = (w.alloc (.cells (rqc 15 pl nn wa q1 (some ⟨qb, qo, none⟩) m1 m2 k1 k2) 28)).alloc (.cells #[.int .i64 0, .int .i64 0, .int .i64 0, .slice none 0 0, .slice none 0 0, .int .i64 0] 28) := ⟨_, rfl⟩
  have bW : Below w.heap.size w W := by rw [hW]; exact bel_next (bel_alloc _ _) (bel_alloc _ _)
  have HW : Hid (Below w.heap.size w W ∧ Blk W B 28 (rqc 15 pl nn wa q1 (some ⟨qb, qo, none⟩) m1 m2 k1 k2) ∧ Blk W (B + 1) 28 #[.int .i64 0, .int .i64 0, .int .i64 0, .slice none 0 0, .slice none 0 0, .int .i64 0] ∧ w.heap.size ≤ W.heap.size) := ⟨bW, by rw [hW, hB]; exact (Blk.new w _ _).below (bel_alloc _ _), by rw [hW, hB]; have := Blk.new (w.alloc (.cells (rqc 15 pl nn wa q1 (some ⟨qb, qo, none⟩) m1 m2 k1 k2) 28)) #[.int .i64 0, .int .i64 0, .int .i64 0, .slice none 0 0, .slice none 0 0, .int .i64 0] 28; simpa using this, bW.size⟩
  have HS : Hid (m1 = ws.length ∧ m2 = bs.length ∧ SlI w q1 ws ∧ SlB w (some ⟨qb, qo, none⟩) bs ∧ w.heap.size = B) := ⟨h1, h2, s1, s2, hB.symm⟩
  have e1 : IntKind.i64.wrap (pl + (fr : Int)) = pl + fr := by rw [IntKind.wrap_i64]; omega
  have e2 : IntKind.i64.wrap (pl + (fr : Int) + sh) = pl + fr + sh := by rw [IntKind.wrap_i64]; omega
  have hck : ¬ k2 = fr := by omega
  have i0 : (fr : Int) ≤ (fr : Int) + (N : Int) := by omega
  have i1 : (fr : Int) + (N : Int) ≤ (m2 : Int) := by omega
  have i2 : (fr : Int) + (N : Int) ≤ (k2 : Int) := by omega
  have i3' : (0 : Int) ≤ (fr : Int) := by omega
  have i4 : (0 : Int) ≤ (fr : Int) + (N : Int) := by omega
  have i5 : IntKind.i64.wrap ((fr : Int) + (N : Int)) = (fr : Int) + (N : Int) := by rw [IntKind.wrap_i64]; omega
  have i6 : (fr : Int) ≤ (k2 : Int) := by omega
  have HG : Hid (N = ((bs.drop fr).take N).length ∧ SlB w (some ⟨qb, qo + fr, none⟩) ((bs.drop fr).take N) ∧ ((bs.drop fr).take N).length ≤ 2000000) := ⟨by simp; omega, slB_off s2 hin, by simp; omega⟩
  clear hin
  clear bW h1 h2 s1 s2 hp hsh
  go_enter Try.func42, Try.ntmps42
  go_upto_region 1 with fail
  rw [← hW, ← hB]
  clear hW hB
  obtain ⟨⟨y0, y1, y2, y3, y4, y5⟩, _⟩ := HW.out.2.1.six2
  go_wp2_with fail
  refine (copyReq_any 15 pl nn wa q1 (some ⟨qb, qo, none⟩) m1 m2 k1 k2 ws bs _ HS.out.1 HS.out.2.1 (HS.out.2.2.1.below HW.out.1) (HS.out.2.2.2.1.below HW.out.1) hl1 hl2).mono ?_
  rintro e w1 ⟨r1, r2, l1, l2, c1, c2, rfl, g1, g2, o1, o2, b1⟩
  obtain ⟨B2, hB2⟩ : ∃ B2, B2 = w1.heap.size := ⟨_, rfl⟩
  have HU : Hid (Below w.heap.size w w1 ∧ Blk w1 B 28 (rqc 15 pl nn wa q1 (some ⟨qb, qo, none⟩) m1 m2 k1 k2) ∧ Blk w1 (B + 1) 28 #[.int .i64 0, .int .i64 0, .int .i64 0, .slice none 0 0, .slice none 0 0, .int .i64 0] ∧ OwnI w1 w.heap.size (.slice r1 l1 c1) ws ∧ OwnB w1 w.heap.size (.slice r2 l2 c2) bs ∧ l1 = ws.length ∧ l2 = bs.length ∧ B2 = w1.heap.size) := ⟨bel_next HW.out.1 b1, HW.out.2.1.below b1, HW.out.2.2.1.below b1, OwnI.mono o1 HW.out.1.size, OwnB.mono o2 HW.out.1.size, g1, g2, hB2⟩
  clear b1 o1 o2 g1 g2 HW y0 y1 y2 y3 y4 y5
  obtain ⟨⟨y0, y1, y2, y3, y4, y5⟩, _⟩ := HU.out.2.1.six2
  have d1 : ¬ B = B2 := by have := HU.out.2.1.lt; omega
  have d2 : ¬ B + 1 = B2 := by have := HU.out.2.2.1.lt; omega
  have d3 : ¬ B2 = B := fun e => d1 e.symm
  have d4 : ¬ B2 = B + 1 := fun e => d2 e.symm
  go_upto_region 2 with fail
  obtain ⟨W2, hW2⟩ : ∃ W2, W2 = w1.alloc (.cells (rqc 15 pl nn wa r1 r2 l1 l2 c1 c2) 28) := ⟨_, rfl⟩
  have bW2 : Below w1.heap.size w1 W2 := by rw [hW2]; exact bel_alloc _ _
  have HV : Hid (Below w.heap.size w W2 ∧ Blk W2 B 28 (rqc 15 pl nn wa q1 (some ⟨qb, qo, none⟩) m1 m2 k1 k2) ∧ Blk W2 (B + 1) 28 #[.int .i64 0, .int .i64 0, .int .i64 0, .slice none 0 0, .slice none 0 0, .int .i64 0] ∧ OwnI W2 w.heap.size (.slice r1 l1 c1) ws ∧ OwnB W2 w.heap.size (.slice r2 l2 c2) bs ∧ Blk W2 B2 28 (rqc 15 pl nn wa r1 r2 l1 l2 c1 c2) ∧ l1 = ws.length ∧ l2 = bs.length ∧ w.heap.size ≤ B2) := ⟨bel_next HU.out.1 bW2, HU.out.2.1.below bW2, HU.out.2.2.1.below bW2, HU.out.2.2.2.1.below bW2, HU.out.2.2.2.2.1.below bW2, by rw [hW2, hB2]; exact Blk.new w1 _ _, HU.out.2.2.2.2.2.1, HU.out.2.2.2.2.2.2.1, by rw [hB2]; exact HU.out.1.size⟩
  rw [← hW2, ← hB2]
  clear hW2 hB2 HU bW2 y0 y1 y2 y3 y4 y5
  obtain ⟨⟨y0, y1, y2, y3, y4, y5⟩, _⟩ := HV.out.2.1.six2
  obtain ⟨⟨x0, x1, x2, x3, x4, x5⟩, ⟨f0, f1, f2, f3, f4, f5⟩⟩ := HV.out.2.2.2.2.2.1.six2
  go_upto_region 3 with fail
  obtain ⟨W3, hW3⟩ : ∃ W3, W3 = W2.setCell ⟨B2, 1, none⟩ (.int .i64 (pl + fr + sh)) := ⟨_, rfl⟩
  have HX : Hid (Below w.heap.size w W3 ∧ Blk W3 B 28 (rqc 15 pl nn wa q1 (some ⟨qb, qo, none⟩) m1 m2 k1 k2) ∧ Blk W3 (B + 1) 28 #[.int .i64 0, .int .i64 0, .int .i64 0, .slice none 0 0, .slice none 0 0, .int .i64 0] ∧ OwnI W3 w.heap.size (.slice r1 l1 c1) ws ∧ OwnB W3 w.heap.size (.slice r2 l2 c2) bs ∧ Blk W3 B2 28 (rqc 15 (pl + fr + sh) nn wa r1 r2 l1 l2 c1 c2) ∧ l1 = ws.length ∧ l2 = bs.length ∧ w.heap.size ≤ B2 ∧ w.heap.size ≤ W3.heap.size) := by
    have hb : Below w.heap.size w W3 := by rw [hW3]; exact HV.out.1.setCell (p := ⟨B2, 1, none⟩) HV.out.2.2.2.2.2.2.2.2 _
    refine ⟨hb, by rw [hW3]; exact HV.out.2.1.setNe d1, by rw [hW3]; exact HV.out.2.2.1.setNe d2, by rw [hW3]; exact row_setE HV.out.2.2.2.1 ⟨_, HV.out.2.2.2.2.2.1⟩ (by decide), by rw [hW3]; exact row_setE HV.out.2.2.2.2.1 ⟨_, HV.out.2.2.2.2.2.1⟩ (by decide), ?_, HV.out.2.2.2.2.2.2.1, HV.out.2.2.2.2.2.2.2.1, HV.out.2.2.2.2.2.2.2.2, hb.size⟩
    rw [hW3]; have h9 := HV.out.2.2.2.2.2.1.set 1 (.int .i64 (pl + fr + sh)); simpa using h9
  rw [← hW3]
  clear hW3 HV x0 x1 x2 x3 x4 x5 f0 f1 f2 f3 f4 f5 y0 y1 y2 y3 y4 y5
  obtain ⟨⟨y0, y1, y2, y3, y4, y5⟩, _⟩ := (HX.out.2.1.below (bel_alloc W3 (.cells #[] 4))).six2
  obtain ⟨⟨x0, x1, x2, x3, x4, x5⟩, _⟩ := HX.out.2.1.six2
  go_upto_region 15 with (at_builtin; refine wpList_appBO rfl (.tmp 24) (.tmp 31) rfl w.heap.size (.slice (some ⟨W3.heap.size, 0, none⟩) 0 0) [] rfl (newB W3 w.heap.size HX.out.2.2.2.2.2.2.2.2.2) (some ⟨qb, qo + fr, none⟩) (fr + N - fr) (k2 - fr) ((bs.drop fr).take N) rfl (by have := HG.out.1; omega) (HG.out.2.1.below (bel_next HX.out.1 (bel_alloc _ _))) (by have := HG.out.2.2; simp only [List.length_nil]; omega) (by have := HX.out.2.2.2.2.2.2.2.2.2; simp; omega) ?_; intro v2 w2 O2 g2'; have g2 : (W3.alloc (.cells #[] 4)).grownBy w2 (some W3.heap.size) := g2'; clear g2'; have HU : Hid (OwnB w2 w.heap.size v2 ((bs.drop fr).take N) ∧ Below w.heap.size w w2 ∧ Blk w2 B2 28 (rqc 15 (pl + fr + sh) nn wa r1 r2 l1 l2 c1 c2) ∧ Blk w2 (B + 1) 28 #[.int .i64 0, .int .i64 0, .int .i64 0, .slice none 0 0, .slice none 0 0, .int .i64 0] ∧ OwnI w2 w.heap.size (.slice r1 l1 c1) ws ∧ l1 = ws.length ∧ l2 = bs.length ∧ w.heap.size ≤ B2) := ⟨by simpa using O2, grown_below2 (bel_next HX.out.1 (bel_alloc _ _)) g2 HX.out.2.2.2.2.2.2.2.2.2 (by have := HX.out.2.2.2.2.2.2.2.2.2; simp; omega), (HX.out.2.2.2.2.2.1.below (bel_alloc _ _)).grown g2 (by have := HX.out.2.2.2.2.2.1.lt; intro e9; have := Option.some.inj e9; omega), (HX.out.2.2.1.below (bel_alloc _ _)).grown g2 (by have := HX.out.2.2.1.lt; intro e9; have := Option.some.inj e9; omega), (OwnI.below HX.out.2.2.2.1 (bel_alloc _ _)).kept g2 (.inr (by intro e9; have := (World.ownsRow.lt HX.out.2.2.2.1 _ e9).2; simp at this)), HX.out.2.2.2.2.2.2.1, HX.out.2.2.2.2.2.2.2.1, HX.out.2.2.2.2.2.2.2.2.1⟩; clear O2 g2; obtain ⟨n0a, n0c, n0, hv2, hn2⟩ := ownB_shape HU.out.1; subst hv2; have HN2 : Hid (n0 = ((bs.drop fr).take N).length) := hn2; clear hn2; obtain ⟨⟨u0, u1, u2, u3, u4, u5⟩, ⟨f0, f1, f2, f3, f4, f5⟩⟩ := HU.out.2.2.1.six2)
  obtain ⟨W4, hW4⟩ : ∃ W4, W4 = w2.setCell ⟨B2, 4, none⟩ (.slice n0a n0 n0c) := ⟨_, rfl⟩
  have HZ : Hid (OwnB W4 w.heap.size (.slice n0a n0 n0c) ((bs.drop fr).take N) ∧ OwnI W4 w.heap.size (.slice r1 l1 c1) ws ∧ Below w.heap.size w W4 ∧ Blk W4 B2 28 (rqc 15 (pl + fr + sh) nn wa r1 n0a l1 n0 c1 n0c) ∧ Blk W4 (B + 1) 28 #[.int .i64 0, .int .i64 0, .int .i64 0, .slice none 0 0, .slice none 0 0, .int .i64 0] ∧ l1 = ws.length ∧ l2 = bs.length) := by
    have hb : Below w.heap.size w W4 := by rw [hW4]; exact HU.out.2.1.setCell (p := ⟨B2, 4, none⟩) HU.out.2.2.2.2.2.2.2 _
    refine ⟨by rw [hW4]; exact row_setE HU.out.1 ⟨_, HU.out.2.2.1⟩ (by decide), by rw [hW4]; exact row_setE HU.out.2.2.2.2.1 ⟨_, HU.out.2.2.1⟩ (by decide), hb, ?_, by rw [hW4]; exact HU.out.2.2.2.1.setNe d2, HU.out.2.2.2.2.2.1, HU.out.2.2.2.2.2.2.1⟩
    rw [hW4]; have h9 := HU.out.2.2.1.set 4 (.slice n0a n0 n0c); simpa using h9
  rw [← hW4]
  clear hW4 HU HX u0 u1 u2 u3 u4 u5 f0 f1 f2 f3 f4 f5 y0 y1 y2 y3 y4 y5 x0 x1 x2 x3 x4 x5
  obtain ⟨⟨x0, x1, x2, x3, x4, x5⟩, _⟩ := HZ.out.2.2.2.1.six2
  obtain ⟨⟨z0, z1, z2, z3, z4, z5⟩, ⟨g0, g1, g2, g3, g4, g5⟩⟩ := HZ.out.2.2.2.2.1.six2
  have HY : Hid (OwnB (setL W4 (B + 1) 0 (rqc 15 (pl + fr + sh) nn wa r1 n0a l1 n0 c1 n0c).toList) w.heap.size (.slice n0a n0 n0c) ((bs.drop fr).take N) ∧ OwnI (setL W4 (B + 1) 0 (rqc 15 (pl + fr + sh) nn wa r1 n0a l1 n0 c1 n0c).toList) w.heap.size (.slice r1 l1 c1) ws ∧ Below w.heap.size w (setL W4 (B + 1) 0 (rqc 15 (pl + fr + sh) nn wa r1 n0a l1 n0 c1 n0c).toList)) := ⟨row_setL HZ.out.1 ⟨_, HZ.out.2.2.2.2.1⟩ (by decide), row_setL HZ.out.2.1 ⟨_, HZ.out.2.2.2.2.1⟩ (by decide), setL_below (by have := HS.out.2.2.2.2; omega) _ _ _ HZ.out.2.2.1⟩
  have HL : Hid (l1 = ws.length ∧ l2 = bs.length) := HZ.out.2.2.2.2.2
  clear HZ
  go_wp2
  refine bodyPost_ret (v := .agg (rqc 15 (pl + fr + sh) nn wa r1 n0a l1 n0 c1 n0c)) (by simp [results, Try.results42, go_sem, x0, x1, x2, x3, x4, x5, z0, z1, z2, z3, z4, z5, d1, d2, d3, d4]) rfl ⟨r1, n0a, l1, n0, c1, n0c, rfl, HL.out.1, HN2.out, HY.out.2.1, HY.out.1, HY.out.2.2⟩

set_option maxRecDepth 20000 in
set_option maxHeartbeats 1000000 in
theorem piece_6 (pl nn wa sh : Int) (fr N : Nat) (q1 q2 : Option Addr) (m1 m2 k1 k2 : Nat) (ws : List Int) (bs : List Bool) (w : World) (h1 : m1 = ws.length) (h2 : m2 = bs.length) (s1 : SlI w q1 ws) (s2 : SlB w q2 bs) (hl1 : ws.length ≤ 2000000) (hl2 : bs.length ≤ 2000000) (hp : 0 ≤ pl ∧ pl ≤ 65535) (hf : fr ≤ 65536) (hN : N ≤ 65536) (hsh : -65535 ≤ sh ∧ sh ≤ 65535) (hin : fr + N ≤ ws.length) (hpos : 0 < N) (hk1 : m1 ≤ k1) :
    Calls Try.prog 42 #[.agg (rqc 6 pl nn wa q1 q2 m1 m2 k1 k2), .int .i64 (fr : Int), .int .i64 (N : Int), .int .i64 sh] w fun e w' => ReqPost w w' e 6 (pl + fr + sh) nn wa ((ws.drop fr).take N) bs := by
  obtain ⟨qb, qo, rfl⟩ := slI_some s1 (by omega)
  obtain ⟨B, hB⟩ : ∃ B, B = w.heap.size := ⟨_, rfl⟩
  obtain ⟨W, hW⟩ : ∃ W, W = (w.alloc (.cells (rqc 6 pl nn wa (some ⟨qb, qo, none⟩) q2 m1 m2 k1 k2) 28)).alloc (.cells #[.int .i64 0, .int .i64 0, .int .i64 0, .slice none 0 0, .slice none 0 0, .int .i64 0] 28) := ⟨_, rfl⟩
  have bW : Below w.heap.size w W := by rw [hW]; exact bel_next (bel_alloc _ _) (bel_alloc _ _)
  have HW : Hid (Below w.heap.size w W ∧ Blk W B 28 (rqc 6 pl nn wa (some ⟨qb, qo, none⟩) q2 m1 m2 k1 k2) ∧ Blk W (B + 1) 28 #[.int .i64 0, .int .i64 0, .int .i64 0, .slice none 0 0, .slice none 0 0, .int .i64 0] ∧ w.heap.size ≤ W.heap.size) := ⟨bW, by rw [hW, hB]; exact (Blk.new w _ _).below (bel_alloc _ _), by rw [hW, hB]; have := Blk.new (w.alloc (.cells (rqc 6 pl nn wa (some ⟨qb, qo, none⟩) q2 m1 m2 k1 k2) 28)) #[.int .i64 0, .int .i64 0, .int .i64 0, .slice none 0 0, .slice none 0 0, .int .i64 0] 28; simpa using this, bW.size⟩
  have HS : Hid (m1 = ws.length ∧ m2 = bs.length ∧ SlI w (some ⟨qb, qo, none⟩) ws ∧ SlB w q2 bs ∧ w.heap.size = B) := ⟨h1, h2, s1, s2, hB.symm⟩
  have e1 : IntKind.i64.wrap (pl + (fr : Int)) = pl + fr := by rw [IntKind.wrap_i64]; omega
  have e2 : IntKind.i64.wrap (pl + (fr : Int) + sh) = pl + fr + sh := by rw [IntKind.wrap_i64]; omega
  have hck : ¬ k1 = fr := by omega
  have i0 : (fr : Int) ≤ (fr : Int) + (N : Int) := by omega
  have i1 : (fr : Int) + (N : Int) ≤ (m1 : Int) := by omega
  have i2 : (fr : Int) + (N : Int) ≤ (k1 : Int) := by omega
  have i3' : (0 : Int) ≤ (fr : Int) := by omega
  have i4 : (0 : Int) ≤ (fr : Int) + (N : Int) := by omega
  have i5 : IntKind.i64.wrap ((fr : Int) + (N : Int)) = (fr : Int) + (N : Int) := by rw [IntKind.wrap_i64]; omega
  have i6 : (fr : Int) ≤ (k1 : Int) := by omega
  have HG : Hid (N = ((ws.drop fr).take N).length ∧ SlI w (some ⟨qb, qo + fr, none⟩) ((ws.drop fr).take N) ∧ ((ws.drop fr).take N).length ≤ 2000000) := ⟨by simp; omega, slI_off s1 hin, by simp; omega⟩
  clear hin
  clear bW h1 h2 s1 s2 hp hsh
  go_enter Try.func42, Try.ntmps42
  go_upto_region 1 with fail
  rw [← hW, ← hB]
  clear hW hB
  obtain ⟨⟨y0, y1, y2, y3, y4, y5⟩, _⟩ := HW.out.2.1.six2
  go_wp2_with fail
  refine (copyReq_any 6 pl nn wa (some ⟨qb, qo, none⟩) q2 m1 m2 k1 k2 ws bs _ HS.out.1 HS.out.2.1 (HS.out.2.2.1.below HW.out.1) (HS.out.2.2.2.1.below HW.out.1) hl1 hl2).mono ?_
  rintro e w1 ⟨r1, r2, l1, l2, c1, c2, rfl, g1, g2, o1, o2, b1⟩
  obtain ⟨B2, hB2⟩ : ∃ B2, B2 = w1.heap.size := ⟨_, rfl⟩
  have HU : Hid (Below w.heap.size w w1 ∧ Blk w1 B 28 (rqc 6 pl nn wa (some ⟨qb, qo, none⟩) q2 m1 m2 k1 k2) ∧ Blk w1 (B + 1) 28 #[.int .i64 0, .int .i64 0, .int .i64 0, .slice none 0 0, .slice none 0 0, .int .i64 0] ∧ OwnI w1 w.heap.size (.slice r1 l1 c1) ws ∧ OwnB w1 w.heap.size (.slice r2 l2 c2) bs ∧ l1 = ws.length ∧ l2 = bs.length ∧ B2 = w1.heap.size) := ⟨bel_next HW.out.1 b1, HW.out.2.1.below b1, HW.out.2.2.1.below b1, OwnI.mono o1 HW.out.1.size, OwnB.mono o2 HW.out.1.size, g1, g2, hB2⟩
  clear b1 o1 o2 g1 g2 HW y0 y1 y2 y3 y4 y5
  obtain ⟨⟨y0, y1, y2, y3, y4, y5⟩, _⟩ := HU.out.2.1.six2
  have d1 : ¬ B = B2 := by have := HU.out.2.1.lt; omega
  have d2 : ¬ B + 1 = B2 := by have := HU.out.2.2.1.lt; omega
  have d3 : ¬ B2 = B := fun e => d1 e.symm
  have d4 : ¬ B2 = B + 1 := fun e => d2 e.symm
  go_upto_region 2 with fail
  obtain ⟨W2, hW2⟩ : ∃ W2, W2 = w1.alloc (.cells (rqc 6 pl nn wa r1 r2 l1 l2 c1 c2) 28) := ⟨_, rfl⟩
  have bW2 : Below w1.heap.size w1 W2 := by rw [hW2]; exact bel_alloc _ _
  have HV : Hid (Below w.heap.size w W2 ∧ Blk W2 B 28 (rqc 6 pl nn wa (some ⟨qb, qo, none⟩) q2 m1 m2 k1 k2) ∧ Blk W2 (B + 1) 28 #[.int .i64 0, .int .i64 0, .int .i64 0, .slice none 0 0, .slice none 0 0, .int .i64 0] ∧ OwnI W2 w.heap.size (.slice r1 l1 c1) ws ∧ OwnB W2 w.heap.size (.slice r2 l2 c2) bs ∧ Blk W2 B2 28 (rqc 6 pl nn wa r1 r2 l1 l2 c1 c2) ∧ l1 = ws.length ∧ l2 = bs.length ∧ w.heap.size ≤ B2) := ⟨bel_next HU.out.1 bW2, HU.out.2.1.below bW2, HU.out.2.2.1.below bW2, HU.out.2.2.2.1.below bW2, HU.out.2.2.2.2.1.below bW2, by rw [hW2, hB2]; exact Blk.new w1 _ _, HU.out.2.2.2.2.2.1, HU.out.2.2.2.2.2.2.1, by rw [hB2]; exact HU.out.1.size⟩
  rw [← hW2, ← hB2]
  clear hW2 hB2 HU bW2 y0 y1 y2 y3 y4 y5
  obtain ⟨⟨y0, y1, y2, y3, y4, y5⟩, _⟩ := HV.out.2.1.six2
  obtain ⟨⟨x0, x1, x2, x3, x4, x5⟩, ⟨f0, f1, f2, f3, f4, f5⟩⟩ := HV.out.2.2.2.2.2.1.six2
  go_upto_region 3 with fail
  obtain ⟨W3, hW3⟩ : ∃ W3, W3 = W2.setCell ⟨B2, 1, none⟩ (.int .i64 (pl + fr + sh)) := ⟨_, rfl⟩
  have HX : Hid (Below w.heap.size w W3 ∧ Blk W3 B 28 (rqc 6 pl nn wa (some ⟨qb, qo, none⟩) q2 m1 m2 k1 k2) ∧ Blk W3 (B + 1) 28 #[.int .i64 0, .int .i64 0, .int .i64 0, .slice none 0 0, .slice none 0 0, .int .i64 0] ∧ OwnI W3 w.heap.size (.slice r1 l1 c1) ws ∧ OwnB W3 w.heap.size (.slice r2 l2 c2) bs ∧ Blk W3 B2 28 (rqc 6 (pl + fr + sh) nn wa r1 r2 l1 l2 c1 c2) ∧ l1 = ws.length ∧ l2 = bs.length ∧ w.heap.size ≤ B2 ∧ w.heap.size ≤ W3.heap.size) := by
    have hb : Below w.heap.size w W3 := by rw [hW3]; exact HV.out.1.setCell (p := ⟨B2, 1, none⟩) HV.out.2.2.2.2.2.2.2.2 _
    refine ⟨hb, by rw [hW3]; exact HV.out.2.1.setNe d1, by rw [hW3]; exact HV.out.2.2.1.setNe d2, by rw [hW3]; exact row_setE HV.out.2.2.2.1 ⟨_, HV.out.2.2.2.2.2.1⟩ (by decide), by rw [hW3]; exact row_setE HV.out.2.2.2.2.1 ⟨_, HV.out.2.2.2.2.2.1⟩ (by decide), ?_, HV.out.2.2.2.2.2.2.1, HV.out.2.2.2.2.2.2.2.1, HV.out.2.2.2.2.2.2.2.2, hb.size⟩
    rw [hW3]; have h9 := HV.out.2.2.2.2.2.1.set 1 (.int .i64 (pl + fr + sh)); simpa using h9
  rw [← hW3]
  clear hW3 HV x0 x1 x2 x3 x4 x5 f0 f1 f2 f3 f4 f5 y0 y1 y2 y3 y4 y5
  obtain ⟨⟨y0, y1, y2, y3, y4, y5⟩, _⟩ := (HX.out.2.1.below (bel_alloc W3 (.cells #[] 3))).six2
  obtain ⟨⟨x0, x1, x2, x3, x4, x5⟩, _⟩ := HX.out.2.1.six2
  go_upto_region 15 with (at_builtin; refine wpList_appIO rfl (.tmp 37) (.tmp 44) rfl w.heap.size (.slice (some ⟨W3.heap.size, 0, none⟩) 0 0) [] rfl (newI W3 w.heap.size HX.out.2.2.2.2.2.2.2.2.2) (some ⟨qb, qo + fr, none⟩) (fr + N - fr) (k1 - fr) ((ws.drop fr).take N) rfl (by have := HG.out.1; omega) (HG.out.2.1.below (bel_next HX.out.1 (bel_alloc _ _))) (by have := HG.out.2.2; simp only [List.length_nil]; omega) (by have := HX.out.2.2.2.2.2.2.2.2.2; simp; omega) ?_; intro v2 w2 O2 g2'; have g2 : (W3.alloc (.cells #[] 3)).grownBy w2 (some W3.heap.size) := g2'; clear g2'; have HU : Hid (OwnI w2 w.heap.size v2 ((ws.drop fr).take N) ∧ Below w.heap.size w w2 ∧ Blk w2 B2 28 (rqc 6 (pl + fr + sh) nn wa r1 r2 l1 l2 c1 c2) ∧ Blk w2 (B + 1) 28 #[.int .i64 0, .int .i64 0, .int .i64 0, .slice none 0 0, .slice none 0 0, .int .i64 0] ∧ OwnB w2 w.heap.size (.slice r2 l2 c2) bs ∧ l1 = ws.length ∧ l2 = bs.length ∧ w.heap.size ≤ B2) := ⟨by simpa using O2, grown_below2 (bel_next HX.out.1 (bel_alloc _ _)) g2 HX.out.2.2.2.2.2.2.2.2.2 (by have := HX.out.2.2.2.2.2.2.2.2.2; simp; omega), (HX.out.2.2.2.2.2.1.below (bel_alloc _ _)).grown g2 (by have := HX.out.2.2.2.2.2.1.lt; intro e9; have := Option.some.inj e9; omega), (HX.out.2.2.1.below (bel_alloc _ _)).grown g2 (by have := HX.out.2.2.1.lt; intro e9; have := Option.some.inj e9; omega), (OwnB.below HX.out.2.2.2.2.1 (bel_alloc _ _)).kept g2 (.inr (by intro e9; have := (World.ownsRow.lt HX.out.2.2.2.2.1 _ e9).2; simp at this)), HX.out.2.2.2.2.2.2.1, HX.out.2.2.2.2.2.2.2.1, HX.out.2.2.2.2.2.2.2.2.1⟩; clear O2 g2; obtain ⟨n0a, n0c, n0, hv2, hn2⟩ := ownI_shape2 HU.out.1; subst hv2; have HN2 : Hid (n0 = ((ws.drop fr).take N).length) := hn2; clear hn2; obtain ⟨⟨u0, u1, u2, u3, u4, u5⟩, ⟨f0, f1, f2, f3, f4, f5⟩⟩ := HU.out.2.2.1.six2)
  obtain ⟨W4, hW4⟩ : ∃ W4, W4 = w2.setCell ⟨B2, 3, none⟩ (.slice n0a n0 n0c) := ⟨_, rfl⟩
  have HZ : Hid (OwnI W4 w.heap.size (.slice n0a n0 n0c) ((ws.drop fr).take N) ∧ OwnB W4 w.heap.size (.slice r2 l2 c2) bs ∧ Below w.heap.size w W4 ∧ Blk W4 B2 28 (rqc 6 (pl + fr + sh) nn wa n0a r2 n0 l2 n0c c2) ∧ Blk W4 (B + 1) 28 #[.int .i64 0, .int .i64 0, .int .i64 0, .slice none 0 0, .slice none 0 0, .int .i64 0] ∧ l1 = ws.length ∧ l2 = bs.length) := by
    have hb : Below w.heap.size w W4 := by rw [hW4]; exact HU.out.2.1.setCell (p := ⟨B2, 3, none⟩) HU.out.2.2.2.2.2.2.2 _
    refine ⟨by rw [hW4]; exact row_setE HU.out.1 ⟨_, HU.out.2.2.1⟩ (by decide), by rw [hW4]; exact row_setE HU.out.2.2.2.2.1 ⟨_, HU.out.2.2.1⟩ (by decide), hb, ?_, by rw [hW4]; exact HU.out.2.2.2.1.setNe d2, HU.out.2.2.2.2.2.1, HU.out.2.2.2.2.2.2.1⟩
    rw [hW4]; have h9 := HU.out.2.2.1.set 3 (.slice n0a n0 n0c); simpa using h9
  rw [← hW4]
  clear hW4 HU HX u0 u1 u2 u3 u4 u5 f0 f1 f2 f3 f4 f5 y0 y1 y2 y3 y4 y5 x0 x1 x2 x3 x4 x5
  obtain ⟨⟨x0, x1, x2, x3, x4, x5⟩, _⟩ := HZ.out.2.2.2.1.six2
  obtain ⟨⟨z0, z1, z2, z3, z4, z5⟩, ⟨g0, g1, g2, g3, g4, g5⟩⟩ := HZ.out.2.2.2.2.1.six2
  have HY : Hid (OwnI (setL W4 (B + 1) 0 (rqc 6 (pl + fr + sh) nn wa n0a r2 n0 l2 n0c c2).toList) w.heap.size (.slice n0a n0 n0c) ((ws.drop fr).take N) ∧ OwnB (setL W4 (B + 1) 0 (rqc 6 (pl + fr + sh) nn wa n0a r2 n0 l2 n0c c2).toList) w.heap.size (.slice r2 l2 c2) bs ∧ Below w.heap.size w (setL W4 (B + 1) 0 (rqc 6 (pl + fr + sh) nn wa n0a r2 n0 l2 n0c c2).toList)) := ⟨row_setL HZ.out.1 ⟨_, HZ.out.2.2.2.2.1⟩ (by decide), row_setL HZ.out.2.1 ⟨_, HZ.out.2.2.2.2.1⟩ (by decide), setL_below (by have := HS.out.2.2.2.2; omega) _ _ _ HZ.out.2.2.1⟩
  have HL : Hid (l1 = ws.length ∧ l2 = bs.length) := HZ.out.2.2.2.2.2
  clear HZ
  go_wp2
  refine bodyPost_ret (v := .agg (rqc 6 (pl + fr + sh) nn wa n0a r2 n0 l2 n0c c2)) (by simp [results, Try.results42, go_sem, x0, x1, x2, x3, x4, x5, z0, z1, z2, z3, z4, z5, d1, d2, d3, d4]) rfl ⟨n0a, r2, n0, l2, n0c, c2, rfl, HN2.out, HL.out.2, HY.out.1, HY.out.2.1, HY.out.2.2⟩

set_option maxRecDepth 20000 in
set_option maxHeartbeats 1000000 in
theorem piece_16 (pl nn wa sh : Int) (fr N : Nat) (q1 q2 : Option Addr) (m1 m2 k1 k2 : Nat) (ws : List Int) (bs : List Bool) (w : World) (h1 : m1 = ws.length) (h2 : m2 = bs.length) (s1 : SlI w q1 ws) (s2 : SlB w q2 bs) (hl1 : ws.length ≤ 2000000) (hl2 : bs.length ≤ 2000000) (hp : 0 ≤ pl ∧ pl ≤ 65535) (hf : fr ≤ 65536) (hN : N ≤ 65536) (hsh : -65535 ≤ sh ∧ sh ≤ 65535) (hin : fr + N ≤ ws.length) (hpos : 0 < N) (hk1 : m1 ≤ k1) :
    Calls Try.prog 42 #[.agg (rqc 16 pl nn wa q1 q2 m1 m2 k1 k2), .int .i64 (fr : Int), .int .i64 (N : Int), .int .i64 sh] w fun e w' => ReqPost w w' e 16 (pl + fr + sh) nn wa ((ws.drop fr).take N) bs := by
  obtain ⟨qb, qo, rfl⟩ := slI_some s1 (by omega)
  obtain ⟨B, hB⟩ : ∃ B, B = w.heap.size := ⟨_, rfl⟩
  obtain ⟨W, hW⟩ : ∃ W, W = (w.alloc (.cells (rqc 16 pl nn wa (some ⟨qb, qo, none⟩) q2 m1 m2 k1 k2) 28)).alloc (.cells #[.int .i64 0, .int .i64 0, .int .i64 0, .slice none 0 0, .slice none 0 0, .int .i64 0] 28) := ⟨_, rfl⟩
  have bW : Below w.heap.size w W := by rw [hW]; exact bel_next (bel_alloc _ _) (bel_alloc _ _)
  have HW : Hid (Below w.heap.size w W ∧ Blk W B 28 (rqc 16 pl nn wa (some ⟨qb, qo, none⟩) q2 m1 m2 k1 k2) ∧ Blk W (B + 1) 28 #[.int .i64 0, .int .i64 0, .int .i64 0, .slice none 0 0, .slice none 0 0, .int .i64 0] ∧ w.heap.size ≤ W.heap.size) := ⟨bW, by rw [hW, hB]; exact (Blk.new w _ _).below (bel_alloc _ _), by rw [hW, hB]; have := Blk.new (w.alloc (.cells (rqc 16 pl nn wa (some ⟨qb, qo, none⟩) q2 m1 m2 k1 k2) 28)) #[.int .i64 0, .int .i64 0, .int .i64 0, .slice none 0 0, .slice none 0 0, .int .i64 0] 28; simpa using this, bW.size⟩
  have HS : Hid (m1 = ws.length ∧ m2 = bs.length ∧ SlI w (some ⟨qb, qo, none⟩) ws ∧ SlB w q2 bs ∧ w.heap.size = B) := ⟨h1, h2, s1, s2, hB.symm⟩
  have e1 : IntKind.i64.wrap (pl + (fr : Int)) = pl + fr := by rw [IntKind.wrap_i64]; omega
  have e2 : IntKind.i64.wrap (pl + (fr : Int) + sh) = pl + fr + sh := by rw [IntKind.wrap_i64]; omega
  have hck : ¬ k1 = fr := by omega
  have i0 : (fr : Int) ≤ (fr : Int) + (N : Int) := by omega
  have i1 : (fr : Int) + (N : Int) ≤ (m1 : Int) := by omega
  have i2 : (fr : Int) + (N : Int) ≤ (k1 : Int) := by omega
  have i3' : (0 : Int) ≤ (fr : Int) := by omega
  have i4 : (0 : Int) ≤ (fr : Int) + (N : Int) := by omega
  have i5 : IntKind.i64.wrap ((fr : Int) + (N : Int)) = (fr : Int) + (N : Int) := by rw [IntKind.wrap_i64]; omega
  have i6 : (fr : Int) ≤ (k1 : Int) := by omega
  have HG : Hid (N = ((ws.drop fr).take N).length ∧ SlI w (some ⟨qb, qo + fr, none⟩) ((ws.drop fr).take N) ∧ ((ws.drop fr).take N).length ≤ 2000000) := ⟨by simp; omega, slI_off s1 hin, by simp; omega⟩
  clear hin
  clear bW h1 h2 s1 s2 hp hsh
  go_enter Try.func42, Try.ntmps42
  go_upto_region 1 with fail
  rw [← hW, ← hB]
  clear hW hB
  obtain ⟨⟨y0, y1, y2, y3, y4, y5⟩, _⟩ := HW.out.2.1.six2
  go_wp2_with fail
  refine (copyReq_any 16 pl nn wa (some ⟨qb, qo, none⟩) q2 m1 m2 k1 k2 ws bs _ HS.out.1 HS.out.2.1 (HS.out.2.2.1.below HW.out.1) (HS.out.2.2.2.1.below HW.out.1) hl1 hl2).mono ?_
  rintro e w1 ⟨r1, r2, l1, l2, c1, c2, rfl, g1, g2, o1, o2, b1⟩
  obtain ⟨B2, hB2⟩ : ∃ B2, B2 = w1.heap.size := ⟨_, rfl⟩
  have HU : Hid (Below w.heap.size w w1 ∧ Blk w1 B 28 (rqc 16 pl nn wa (some ⟨qb, qo, none⟩) q2 m1 m2 k1 k2) ∧ Blk w1 (B + 1) 28 #[.int .i64 0, .int .i64 0, .int .i64 0, .slice none 0 0, .slice none 0 0, .int .i64 0] ∧ OwnI w1 w.heap.size (.slice r1 l1 c1) ws ∧ OwnB w1 w.heap.size (.slice r2 l2 c2) bs ∧ l1 = ws.length ∧ l2 = bs.length ∧ B2 = w1.heap.size) := ⟨bel_next HW.out.1 b1, HW.out.2.1.below b1, HW.out.2.2.1.below b1, OwnI.mono o1 HW.out.1.size, OwnB.mono o2 HW.out.1.size, g1, g2, hB2⟩
  clear b1 o1 o2 g1 g2 HW y0 y1 y2 y3 y4 y5
  obtain ⟨⟨y0, y1, y2, y3, y4, y5⟩, _⟩ := HU.out.2.1.six2
  have d1 : ¬ B = B2 := by have := HU.out.2.1.lt; omega
  have d2 : ¬ B + 1 = B2 := by have := HU.out.2.2.1.lt; omega
  have d3 : ¬ B2 = B := fun e => d1 e.symm
  have d4 : ¬ B2 = B + 1 := fun e => d2 e.symm
  go_upto_region 2 with fail
  obtain ⟨W2, hW2⟩ : ∃ W2, W2 = w1.alloc (.cells (rqc 16 pl nn wa r1 r2 l1 l2 c1 c2) 28) := ⟨_, rfl⟩
  have bW2 : Below w1.heap.size w1 W2 := by rw [hW2]; exact bel_alloc _ _
  have HV : Hid (Below w.heap.size w W2 ∧ Blk W2 B 28 (rqc 16 pl nn wa (some ⟨qb, qo, none⟩) q2 m1 m2 k1 k2) ∧ Blk W2 (B + 1) 28 #[.int .i64 0, .int .i64 0, .int .i64 0, .slice none 0 0, .slice none 0 0, .int .i64 0] ∧ OwnI W2 w.heap.size (.slice r1 l1 c1) ws ∧ OwnB W2 w.heap.size (.slice r2 l2 c2) bs ∧ Blk W2 B2 28 (rqc 16 pl nn wa r1 r2 l1 l2 c1 c2) ∧ l1 = ws.length ∧ l2 = bs.length ∧ w.heap.size ≤ B2) := ⟨bel_next HU.out.1 bW2, HU.out.2.1.below bW2, HU.out.2.2.1.below bW2, HU.out.2.2.2.1.below bW2, HU.out.2.2.2.2.1.below bW2, by rw [hW2, hB2]; exact Blk.new w1 _ _, HU.out.2.2.2.2.2.1, HU.out.2.2.2.2.2.2.1, by rw [hB2]; exact HU.out.1.size⟩
  rw [← hW2, ← hB2]
  clear hW2 hB2 HU bW2 y0 y1 y2 y3 y4 y5
  obtain ⟨⟨y0, y1, y2, y3, y4, y5⟩, _⟩ := HV.out.2.1.six2
  obtain ⟨⟨x0, x1, x2, x3, x4, x5⟩, ⟨f0, f1, f2, f3, f4, f5⟩⟩ := HV.out.2.2.2.2.2.1.six2
  go_upto_region 3 with fail
  obtain ⟨W3, hW3⟩ : ∃ W3, W3 = W2.setCell ⟨B2, 1, none⟩ (.int .i64 (pl + fr + sh)) := ⟨_, rfl⟩
  have HX : Hid (Below w.heap.size w W3 ∧ Blk W3 B 28 (rqc 16 pl nn wa (some ⟨qb, qo, none⟩) q2 m1 m2 k1 k2) ∧ Blk W3 (B + 1) 28 #[.int .i64 0, .int .i64 0, .int .i64 0, .slice none 0 0, .slice none 0 0, .int .i64 0] ∧ OwnI W3 w.heap.size (.slice r1 l1 c1) ws ∧ OwnB W3 w.heap.size (.slice r2 l2 c2) bs ∧ Blk W3 B2 28 (rqc 16 (pl + fr + sh) nn wa r1 r2 l1 l2 c1 c2) ∧ l1 = ws.length ∧ l2 = bs.length ∧ w.heap.size ≤ B2 ∧ w.heap.size ≤ W3.heap.size) := by
    have hb : Below w.heap.size w W3 := by rw [hW3]; exact HV.out.1.setCell (p := ⟨B2, 1, none⟩) HV.out.2.2.2.2.2.2.2.2 _
    refine ⟨hb, by rw [hW3]; exact HV.out.2.1.setNe d1, by rw [hW3]; exact HV.out.2.2.1.setNe d2, by rw [hW3]; exact row_setE HV.out.2.2.2.1 ⟨_, HV.out.2.2.2.2.2.1⟩ (by decide), by rw [hW3]; exact row_setE HV.out.2.2.2.2.1 ⟨_, HV.out.2.2.2.2.2.1⟩ (by decide), ?_, HV.out.2.2.2.2.2.2.1, HV.out.2.2.2.2.2.2.2.1, HV.out.2.2.2.2.2.2.2.2, hb.size⟩
    rw [hW3]; have h9 := HV.out.2.2.2.2.2.1.set 1 (.int .i64 (pl + fr + sh)); simpa using h9
  rw [← hW3]
  clear hW3 HV x0 x1 x2 x3 x4 x5 f0 f1 f2 f3 f4 f5 y0 y1 y2 y3 y4 y5
  obtain ⟨⟨y0, y1, y2, y3, y4, y5⟩, _⟩ := (HX.out.2.1.below (bel_alloc W3 (.cells #[] 3))).six2
  obtain ⟨⟨x0, x1, x2, x3, x4, x5⟩, _⟩ := HX.out.2.1.six2
  go_upto_region 15 with (at_builtin; refine wpList_appIO rfl (.tmp 37) (.tmp 44) rfl w.heap.size (.slice (some ⟨W3.heap.size, 0, none⟩) 0 0) [] rfl (newI W3 w.heap.size HX.out.2.2.2.2.2.2.2.2.2) (some ⟨qb, qo + fr, none⟩) (fr + N - fr) (k1 - fr) ((ws.drop fr).take N) rfl (by have := HG.out.1; omega) (HG.out.2.1.below (bel_next HX.out.1 (bel_alloc _ _))) (by have := HG.out.2.2; simp only [List.length_nil]; omega) (by have := HX.out.2.2.2.2.2.2.2.2.2; simp; omega) ?_; intro v2 w2 O2 g2'; have g2 : (W3.alloc (.cells #[] 3)).grownBy w2 (some W3.heap.size) := g2'; clear g2'; have HU : Hid (OwnI w2 w.heap.size v2 ((ws.drop fr).take N) ∧ Below w.heap.size w w2 ∧ Blk w2 B2 28 (rqc 16 (pl + fr + sh) nn wa r1 r2 l1 l2 c1 c2) ∧ Blk w2 (B + 1) 28 #[.int .i64 0, .int .i64 0, .int .i64 0, .slice none 0 0, .slice none 0 0, .int .i64 0] ∧ OwnB w2 w.heap.size (.slice r2 l2 c2) bs ∧ l1 = ws.length ∧ l2 = bs.length ∧ w.heap.size ≤ B2) := ⟨by simpa using O2, grown_below2 (bel_next HX.out.1 (bel_alloc _ _)) g2 HX.out.2.2.2.2.2.2.2.2.2 (by have := HX.out.2.2.2.2.2.2.2.2.2; simp; omega), (HX.out.2.2.2.2.2.1.below (bel_alloc _ _)).grown g2 (by have := HX.out.2.2.2.2.2.1.lt; intro e9; have := Option.some.inj e9; omega), (HX.out.2.2.1.below (bel_alloc _ _)).grown g2 (by have := HX.out.2.2.1.lt; intro e9; have := Option.some.inj e9; omega), (OwnB.below HX.out.2.2.2.2.1 (bel_alloc _ _)).kept g2 (.inr (by intro e9; have := (World.ownsRow.lt HX.out.2.2.2.2.1 _ e9).2; simp at this)), HX.out.2.2.2.2.2.2.1, HX.out.2.2.2.2.2.2.2.1, HX.out.2.2.2.2.2.2.2.2.1⟩; clear O2 g2; obtain ⟨n0a, n0c, n0, hv2, hn2⟩ := ownI_shape2 HU.out.1; subst hv2; have HN2 : Hid (n0 = ((ws.drop fr).take N).length) := hn2; clear hn2; obtain ⟨⟨u0, u1, u2, u3, u4, u5⟩, ⟨f0, f1, f2, f3, f4, f5⟩⟩ := HU.out.2.2.1.six2)
  obtain ⟨W4, hW4⟩ : ∃ W4, W4 = w2.setCell ⟨B2, 3, none⟩ (.slice n0a n0 n0c) := ⟨_, rfl⟩
  have HZ : Hid (OwnI W4 w.heap.size (.slice n0a n0 n0c) ((ws.drop fr).take N) ∧ OwnB W4 w.heap.size (.slice r2 l2 c2) bs ∧ Below w.heap.size w W4 ∧ Blk W4 B2 28 (rqc 16 (pl + fr + sh) nn wa n0a r2 n0 l2 n0c c2) ∧ Blk W4 (B + 1) 28 #[.int .i64 0, .int .i64 0, .int .i64 0, .slice none 0 0, .slice none 0 0, .int .i64 0] ∧ l1 = ws.length ∧ l2 = bs.length) := by
    have hb : Below w.heap.size w W4 := by rw [hW4]; exact HU.out.2.1.setCell (p := ⟨B2, 3, none⟩) HU.out.2.2.2.2.2.2.2 _
    refine ⟨by rw [hW4]; exact row_setE HU.out.1 ⟨_, HU.out.2.2.1⟩ (by decide), by rw [hW4]; exact row_setE HU.out.2.2.2.2.1 ⟨_, HU.out.2.2.1⟩ (by decide), hb, ?_, by rw [hW4]; exact HU.out.2.2.2.1.setNe d2, HU.out.2.2.2.2.2.1, HU.out.2.2.2.2.2.2.1⟩
    rw [hW4]; have h9 := HU.out.2.2.1.set 3 (.slice n0a n0 n0c); simpa using h9
  rw [← hW4]
  clear hW4 HU HX u0 u1 u2 u3 u4 u5 f0 f1 f2 f3 f4 f5 y0 y1 y2 y3 y4 y5 x0 x1 x2 x3 x4 x5
  obtain ⟨⟨x0, x1, x2, x3, x4, x5⟩, _⟩ := HZ.out.2.2.2.1.six2
  obtain ⟨⟨z0, z1, z2, z3, z4, z5⟩, ⟨g0, g1, g2, g3, g4, g5⟩⟩ := HZ.out.2.2.2.2.1.six2
  have HY : Hid (OwnI (setL W4 (B + 1) 0 (rqc 16 (pl + fr + sh) nn wa n0a r2 n0 l2 n0c c2).toList) w.heap.size (.slice n0a n0 n0c) ((ws.drop fr).take N) ∧ OwnB (setL W4 (B + 1) 0 (rqc 16 (pl + fr + sh) nn wa n0a r2 n0 l2 n0c c2).toList) w.heap.size (.slice r2 l2 c2) bs ∧ Below w.heap.size w (setL W4 (B + 1) 0 (rqc 16 (pl + fr + sh) nn wa n0a r2 n0 l2 n0c c2).toList)) := ⟨row_setL HZ.out.1 ⟨_, HZ.out.2.2.2.2.1⟩ (by decide), row_setL HZ.out.2.1 ⟨_, HZ.out.2.2.2.2.1⟩ (by decide), setL_below (by have := HS.out.2.2.2.2; omega) _ _ _ HZ.out.2.2.1⟩
  have HL : Hid (l1 = ws.length ∧ l2 = bs.length) := HZ.out.2.2.2.2.2
  clear HZ
  go_wp2
  refine bodyPost_ret (v := .agg (rqc 16 (pl + fr + sh) nn wa n0a r2 n0 l2 n0c c2)) (by simp [results, Try.results42, go_sem, x0, x1, x2, x3, x4, x5, z0, z1, z2, z3, z4, z5, d1, d2, d3, d4]) rfl ⟨n0a, r2, n0, l2, n0c, c2, rfl, HN2.out, HL.out.2, HY.out.1, HY.out.2.1, HY.out.2.2⟩

set_option maxRecDepth 20000 in
set_option maxHeartbeats 1000000 in
theorem piece_22 (pl nn wa sh : Int) (fr N : Nat) (q1 q2 : Option Addr) (m1 m2 k1 k2 : Nat) (ws : List Int) (bs : List Bool) (w : World) (h1 : m1 = ws.length) (h2 : m2 = bs.length) (s1 : SlI w q1 ws) (s2 : SlB w q2 bs) (hl1 : ws.length ≤ 2000000) (hl2 : bs.length ≤ 2000000) (hp : 0 ≤ pl ∧ pl ≤ 65535) (hf : fr ≤ 65536) (hN : N ≤ 65536) (hsh : -65535 ≤ sh ∧ sh ≤ 65535) :
    Calls Try.prog 42 #[.agg (rqc 22 pl nn wa q1 q2 m1 m2 k1 k2), .int .i64 (fr : Int), .int .i64 (N : Int), .int .i64 sh] w fun e w' => ReqPost w w' e 22 (pl + fr + sh) nn wa ws bs := by
  obtain ⟨B, hB⟩ : ∃ B, B = w.heap.size := ⟨_, rfl⟩
  obtain ⟨W, hW⟩ : ∃ W, W = (w.alloc (.cells (rqc 22 pl nn wa q1 q2 m1 m2 k1 k2) 28)).alloc (.cells #[.int .i64 0, .int .i64 0, .int .i64 0, .slice none 0 0, .slice none 0 0, .int .i64 0] 28) := ⟨_, rfl⟩
  have bW : Below w.heap.size w W := by rw [hW]; exact bel_next (bel_alloc _ _) (bel_alloc _ _)
  have HW : Hid (Below w.heap.size w W ∧ Blk W B 28 (rqc 22 pl nn wa q1 q2 m1 m2 k1 k2) ∧ Blk W (B + 1) 28 #[.int .i64 0, .int .i64 0, .int .i64 0, .slice none 0 0, .slice none 0 0, .int .i64 0] ∧ w.heap.size ≤ W.heap.size) := ⟨bW, by rw [hW, hB]; exact (Blk.new w _ _).below (bel_alloc _ _), by rw [hW, hB]; have := Blk.new (w.alloc (.cells (rqc 22 pl nn wa q1 q2 m1 m2 k1 k2) 28)) #[.int .i64 0, .int .i64 0, .int .i64 0, .slice none 0 0, .slice none 0 0, .int .i64 0] 28; simpa using this, bW.size⟩
  have HS : Hid (m1 = ws.length ∧ m2 = bs.length ∧ SlI w q1 ws ∧ SlB w q2 bs ∧ w.heap.size = B) := ⟨h1, h2, s1, s2, hB.symm⟩
  have e1 : IntKind.i64.wrap (pl + (fr : Int)) = pl + fr := by rw [IntKind.wrap_i64]; omega
  have e2 : IntKind.i64.wrap (pl + (fr : Int) + sh) = pl + fr + sh := by rw [IntKind.wrap_i64]; omega
  clear bW h1 h2 s1 s2 hp hsh
  go_enter Try.func42, Try.ntmps42
  go_upto_region 1 with fail
  rw [← hW, ← hB]
  clear hW hB
  obtain ⟨⟨y0, y1, y2, y3, y4, y5⟩, _⟩ := HW.out.2.1.six2
  go_wp2_with fail
  refine (copyReq_any 22 pl nn wa q1 q2 m1 m2 k1 k2 ws bs _ HS.out.1 HS.out.2.1 (HS.out.2.2.1.below HW.out.1) (HS.out.2.2.2.1.below HW.out.1) hl1 hl2).mono ?_
  rintro e w1 ⟨r1, r2, l1, l2, c1, c2, rfl, g1, g2, o1, o2, b1⟩
  obtain ⟨B2, hB2⟩ : ∃ B2, B2 = w1.heap.size := ⟨_, rfl⟩
  have HU : Hid (Below w.heap.size w w1 ∧ Blk w1 B 28 (rqc 22 pl nn wa q1 q2 m1 m2 k1 k2) ∧ Blk w1 (B + 1) 28 #[.int .i64 0, .int .i64 0, .int .i64 0, .slice none 0 0, .slice none 0 0, .int .i64 0] ∧ OwnI w1 w.heap.size (.slice r1 l1 c1) ws ∧ OwnB w1 w.heap.size (.slice r2 l2 c2) bs ∧ l1 = ws.length ∧ l2 = bs.length ∧ B2 = w1.heap.size) := ⟨bel_next HW.out.1 b1, HW.out.2.1.below b1, HW.out.2.2.1.below b1, OwnI.mono o1 HW.out.1.size, OwnB.mono o2 HW.out.1.size, g1, g2, hB2⟩
  clear b1 o1 o2 g1 g2 HW y0 y1 y2 y3 y4 y5
  obtain ⟨⟨y0, y1, y2, y3, y4, y5⟩, _⟩ := HU.out.2.1.six2
  have d1 : ¬ B = B2 := by have := HU.out.2.1.lt; omega
  have d2 : ¬ B + 1 = B2 := by have := HU.out.2.2.1.lt; omega
  have d3 : ¬ B2 = B := fun e => d1 e.symm
  have d4 : ¬ B2 = B + 1 := fun e => d2 e.symm
  go_upto_region 2 with fail
  obtain ⟨W2, hW2⟩ : ∃ W2, W2 = w1.alloc (.cells (rqc 22 pl nn wa r1 r2 l1 l2 c1 c2) 28) := ⟨_, rfl⟩
  have bW2 : Below w1.heap.size w1 W2 := by rw [hW2]; exact bel_alloc _ _
  have HV : Hid (Below w.heap.size w W2 ∧ Blk W2 B 28 (rqc 22 pl nn wa q1 q2 m1 m2 k1 k2) ∧ Blk W2 (B + 1) 28 #[.int .i64 0, .int .i64 0, .int .i64 0, .slice none 0 0, .slice none 0 0, .int .i64 0] ∧ OwnI W2 w.heap.size (.slice r1 l1 c1) ws ∧ OwnB W2 w.heap.size (.slice r2 l2 c2) bs ∧ Blk W2 B2 28 (rqc 22 pl nn wa r1 r2 l1 l2 c1 c2) ∧ l1 = ws.length ∧ l2 = bs.length ∧ w.heap.size ≤ B2) := ⟨bel_next HU.out.1 bW2, HU.out.2.1.below bW2, HU.out.2.2.1.below bW2, HU.out.2.2.2.1.below bW2, HU.out.2.2.2.2.1.below bW2, by rw [hW2, hB2]; exact Blk.new w1 _ _, HU.out.2.2.2.2.2.1, HU.out.2.2.2.2.2.2.1, by rw [hB2]; exact HU.out.1.size⟩
  rw [← hW2, ← hB2]
  clear hW2 hB2 HU bW2 y0 y1 y2 y3 y4 y5
  obtain ⟨⟨y0, y1, y2, y3, y4, y5⟩, _⟩ := HV.out.2.1.six2
  obtain ⟨⟨x0, x1, x2, x3, x4, x5⟩, ⟨f0, f1, f2, f3, f4, f5⟩⟩ := HV.out.2.2.2.2.2.1.six2
  go_upto_region 3 with fail
  obtain ⟨W3, hW3⟩ : ∃ W3, W3 = W2.setCell ⟨B2, 1, none⟩ (.int .i64 (pl + fr + sh)) := ⟨_, rfl⟩
  have HX : Hid (Below w.heap.size w W3 ∧ Blk W3 B 28 (rqc 22 pl nn wa q1 q2 m1 m2 k1 k2) ∧ Blk W3 (B + 1) 28 #[.int .i64 0, .int .i64 0, .int .i64 0, .slice none 0 0, .slice none 0 0, .int .i64 0] ∧ OwnI W3 w.heap.size (.slice r1 l1 c1) ws ∧ OwnB W3 w.heap.size (.slice r2 l2 c2) bs ∧ Blk W3 B2 28 (rqc 22 (pl + fr + sh) nn wa r1 r2 l1 l2 c1 c2) ∧ l1 = ws.length ∧ l2 = bs.length ∧ w.heap.size ≤ B2 ∧ w.heap.size ≤ W3.heap.size) := by
    have hb : Below w.heap.size w W3 := by rw [hW3]; exact HV.out.1.setCell (p := ⟨B2, 1, none⟩) HV.out.2.2.2.2.2.2.2.2 _
    refine ⟨hb, by rw [hW3]; exact HV.out.2.1.setNe d1, by rw [hW3]; exact HV.out.2.2.1.setNe d2, by rw [hW3]; exact row_setE HV.out.2.2.2.1 ⟨_, HV.out.2.2.2.2.2.1⟩ (by decide), by rw [hW3]; exact row_setE HV.out.2.2.2.2.1 ⟨_, HV.out.2.2.2.2.2.1⟩ (by decide), ?_, HV.out.2.2.2.2.2.2.1, HV.out.2.2.2.2.2.2.2.1, HV.out.2.2.2.2.2.2.2.2, hb.size⟩
    rw [hW3]; have h9 := HV.out.2.2.2.2.2.1.set 1 (.int .i64 (pl + fr + sh)); simpa using h9
  rw [← hW3]
  clear hW3 HV x0 x1 x2 x3 x4 x5 f0 f1 f2 f3 f4 f5 y0 y1 y2 y3 y4 y5
  obtain ⟨⟨y0, y1, y2, y3, y4, y5⟩, _⟩ := HX.out.2.1.six2
  obtain ⟨⟨x0, x1, x2, x3, x4, x5⟩, ⟨f0, f1, f2, f3, f4, f5⟩⟩ := HX.out.2.2.2.2.2.1.six2
  obtain ⟨⟨z0, z1, z2, z3, z4, z5⟩, ⟨g0, g1, g2, g3, g4, g5⟩⟩ := HX.out.2.2.1.six2
  have HY : Hid (OwnI (setL W3 (B + 1) 0 (rqc 22 (pl + fr + sh) nn wa r1 r2 l1 l2 c1 c2).toList) w.heap.size (.slice r1 l1 c1) ws ∧ OwnB (setL W3 (B + 1) 0 (rqc 22 (pl + fr + sh) nn wa r1 r2 l1 l2 c1 c2).toList) w.heap.size (.slice r2 l2 c2) bs ∧ Below w.heap.size w (setL W3 (B + 1) 0 (rqc 22 (pl + fr + sh) nn wa r1 r2 l1 l2 c1 c2).toList) ∧ l1 = ws.length ∧ l2 = bs.length) := ⟨row_setL (HX.out.2.2.2.1) (⟨_, HX.out.2.2.1⟩) (by decide), row_setL (HX.out.2.2.2.2.1) (⟨_, HX.out.2.2.1⟩) (by decide), setL_below (by have := HS.out.2.2.2.2; omega) _ _ _ HX.out.1, HX.out.2.2.2.2.2.2.1, HX.out.2.2.2.2.2.2.2.1⟩
  clear HX
  go_wp2
  refine bodyPost_ret (v := .agg (rqc 22 (pl + fr + sh) nn wa r1 r2 l1 l2 c1 c2)) (by simp [results, Try.results42, go_sem, x0, x1, x2, x3, x4, x5, z0, z1, z2, z3, z4, z5, d1, d2, d3, d4]) rfl ⟨r1, r2, l1, l2, c1, c2, rfl, HY.out.2.2.2.1, HY.out.2.2.2.2, HY.out.1, HY.out.2.1, HY.out.2.2.1⟩

end Go.Proofs.Ytaaokbmfpfmfgaa

namespace Go.Proofs.Ytaaokbmfpfmfgaa
open Go.RowKit Go.Joins

set_option linter.unusedVariables false

set_option linter.unusedSimpArgs false

/-- A piece, as the part of a run. -/
theorem piece_any (kd pl nn wa : Int) (r : Ru) (fr N : Nat) (q1 q2 : Option Addr) (m1 m2 k1 k2 : Nat) (ws : List Int) (bs : List Bool) (w : World) (h1 : m1 = ws.length) (h2 : m2 = bs.length) (s1 : SlI w q1 ws) (s2 : SlB w q2 bs) (hl1 : ws.length ≤ 2000000) (hl2 : bs.length ≤ 2000000) (hk1 : m1 ≤ k1) (hk2 : m2 ≤ k2)
    (hR : okR kd pl nn wa ws m1 m2 = true) (h23 : ¬ kd = 23) (hin : (fr : Int) + N ≤ spcN kd nn m1 m2) (hpos : 0 < N) (hsh : -65535 ≤ r.sh ∧ r.sh ≤ 65535) (ac : Int) (hac : ac = pl + fr) :
    Calls Try.prog 42 #[.agg (rqc kd pl nn wa q1 q2 m1 m2 k1 k2), .int .i64 (fr : Int), .int .i64 (N : Int), .int .i64 r.sh] w fun e w' => ReqPost w w' e kd (pcOf kd pl ws bs ⟨r, ac, N⟩).pl (pcOf kd pl ws bs ⟨r, ac, N⟩).n (pcOf kd pl ws bs ⟨r, ac, N⟩).wa (pcOf kd pl ws bs ⟨r, ac, N⟩).ws (pcOf kd pl ws bs ⟨r, ac, N⟩).bs := by
  subst hac
  obtain ⟨hp, c1, c2, c3, c4, _⟩ := okR_m hR h1 h2
  obtain ⟨hK, c5, c6, c7, c8, c9, c10⟩ := c4 h23
  have efr : (pl + (fr : Int) - pl).toNat = fr := by omega
  have eN : ((N : Int)).toNat = N := by omega
  unfold pcOf pcN pcW pcB
  simp only [efr, eN]
  subst c5
  have hfr : fr ≤ 65536 := by omega
  have hN : N ≤ 65536 := by omega
  have nil1 : m1 = 0 → ws = [] := fun e => List.eq_nil_of_length_eq_zero (by omega)
  have nil2 : m2 = 0 → bs = [] := fun e => List.eq_nil_of_length_eq_zero (by omega)
  have hk := okR_kind hR
  obtain rfl | rfl | rfl | rfl | rfl | rfl | rfl | rfl | rfl | rfl := hk
  · have e1 := nil1 (c7 (by decide)); have e2 := nil2 (c9 (by decide))
    subst e1; subst e2
    simpa using piece_1 pl nn 0 r.sh fr N q1 q2 m1 m2 k1 k2 [] [] w h1 h2 s1 s2 hl1 hl2 hp hfr hN hsh
  · have e1 := nil1 (c7 (by decide)); have e2 := nil2 (c9 (by decide))
    subst e1; subst e2
    simpa using piece_2 pl nn 0 r.sh fr N q1 q2 m1 m2 k1 k2 [] [] w h1 h2 s1 s2 hl1 hl2 hp hfr hN hsh
  · have e1 := nil1 (c7 (by decide)); have e2 := nil2 (c9 (by decide))
    subst e1; subst e2
    simpa using piece_3 pl nn 0 r.sh fr N q1 q2 m1 m2 k1 k2 [] [] w h1 h2 s1 s2 hl1 hl2 hp hfr hN hsh
  · have e1 := nil1 (c7 (by decide)); have e2 := nil2 (c9 (by decide))
    subst e1; subst e2
    simpa using piece_4 pl nn 0 r.sh fr N q1 q2 m1 m2 k1 k2 [] [] w h1 h2 s1 s2 hl1 hl2 hp hfr hN hsh
  · have e1 := nil1 (c7 (by decide)); have e3 := c6 (by decide)
    subst e1; subst e3
    simpa using piece_5 pl 0 0 r.sh fr N q1 q2 m1 m2 k1 k2 [] bs w h1 h2 s1 s2 hl1 hl2 hp hfr hN hsh (by simp [spcN] at hin; omega) hpos hk2
  · have e2 := nil2 (c10 (by decide)); have e3 := c6 (by decide)
    subst e2; subst e3
    have hm1 : m1 = 1 := by unfold okR at hR; simp only [Bool.and_eq_true] at hR; have h9 := hR.2.2; simp [okK, zrB] at h9; omega
    simpa using piece_6 pl 0 0 r.sh fr N q1 q2 m1 m2 k1 k2 ws [] w h1 h2 s1 s2 hl1 hl2 hp hfr hN hsh (by simp [spcN] at hin; omega) hpos hk1
  · have e1 := nil1 (c8 rfl); have e3 := c6 (by decide)
    subst e1; subst e3
    simpa using piece_15 pl 0 0 r.sh fr N q1 q2 m1 m2 k1 k2 [] bs w h1 h2 s1 s2 hl1 hl2 hp hfr hN hsh (by simp [spcN] at hin; omega) hpos hk2
  · have e2 := nil2 (c10 (by decide)); have e3 := c6 (by decide)
    subst e2; subst e3
    simpa using piece_16 pl 0 0 r.sh fr N q1 q2 m1 m2 k1 k2 ws [] w h1 h2 s1 s2 hl1 hl2 hp hfr hN hsh (by simp [spcN] at hin; omega) hpos hk1
  · have e2 := nil2 (c10 (by decide)); have e3 := c6 (by decide)
    subst e2; subst e3
    simpa using piece_22 pl 0 0 r.sh fr N q1 q2 m1 m2 k1 k2 ws [] w h1 h2 s1 s2 hl1 hl2 hp hfr hN hsh
  · exact absurd rfl h23

def bmR (b : Option Pa) : List Pa × Int := match b with | none => ([], 2) | some P => ([P], 0)

set_option maxRecDepth 20000 in
set_option maxHeartbeats 2000000 in
theorem l10Both_any (a : Option Addr) (n cap : Nat) (f : Nat → Ru) (un pl nn wa : Int) (q1 q2 : Option Addr) (m1 m2 k1 k2 : Nat) (ws : List Int) (w : World) (hs : SlU w a n f) (hn : n ≤ 24) (hok : ∀ k, k < n → OkRu (f k))
    (h1 : m1 = ws.length) (h2 : m2 = 0) (s1 : SlI w q1 ws) (hl1 : ws.length ≤ 121) (hp : 0 ≤ pl ∧ pl ≤ 65535) (hnn : 0 ≤ nn ∧ nn ≤ 125) (hwa : 0 ≤ wa ∧ wa ≤ 65535) :
    Calls Try.prog 39 #[.slice a n cap, .int .i64 un, .agg (rqc 23 pl nn wa q1 q2 m1 m2 k1 k2)] w fun e w' => PmPost w w' e (bmR (bothM f n un pl nn wa ws)) := by
  obtain ⟨W0, hW0⟩ : ∃ W0, W0 = w.alloc (.cells (rqc 23 pl nn wa q1 q2 m1 m2 k1 k2) 28) := ⟨_, rfl⟩
  obtain ⟨gQ, hgQ⟩ : ∃ gQ, gQ = w.heap.size := ⟨_, rfl⟩
  have bW0 : Below w.heap.size w W0 := by rw [hW0]; exact bel_alloc _ _
  have HW0 : Hid (SlU W0 a n f ∧ Below w.heap.size w W0 ∧ SlI W0 q1 ws ∧ Blk W0 gQ 28 (rqc 23 pl nn wa q1 q2 m1 m2 k1 k2)) := ⟨SlS.below hs bW0, bW0, s1.below bW0, by rw [hW0, hgQ]; exact Blk.new w _ _⟩
  have HM : Hid (m1 = ws.length ∧ m2 = 0 ∧ ws.length ≤ 121) := ⟨h1, h2, by omega⟩
  have HB : Hid ((0 ≤ pl ∧ pl ≤ 65535) ∧ (0 ≤ nn ∧ nn ≤ 125) ∧ (0 ≤ wa ∧ wa ≤ 65535)) := ⟨hp, hnn, hwa⟩
  have HOK : Hid (∀ k, k < n → OkRu (f k)) := hok
  have HQW : Hid (w.heap.size ≤ gQ) := Nat.le_of_eq hgQ.symm
  have v1 : IntKind.i64.wrap (pl + nn) = pl + nn := by rw [IntKind.wrap_i64]; omega
  have v2 : IntKind.i64.wrap (pl + nn - 1) = pl + nn - 1 := by rw [IntKind.wrap_i64]; omega
  have v3 : IntKind.i64.wrap (wa + (m1 : Int)) = wa + m1 := by rw [IntKind.wrap_i64]; omega
  have v4 : IntKind.i64.wrap (wa + (m1 : Int) - 1) = wa + m1 - 1 := by rw [IntKind.wrap_i64]; omega
  clear hs bW0 s1 h1 h2 hp hnn hwa hok
  go_enter Try.func39, Try.ntmps39
  go_upto_region 1 with fail
  rw [← hW0, ← hgQ]
  clear hW0 hgQ
  have y1 := HW0.out.2.2.2.cell 1 rfl
  go_wp2_with fail
  refine (specRuleAt_any a n cap f un 2 pl _ HW0.out.1 (by omega)).mono ?_
  rintro e w1 ⟨rfl, b1⟩
  have HW : Hid (SlU w1 a n f ∧ Below w.heap.size w w1 ∧ SlI w1 q1 ws) := ⟨SlS.below HW0.out.1 b1, bel_next HW0.out.2.1 b1, HW0.out.2.2.1.below b1⟩
  have HQ : Hid (Blk w1 gQ 28 (rqc 23 pl nn wa q1 q2 m1 m2 k1 k2)) := HW0.out.2.2.2.below b1
  clear HW0 b1 y1
  by_cases hi : atR f n un 2 pl < 0
  · have HNO : Hid (bothM f n un pl nn wa ws = none) := by show _ = _; unfold bothM; rw [if_pos hi]
    have HX : Hid (Below w.heap.size w w1) := HW.out.2.1
    have dt : decide (atR f n un 2 pl < 0) = true := decide_eq_true hi
    clear HW HQ
    go_upto_region 2 with fail
    go_quiet (fail)
    go_wp2
    refine bodyPost_ret (v := .tuple #[.slice (some ⟨w1.heap.size, 0, none⟩) 0 0, .int .i64 2]) (by simp [results, Try.results39, go_sem]) rfl ?_
    rw [HNO.out]
    exact ⟨_, rfl, ownPs_nil _ _ _ _, by first | exact (bel_drewN HX.out _).alloc (by have := HX.out.size; simpa using this) _ | exact HX.out.alloc HX.out.size _⟩
  · obtain ⟨x, hx, hxn, hxh⟩ : ∃ x : Nat, atR f n un 2 pl = (x : Int) ∧ x < n ∧ (f x).lo ≤ pl := by
      rcases atFrom_cases f un 2 pl n 0 with ⟨x, _, g2, g3, g4, _⟩ | ⟨g1, _⟩
      · exact ⟨x, g3, g2, (hasR_true.1 g4).2.2.1⟩
      · exact absurd (by rw [atR, g1]; decide) hi
    have HI : Hid (atR f n un 2 pl = (x : Int) ∧ (f x).lo ≤ pl) := ⟨hx, hxh⟩
    have xi : (x : Int) < (n : Int) := by omega
    have x0 : ¬ (x : Int) < 0 := by omega
    have x1 : decide ((x : Int) < 0) = false := decide_eq_false x0
    obtain ⟨bb, off, rfl, hbb, c0, c1, c2, c3, c4, c5, c6⟩ := SlU.seven HW.out.1 hxn
    have HC : Hid (∀ u, Below w1.heap.size w1 u → u.cell? ⟨bb, off + x * 7, none⟩ = some (.int .i64 (f x).u) ∧ u.cell? ⟨bb, off + x * 7 + 1, none⟩ = some (.int .i64 (f x).s) ∧ u.cell? ⟨bb, off + x * 7 + 2, none⟩ = some (.int .i64 (f x).lo) ∧ u.cell? ⟨bb, off + x * 7 + 3, none⟩ = some (.int .i64 (f x).hi) ∧ u.cell? ⟨bb, off + x * 7 + 4, none⟩ = some (.int .i64 (f x).p) ∧ u.cell? ⟨bb, off + x * 7 + 5, none⟩ = some (.int .i64 (f x).t) ∧ u.cell? ⟨bb, off + x * 7 + 6, none⟩ = some (.int .i64 (f x).sh)) := by
      intro u hu
      obtain ⟨b2, o2, e2, _, h9⟩ := SlU.seven (SlS.below HW.out.1 hu) hxn
      simp only [Option.some.injEq, Addr.mk.injEq] at e2
      obtain ⟨rfl, rfl, _⟩ := e2
      exact h9
    have HBB : Hid (bb < w1.heap.size) := hbb
    have hox := HOK.out x hxn
    have ws1 : IntKind.i64.wrap (pl + (f x).sh) = pl + (f x).sh := by unfold OkRu at hox; have := HB.out; rw [IntKind.wrap_i64]; omega
    have ws2 : IntKind.i64.wrap (wa + (f x).sh) = wa + (f x).sh := by unfold OkRu at hox; have := HB.out; rw [IntKind.wrap_i64]; omega
    rw [hx]
    clear hx hi hox HOK hbb hxh
    obtain ⟨y0, y1, y2, y3, y4, y5⟩ := HQ.out.six
    go_upto_region 2 with fail
    by_cases t1 : (f x).hi < pl + nn - 1
    · have dt1 : decide ((f x).hi < pl + nn - 1) = true := decide_eq_true t1
      have HNO : Hid (bothM f n un pl nn wa ws = none) := by show _ = _; unfold bothM; rw [HI.out.1, if_neg (by omega), Int.toNat_natCast, if_neg (by omega)]
      have HX : Hid (Below w.heap.size w w1) := HW.out.2.1
      clear HW HQ HC
      go_quiet (fail)
      go_wp2
      refine bodyPost_ret (v := .tuple #[.slice (some ⟨w1.heap.size, 0, none⟩) 0 0, .int .i64 2]) (by simp [results, Try.results39, go_sem]) rfl ?_
      rw [HNO.out]
      exact ⟨_, rfl, ownPs_nil _ _ _ _, by first | exact (bel_drewN HX.out _).alloc (by have := HX.out.size; simpa using this) _ | exact HX.out.alloc HX.out.size _⟩
    · have dt1 : decide ((f x).hi < pl + nn - 1) = false := decide_eq_false t1
      by_cases t2 : wa < (f x).lo
      · have dt2 : decide (wa < (f x).lo) = true := decide_eq_true t2
        have HNO : Hid (bothM f n un pl nn wa ws = none) := by show _ = _; unfold bothM; rw [HI.out.1, if_neg (by omega), Int.toNat_natCast, if_neg (by omega)]
        have HX : Hid (Below w.heap.size w w1) := HW.out.2.1
        clear HW HQ HC
        go_quiet (fail)
        go_wp2
        refine bodyPost_ret (v := .tuple #[.slice (some ⟨w1.heap.size, 0, none⟩) 0 0, .int .i64 2]) (by simp [results, Try.results39, go_sem]) rfl ?_
        rw [HNO.out]
        exact ⟨_, rfl, ownPs_nil _ _ _ _, by first | exact (bel_drewN HX.out _).alloc (by have := HX.out.size; simpa using this) _ | exact HX.out.alloc HX.out.size _⟩
      · have dt2 : decide (wa < (f x).lo) = false := decide_eq_false t2
        by_cases t3 : (f x).hi < wa + (m1 : Int) - 1
        · have dt3 : decide ((f x).hi < wa + (m1 : Int) - 1) = true := decide_eq_true t3
          have HNO : Hid (bothM f n un pl nn wa ws = none) := by show _ = _; unfold bothM; have := HM.out.1; rw [HI.out.1, if_neg (by omega), Int.toNat_natCast, if_neg (by omega)]
          have HX : Hid (Below w.heap.size w w1) := HW.out.2.1
          clear HW HQ HC
          go_quiet (fail)
          go_wp2
          refine bodyPost_ret (v := .tuple #[.slice (some ⟨w1.heap.size, 0, none⟩) 0 0, .int .i64 2]) (by simp [results, Try.results39, go_sem]) rfl ?_
          rw [HNO.out]
          exact ⟨_, rfl, ownPs_nil _ _ _ _, by first | exact (bel_drewN HX.out _).alloc (by have := HX.out.size; simpa using this) _ | exact HX.out.alloc HX.out.size _⟩
        · have dt3 : decide ((f x).hi < wa + (m1 : Int) - 1) = false := decide_eq_false t3
          have HYES : Hid (bothM f n un pl nn wa ws = some ⟨(f x).p, (f x).t, 23, pl + (f x).sh, nn, wa + (f x).sh, ws, []⟩) := by show _ = _; unfold bothM; have := HM.out.1; have := HI.out.2; rw [HI.out.1, if_neg (by omega), Int.toNat_natCast, if_pos (by omega)]
          go_quiet (fail)
          clear y0 y1 y2 y3 y4 y5 c0 c1 c2 c3 c4 c5 c6
          obtain ⟨u, hu⟩ : ∃ u, u = w1.drewN nq := ⟨_, rfl⟩
          have bu : Below w1.heap.size w1 u := by rw [hu]; exact bel_drewN (Below.refl _ _) _
          have HX : Hid (Below w.heap.size w u ∧ Blk u gQ 28 (rqc 23 pl nn wa q1 q2 m1 m2 k1 k2) ∧ SlI u q1 ws ∧ Below w1.heap.size w1 u) := ⟨bel_next HW.out.2.1 bu, HQ.out.below bu, HW.out.2.2.below bu, bu⟩
          rw [← hu]
          clear hu bu HW HQ
          obtain ⟨y0, y1, y2, y3, y4, y5⟩ := HX.out.2.1.six
          go_wp2_with fail
          refine (copyReq_any 23 pl nn wa q1 q2 m1 m2 k1 k2 ws [] _ HM.out.1 HM.out.2.1 HX.out.2.2.1 (.inl rfl) (by have := HM.out.2.2; omega) (by simp)).mono ?_
          rintro e w3 ⟨r1, r2, l1, l2, c1', c2', rfl, g1, g2, o1, o2, b3⟩
          obtain ⟨gO, hgO⟩ : ∃ gO, gO = w3.heap.size := ⟨_, rfl⟩
          obtain ⟨W5, hW5⟩ : ∃ W5, W5 = w3.alloc (.cells (rqc 23 pl nn wa r1 r2 l1 l2 c1' c2') 28) := ⟨_, rfl⟩
          have b5 : Below w3.heap.size w3 W5 := by rw [hW5]; exact bel_alloc _ _
          have HW5 : Hid (Below w.heap.size w W5 ∧ Blk W5 gQ 28 (rqc 23 pl nn wa q1 q2 m1 m2 k1 k2) ∧ OwnI W5 w.heap.size (.slice r1 l1 c1') ws ∧ OwnB W5 w.heap.size (.slice r2 l2 c2') [] ∧ Blk W5 gO 28 (rqc 23 pl nn wa r1 r2 l1 l2 c1' c2') ∧ l1 = ws.length ∧ l2 = 0 ∧ Below w1.heap.size w1 W5 ∧ w.heap.size ≤ gO) := ⟨bel_next (bel_next HX.out.1 b3) b5, (HX.out.2.1.below b3).below b5, (OwnI.mono o1 HX.out.1.size).below b5, (OwnB.mono o2 HX.out.1.size).below b5, by rw [hW5, hgO]; exact Blk.new w3 _ _, g1, g2, bel_next (bel_next HX.out.2.2.2 b3) b5, by rw [hgO]; exact (bel_next HX.out.1 b3).size⟩
          have n1 : ¬ gQ = gO := by rw [hgO]; exact Nat.ne_of_lt (HX.out.2.1.below b3).lt
          have n2 : ¬ bb = gO := by rw [hgO]; have := HBB.out; have := (bel_next HX.out.2.2.2 b3).size; omega
          have n3 : ¬ gO = gQ := fun e => n1 e.symm
          have n4 : ¬ gO = bb := fun e => n2 e.symm
          clear g1 g2 o1 o2 b3 b5 y0 y1 y2 y3 y4 y5 HX
          go_upto_region 5 with fail
          rw [← hW5, ← hgO]
          clear hW5 hgO
          obtain ⟨y0, y1, y2, y3, y4, y5⟩ := HW5.out.2.1.six
          obtain ⟨c0, c1, c2, c3, c4, c5, c6⟩ := HC.out W5 HW5.out.2.2.2.2.2.2.2.1
          obtain ⟨⟨z0, z1, z2, z3, z4, z5⟩, ⟨f0, f1, f2, f3, f4, f5⟩⟩ := HW5.out.2.2.2.2.1.six2
          clear c0 c1 c2 c3
          go_region
          obtain ⟨W6, hW6⟩ : ∃ W6, W6 = (W5.setCell ⟨gO, 1, none⟩ (.int .i64 (pl + (f x).sh))).drew := ⟨_, rfl⟩
          have dW6 : Below (W5.setCell ⟨gO, 1, none⟩ (.int .i64 (pl + (f x).sh))).heap.size (W5.setCell ⟨gO, 1, none⟩ (.int .i64 (pl + (f x).sh))) W6 := by rw [hW6]; exact (Below.refl _ _).drew
          have HW6 : Hid (Below w.heap.size w W6 ∧ Blk W6 gQ 28 (rqc 23 pl nn wa q1 q2 m1 m2 k1 k2) ∧ OwnI W6 w.heap.size (.slice r1 l1 c1') ws ∧ OwnB W6 w.heap.size (.slice r2 l2 c2') [] ∧ Blk W6 gO 28 (rqc 23 (pl + (f x).sh) nn wa r1 r2 l1 l2 c1' c2') ∧ l1 = ws.length ∧ l2 = 0 ∧ (∀ o v, W5.cell? ⟨bb, o, none⟩ = some v → W6.cell? ⟨bb, o, none⟩ = some v) ∧ w.heap.size ≤ gO) := by
            have h9 := HW5.out.2.2.2.2.1.set 1 (.int .i64 (pl + (f x).sh))
            refine ⟨by rw [hW6]; exact (HW5.out.1.setCell (p := ⟨gO, 1, none⟩) HW5.out.2.2.2.2.2.2.2.2 _).drew, (HW5.out.2.1.setNe n1).below dW6, OwnI.below (row_setE HW5.out.2.2.1 ⟨_, HW5.out.2.2.2.2.1⟩ (by decide)) dW6, OwnB.below (row_setE HW5.out.2.2.2.1 ⟨_, HW5.out.2.2.2.2.1⟩ (by decide)) dW6, Blk.below (by simpa using h9) dW6, HW5.out.2.2.2.2.2.1, HW5.out.2.2.2.2.2.2.1, fun o v hv => ?_, HW5.out.2.2.2.2.2.2.2.2⟩
            rw [hW6]
            simp [go_sem, n2, n4, hv]
          obtain ⟨k4, k5, k6⟩ : W6.cell? ⟨bb, off + x * 7 + 4, none⟩ = some (.int .i64 (f x).p) ∧ W6.cell? ⟨bb, off + x * 7 + 5, none⟩ = some (.int .i64 (f x).t) ∧ W6.cell? ⟨bb, off + x * 7 + 6, none⟩ = some (.int .i64 (f x).sh) := ⟨HW6.out.2.2.2.2.2.2.2.1 _ _ c4, HW6.out.2.2.2.2.2.2.2.1 _ _ c5, HW6.out.2.2.2.2.2.2.2.1 _ _ c6⟩
          rw [← hW6]
          clear hW6 dW6 HW5 y0 y1 y2 y3 y4 y5 z0 z1 z2 z3 z4 z5 f0 f1 f2 f3 f4 f5 c4 c5 c6
          obtain ⟨y0, y1, y2, y3, y4, y5⟩ := HW6.out.2.1.six
          obtain ⟨⟨z0, z1, z2, z3, z4, z5⟩, ⟨f0, f1, f2, f3, f4, f5⟩⟩ := HW6.out.2.2.2.2.1.six2
          have c4 := k4
          have c5 := k5
          have c6 := k6
          clear k4 k5 k6
          go_upto_region 6 with fail
          go_region
          obtain ⟨W7, hW7⟩ : ∃ W7, W7 = (W6.setCell ⟨gO, 5, none⟩ (.int .i64 (wa + (f x).sh))).drew := ⟨_, rfl⟩
          have dW7 : Below (W6.setCell ⟨gO, 5, none⟩ (.int .i64 (wa + (f x).sh))).heap.size (W6.setCell ⟨gO, 5, none⟩ (.int .i64 (wa + (f x).sh))) W7 := by rw [hW7]; exact (Below.refl _ _).drew
          have HW7 : Hid (Below w.heap.size w W7 ∧ Blk W7 gQ 28 (rqc 23 pl nn wa q1 q2 m1 m2 k1 k2) ∧ OwnI W7 w.heap.size (.slice r1 l1 c1') ws ∧ OwnB W7 w.heap.size (.slice r2 l2 c2') [] ∧ Blk W7 gO 28 (rqc 23 (pl + (f x).sh) nn (wa + (f x).sh) r1 r2 l1 l2 c1' c2') ∧ l1 = ws.length ∧ l2 = 0 ∧ (∀ o v, W6.cell? ⟨bb, o, none⟩ = some v → W7.cell? ⟨bb, o, none⟩ = some v) ∧ w.heap.size ≤ gO) := by
            have h9 := HW6.out.2.2.2.2.1.set 5 (.int .i64 (wa + (f x).sh))
            refine ⟨by rw [hW7]; exact (HW6.out.1.setCell (p := ⟨gO, 5, none⟩) HW6.out.2.2.2.2.2.2.2.2 _).drew, (HW6.out.2.1.setNe n1).below dW7, OwnI.below (row_setE HW6.out.2.2.1 ⟨_, HW6.out.2.2.2.2.1⟩ (by decide)) dW7, OwnB.below (row_setE HW6.out.2.2.2.1 ⟨_, HW6.out.2.2.2.2.1⟩ (by decide)) dW7, Blk.below (by simpa using h9) dW7, HW6.out.2.2.2.2.2.1, HW6.out.2.2.2.2.2.2.1, fun o v hv => ?_, HW6.out.2.2.2.2.2.2.2.2⟩
            rw [hW7]
            simp [go_sem, n2, n4, hv]
          obtain ⟨k4, k5, k6⟩ : W7.cell? ⟨bb, off + x * 7 + 4, none⟩ = some (.int .i64 (f x).p) ∧ W7.cell? ⟨bb, off + x * 7 + 5, none⟩ = some (.int .i64 (f x).t) ∧ W7.cell? ⟨bb, off + x * 7 + 6, none⟩ = some (.int .i64 (f x).sh) := ⟨HW7.out.2.2.2.2.2.2.2.1 _ _ c4, HW7.out.2.2.2.2.2.2.2.1 _ _ c5, HW7.out.2.2.2.2.2.2.2.1 _ _ c6⟩
          rw [← hW7]
          clear hW7 dW7 HW6 y0 y1 y2 y3 y4 y5 z0 z1 z2 z3 z4 z5 f0 f1 f2 f3 f4 f5 c4 c5 c6
          obtain ⟨y0, y1, y2, y3, y4, y5⟩ := HW7.out.2.1.six
          obtain ⟨⟨z0, z1, z2, z3, z4, z5⟩, ⟨f0, f1, f2, f3, f4, f5⟩⟩ := HW7.out.2.2.2.2.1.six2
          have c4 := k4
          have c5 := k5
          have c6 := k6
          clear k4 k5 k6
          go_upto_region 7 with fail
          go_region
          clear y0 y1 y2 y3 y4 y5 z0 z1 z2 z3 z4 z5 f0 f1 f2 f3 f4 f5 c4 c5 c6
          go_wp2
          refine bodyPost_ret (v := .tuple #[.slice (some ⟨W7.heap.size, 0, none⟩) 1 1, .int .i64 0]) (by simp [results, Try.results39, go_sem]) rfl ?_
          rw [HYES.out]
          obtain ⟨j1, j2, j3, j4, j5, j6, j7, j8, j9⟩ := HW7.out
          subst j6
          subst j7
          exact ⟨_, rfl, (ownPs_one W7 w.heap.size ⟨(f x).p, (f x).t, 23, pl + (f x).sh, nn, wa + (f x).sh, ws, []⟩ r1 r2 c1' c2' j3 j4 j1.size).below (Below.refl _ _).drew, (bel_next j1 (bel_alloc _ _)).drew⟩

end Go.Proofs.Ytaaokbmfpfmfgaa

namespace Go.Proofs.Ytaaokbmfpfmfgaa
open Go.RowKit Go.Joins

set_option linter.unusedVariables false

set_option linter.unusedSimpArgs false

theorem range_flat_len (F : Nat → List Value) (s : Nat) : ∀ n, (∀ k, k < n → (F k).length = s) → ((List.range n).flatMap F).length = n * s
  | 0, _ => by simp
  | n + 1, h => by
    rw [List.range_succ, List.flatMap_append, List.length_append, range_flat_len F s n (fun k hk => h k (by omega))]
    simp [h n (by omega), Nat.add_mul]

theorem range_flat_at (F : Nat → List Value) (s : Nat) : ∀ n, (∀ k, k < n → (F k).length = s) → ∀ k j, k < n → j < s → ((List.range n).flatMap F)[k * s + j]? = (F k)[j]?
  | 0, _, k, j, hk, _ => by omega
  | n + 1, h, k, j, hk, hj => by
    have hl := range_flat_len F s n (fun k hk => h k (by omega))
    rw [List.range_succ, List.flatMap_append]
    by_cases e : k = n
    · subst e
      rw [List.getElem?_append_right (by omega), hl, Nat.add_sub_cancel_left]
      simp
    · have hk' : k < n := by omega
      have : (k + 1) * s ≤ n * s := Nat.mul_le_mul_right s hk'
      rw [Nat.add_mul, Nat.one_mul] at this
      rw [List.getElem?_append_left (by omega)]
      exact range_flat_at F s n (fun k hk => h k (by omega)) k j hk' hj

theorem range_flat_push (F : Nat → List Value) (vs : List Value) (n : Nat) : (List.range (n + 1)).flatMap (fun k => if k = n then vs else F k) = (List.range n).flatMap F ++ vs := by
  rw [List.range_succ, List.flatMap_append]
  congr 1
  · have : ∀ l : List Nat, (∀ x ∈ l, x < n) → l.flatMap (fun k => if k = n then vs else F k) = l.flatMap F := by
      intro l
      induction l with
      | nil => intro _; rfl
      | cons x r ih =>
        intro h
        rw [List.flatMap_cons, List.flatMap_cons, ih (fun y hy => h y (by simp [hy]))]
        have := h x (by simp)
        rw [if_neg (by omega)]
    exact this _ (fun x hx => List.mem_range.1 hx)
  · simp

theorem row_exB {w : World} {base s n g : Nat} {e : TypeId} {v : Value} {xs : List Value} (h : w.ownsRow base e s v n xs) (hv : v.ownBlock = some g) : ExB w g e := by
  rcases h.2 with ⟨rfl, _⟩ | ⟨g', cap, cur, rfl, _, hh, _⟩
  · simp [Value.ownBlock] at hv
  · simp [Value.ownBlock] at hv
    subst hv
    exact ⟨cur, hh⟩

theorem InP.keptR {w w' : World} {base s n : Nat} {e : TypeId} {v : Value} {xs : List Value} {β : Nat → Nat} {F : Nat → List Value} {Ps : List Pa} {z : Nat} (h : InP w base β F Ps z) (ho : w.ownsRow base e s v n xs) (hg : w.grownBy w' v.ownBlock) (h1 : e ≠ 3) (h2 : e ≠ 4) : InP w' base β F Ps z := by
  cases hv : v.ownBlock with
  | none =>
    rw [hv] at hg
    have hb : Below w.heap.size w w' := (Below.refl _ w).grown hg (Nat.le_refl _) (fun k hk => by cases hk)
    exact h.below hb
  | some g =>
    rw [hv] at hg
    exact h.keptT hg (row_exB ho hv) h1 h2

theorem InP.ext {w : World} {base : Nat} {β : Nat → Nat} {F : Nat → List Value} {Ps Qs : List Pa} {z : Nat} (h : InP w base β F Ps z) (he : ∀ k, k < z → Ps.getD k default = Qs.getD k default) : InP w base β F Qs z := ⟨h.1, h.2.1, fun k hk => by rw [← he k hk]; exact h.2.2 k hk⟩

theorem ownPs_row {w : World} {base : Nat} {v : Value} {n : Nat} {F : Nat → List Value} {β : Nat → Nat} {Ps : List Pa} (h : w.ownsRow base 37 8 v n ((List.range n).flatMap F)) (hI : InP w base β F Ps n) (hn : n = Ps.length) : OwnPs w base v Ps := by
  subst hn
  refine ⟨F, β, ?_, hI⟩
  have hl : ∀ k, k < Ps.length → (F k).length = 8 := fun k hk => (hI.2.2 k hk).len
  rcases h.2 with ⟨hv, h0⟩ | ⟨g, cap, cur, hv, hb, hh, hle, _, hs, ht⟩
  · exact .inl ⟨h0, none, 0, hv⟩
  · refine .inr ⟨g, cap, hv, hb, cur, hh, by rw [hs]; exact Nat.mul_le_mul_right 8 hle, fun k hk j hj => ?_⟩
    have hlt : k * 8 + j < Ps.length * 8 := by omega
    rw [← range_flat_at F 8 Ps.length hl k j hk hj, ← ht, List.getElem?_take, if_pos hlt, Array.getElem?_toList]

theorem newP (u : World) (base : Nat) (hb : base ≤ u.heap.size) : (u.alloc (.cells #[] 37)).ownsRow base 37 8 (.slice (some ⟨u.heap.size, 0, none⟩) 0 0) 0 [] := ⟨rfl, .inr ⟨u.heap.size, 0, #[], rfl, hb, Blk.new u #[] 37, by simp, by simp, rfl, rfl⟩⟩

theorem step_appP {ops : Array Oper} {o : Oper} {a : Act} {w : World} {K : Act → World → Prop} {Q : Exit → Act → World → Prop} {E : Prop} (hgd : o.guard = none) (s x : Operand)
    (ho : o.op = .call { callee := .builtin .append, args := #[s, x], argTypes := #[31, 31] }) (base : Nat) (v : Value) (n : Nat) (xs : List Value) (hs : a.eval s = v) (hown : w.ownsRow base 37 8 v n xs)
    (g c : Nat) (P : Pa) (a1 a2 : Option Addr) (l1 l2 c1 c2 : Nat) (hx : a.eval x = .slice (some ⟨g, 0, none⟩) 1 c) (hb : Blk w g 37 #[.int .i64 P.p, .int .i64 P.t, .int .i64 P.kd, .int .i64 P.pl, .int .i64 P.n, .slice a1 l1 c1, .slice a2 l2 c2, .int .i64 P.wa]) (hn : n ≤ 1000000) (hbase : base ≤ w.heap.size)
    (h : ∀ v' w', w'.ownsRow base 37 8 v' (n + 1) (xs ++ [.int .i64 P.p, .int .i64 P.t, .int .i64 P.kd, .int .i64 P.pl, .int .i64 P.n, .slice a1 l1 c1, .slice a2 l2 c2, .int .i64 P.wa]) → w.grownBy w' v.ownBlock → K (a.put o.dst v') w') :
    if Region.wanted o (yielded ops a.tmps) = true then Oper.wp Try.prog o a w K Q else E := by
  obtain ⟨i0, hi, hzz⟩ := Option.map_eq_some_iff.1 Try.infoP37
  simp only [Prod.mk.injEq] at hzz
  obtain ⟨hz0, hz1, hz2⟩ := hzz
  refine step_append_own hgd s x 31 ho base 37 i0 _ 8 96 Try.underlying31 hi hz0 hz1 hz2 rfl (by decide) v n xs hs hown ⟨g, 0, none⟩ 1 c [.int .i64 P.p, .int .i64 P.t, .int .i64 P.kd, .int .i64 P.pl, .int .i64 P.n, .slice a1 l1 c1, .slice a2 l2 c2, .int .i64 P.wa] hx rfl ?_ (fun u hu => by simp at hu; rcases hu with rfl | rfl | rfl | rfl | rfl | rfl | rfl | rfl <;> rfl) (by unfold maxLen; omega) (by omega) hbase h
  intro j u hu
  have e1 : (⟨g, 0, none⟩ : Addr).add j = ⟨g, j, none⟩ := by unfold Addr.add; split <;> simp_all
  rw [e1]
  exact hb.cell j (by simpa using hu)

theorem row_ext {w : World} {base s n m : Nat} {e : TypeId} {v : Value} {xs ys : List Value} (h : w.ownsRow base e s v n xs) (hn : n = m) (hx : xs = ys) : w.ownsRow base e s v m ys := by rw [← hn, ← hx]; exact h

theorem row_shape {w : World} {base s n : Nat} {e : TypeId} {v : Value} {xs : List Value} (h : w.ownsRow base e s v n xs) : ∃ a c, v = .slice a n c := by
  rcases h.2 with ⟨rfl, h0⟩ | ⟨g, cap, cur, rfl, _⟩
  · exact ⟨none, 0, by rw [h0]⟩
  · exact ⟨_, cap, rfl⟩

theorem rowO_below {w w' : World} {base s n : Nat} {e : TypeId} {v : Value} {xs : List Value} (h : w.ownsRow base e s v n xs) (hb : Below w.heap.size w w') : w'.ownsRow base e s v n xs := by
  refine World.ownsRow.kept h (grown_below hb (some w.heap.size)) ?_
  cases e : v.ownBlock with
  | none => exact .inl rfl
  | some k => exact .inr (fun e2 => by have := (World.ownsRow.lt h k e).2; simp at e2; omega)

/-- The way of the model's loop: what is known behind fr places. -/
def LpI (w wr : World) (f : Nat → Ru) (n : Nat) (un sp E pl kd : Int) (ws : List Int) (bs : List Bool) (fr : Nat) (v : Value) (vn : Nat) : Prop :=
  ∃ (l : List Rn) (F : Nat → List Value) (β : Nat → Nat), vn = l.length ∧ runs f n un sp E pl = (runs f n un sp E (pl + fr)).map (fun t => l ++ t) ∧ l.length ≤ fr ∧ wr.ownsRow w.heap.size 37 8 v vn ((List.range vn).flatMap F) ∧ InP wr w.heap.size β F (l.map (pcOf kd pl ws bs)) vn ∧ β vn ≤ wr.heap.size

theorem LpI.start {w u : World} {f : Nat → Ru} {n : Nat} {un sp E pl kd : Int} {ws : List Int} {bs : List Bool} {v : Value} (h : u.ownsRow w.heap.size 37 8 v 0 []) (hb : w.heap.size ≤ u.heap.size) : LpI w u f n un sp E pl kd ws bs 0 v 0 :=
  ⟨[], fun _ => [], fun _ => w.heap.size, rfl, by simp, Nat.le_refl _, h, InP.start _ _ _ _, hb⟩

theorem LpI.below {w u u' : World} {f : Nat → Ru} {n : Nat} {un sp E pl kd : Int} {ws : List Int} {bs : List Bool} {fr vn : Nat} {v : Value} (h : LpI w u f n un sp E pl kd ws bs fr v vn) (hb : Below u.heap.size u u') : LpI w u' f n un sp E pl kd ws bs fr v vn := by
  obtain ⟨l, F, β, h1, h2, h3, h4, h5, h6⟩ := h
  exact ⟨l, F, β, h1, h2, h3, rowO_below h4 hb, h5.below hb, Nat.le_trans h6 hb.size⟩

/-- No rule has the place. -/
theorem LpI.none {w u : World} {f : Nat → Ru} {n : Nat} {un sp E pl kd : Int} {ws : List Int} {bs : List Bool} {fr vn : Nat} {v : Value} (h : LpI w u f n un sp E pl kd ws bs fr v vn) (hlt : pl + fr < E) (hn : atR f n un sp (pl + fr) < 0) : runs f n un sp E pl = Option.none := by
  obtain ⟨l, F, β, h1, h2, _⟩ := h
  rw [h2]
  have : runs f n un sp E (pl + fr) = Option.none := by
    refine runs_none hlt ?_
    rcases atFrom_cases f un sp (pl + fr) n 0 with ⟨x, _, g2, g3, _⟩ | ⟨_, g1⟩
    · exfalso; rw [atR, g3] at hn; omega
    · exact fun j hj => g1 j (Nat.zero_le _) hj
  rw [this]; rfl

theorem LpI.fin {w u : World} {f : Nat → Ru} {n : Nat} {un sp E pl kd : Int} {ws : List Int} {bs : List Bool} {fr vn : Nat} {v : Value} (h : LpI w u f n un sp E pl kd ws bs fr v vn) (hE : ¬ pl + fr < E) : ∃ l, runs f n un sp E pl = some l ∧ vn = l.length ∧ OwnPs u w.heap.size v (l.map (pcOf kd pl ws bs)) := by
  obtain ⟨l, F, β, h1, h2, h3, h4, h5, h6⟩ := h
  refine ⟨l, ?_, h1, ownPs_row h4 h5 (by rw [List.length_map]; exact h1)⟩
  rw [h2, runs_end hE]; simp

/-- The list's row. -/
theorem LpI.row {w u : World} {f : Nat → Ru} {n : Nat} {un sp E pl kd : Int} {ws : List Int} {bs : List Bool} {fr vn : Nat} {v : Value} (h : LpI w u f n un sp E pl kd ws bs fr v vn) : ∃ xs, u.ownsRow w.heap.size 37 8 v vn xs ∧ vn ≤ fr ∧
    ∀ (u' w7 : World) (N : Nat) (v' : Value) (r : Ru) (a1 a2 : Option Addr) (l1 l2 c1 c2 : Nat) (cs : Array Value) (P : Pa), pl + fr < E → rAt f n un sp (pl + fr) = some r → (N : Int) = min (r.hi + 1) E - (pl + fr) → 0 < N → Below u.heap.size u u' → P = pcOf kd pl ws bs ⟨r, pl + fr, N⟩ →
      l1 = P.ws.length → l2 = P.bs.length → OwnI u' u.heap.size (.slice a1 l1 c1) P.ws → OwnB u' u.heap.size (.slice a2 l2 c2) P.bs → (u'.alloc (.cells cs 37)).grownBy w7 v.ownBlock →
      w7.ownsRow w.heap.size 37 8 v' (vn + 1) (xs ++ [.int .i64 P.p, .int .i64 P.t, .int .i64 P.kd, .int .i64 P.pl, .int .i64 P.n, .slice a1 l1 c1, .slice a2 l2 c2, .int .i64 P.wa]) → LpI w w7 f n un sp E pl kd ws bs (fr + N) v' (vn + 1) := by
  obtain ⟨l, F, β, h1, h2, h3, h4, h5, h6⟩ := h
  refine ⟨_, h4, by omega, ?_⟩
  intro u' w7 N v' r a1 a2 l1 l2 c1 c2 cs P hlt hr hN hpos hb hP e1 e2 o1 o2 hg hrow
  have hrs := runs_step hlt hr
  have eN : pl + ((fr + N : Nat) : Int) = min (r.hi + 1) E := by omega
  have eM : (⟨r, pl + fr, min (r.hi + 1) E - (pl + fr)⟩ : Rn) = ⟨r, pl + fr, N⟩ := by rw [hN]
  rw [eM] at hrs
  have hp : PtAt u' u.heap.size u'.heap.size [.int .i64 P.p, .int .i64 P.t, .int .i64 P.kd, .int .i64 P.pl, .int .i64 P.n, .slice a1 l1 c1, .slice a2 l2 c2, .int .i64 P.wa] P := ⟨a1, a2, c1, c2, by rw [e1, e2], by rw [← e1]; exact o1, by rw [← e2]; exact o2, by rw [← e1]; exact fun k hk => (World.ownsRow.lt o1 k hk).2, by rw [← e2]; exact fun k hk => (World.ownsRow.lt o2 k hk).2⟩
  have hq : ((l ++ [(⟨r, pl + fr, N⟩ : Rn)]).map (pcOf kd pl ws bs)).getD vn default = P := by
    rw [h1, List.map_append, List.getD_eq_getElem?_getD, List.getElem?_append_right (by simp)]
    simp [hP]
  have hI := InP.push ((h5.below hb).ext (Qs := (l ++ [(⟨r, pl + fr, N⟩ : Rn)]).map (pcOf kd pl ws bs)) (fun k hk => by
    rw [List.map_append, List.getD_eq_getElem?_getD, List.getD_eq_getElem?_getD, List.getElem?_append_left (by rw [List.length_map]; omega)])) h6 hb.size hp hq
  have hA := bel_alloc u' (.cells cs 37)
  refine ⟨l ++ [⟨r, pl + fr, N⟩], _, _, by simp [h1], ?_, by simp; omega, row_ext hrow rfl (range_flat_push F _ vn).symm, (hI.below hA).keptR (rowO_below (rowO_below h4 hb) hA) hg (by decide) (by decide), ?_⟩
  · rw [h2, hrs, eN]
    cases runs f n un sp E (min (r.hi + 1) E) <;> simp
  · simp only [if_neg (show ¬ vn + 1 ≤ vn by omega)]
    exact Nat.le_trans hA.size hg.size

end Go.Proofs.Ytaaokbmfpfmfgaa
