/- Texts that the proof needs, joined: Tel1. -/
import Derived.Test.YtohikbpolofklaaGreatDoorV17
import Derived.Test.YtohikbpolofklaaGreatDoorV1
import Derived.Deep.Upon
import Derived.Lib.AppendZeros
import Derived.Deep.DeepCutAuto
import Derived.Deep.RegionWith
namespace Go.Proofs.YtohikbpolofklaaGreatDoor
open Go.RowKit
set_option linter.unusedVariables false
set_option linter.unusedSimpArgs false
theorem Cur.belowU {w0 u u' : World} {a : Option Addr} {cap g : Nat} {zs : List Int} (h : Cur w0 a cap zs u g) (hb : Below u.heap.size u u') : Cur w0 a cap zs u' g :=
  h.grown (grown_below hb (some u.heap.size)) (by have := h.hi; simp; omega) (fun k hk => by simp at hk; subst hk; have := h.hi; have := h.lo; omega)
theorem Blk.set6 {u : World} {B : Nat} {t : TypeId} {x0 x1 x2 x3 x4 x5 v0 v1 v2 v3 v4 v5 : Value} (h : Blk u B t #[x0, x1, x2, x3, x4, x5]) : Blk ((((((u.setCell ⟨B, 0, none⟩ v0).setCell ⟨B, 1, none⟩ v1).setCell ⟨B, 2, none⟩ v2).setCell ⟨B, 3, none⟩ v3).setCell ⟨B, 4, none⟩ v4).setCell ⟨B, 5, none⟩ v5) B t #[v0, v1, v2, v3, v4, v5] := by
  have := (((((h.set 0 v0).set 1 v1).set 2 v2).set 3 v3).set 4 v4).set 5 v5
  simpa using this
theorem grown_rowG {w u u' : World} {g : Nat} {e : TypeId} {size n : Nat} {v : Value} {xs : List Value} (h : w.grownBy u (some g)) (hr : u.ownsRow w.heap.size e size v n xs) (hg : u.grownBy u' v.ownBlock) : w.grownBy u' (some g) := by
  refine ⟨hg.os.trans h.os, hg.tape.trans h.tape, hg.output.trans h.output, Nat.le_trans h.size hg.size, fun k hk hne => ?_⟩
  rw [hg.block k (Nat.lt_of_lt_of_le hk h.size) (fun e => by have := (World.ownsRow.lt hr k e.symm).1; omega)]
  exact h.block k hk hne
theorem Cur.rowG {w0 u u' : World} {a : Option Addr} {cap g B : Nat} {zs : List Int} {e : TypeId} {size n : Nat} {v : Value} {xs : List Value} (h : Cur w0 a cap zs u g) (hr : u.ownsRow B e size v n xs) (hg : u.grownBy u' v.ownBlock) (hB : g < B) : Cur w0 a cap zs u' g := by
  have hlo := h.lo
  exact h.grown hg (fun e => by have := (World.ownsRow.lt hr g e.symm).1; omega) (fun k hk => by have := (World.ownsRow.lt hr k hk).1; omega)
theorem ints_none {w : World} {ys : List Int} (h : SlI w none ys) : ys = [] := by
  cases ys with
  | nil => rfl
  | cons y r => obtain ⟨b, off, e, _⟩ := cell_atI (k := 0) h (by simp); simp at e
theorem bools_none {w : World} {ys : List Bool} (h : SlB w none ys) : ys = [] := by
  cases ys with
  | nil => rfl
  | cons y r => obtain ⟨b, off, e, _⟩ := cell_atB (k := 0) h (by simp); simp at e
theorem wpList_appIO {w : World} {ops : Array Oper} {rest : List Oper} {o : Oper} {a : Act} {Q : Exit → Act → World → Prop} (hgd : o.guard = none) (s x : Operand)
    (ho : o.op = .call { callee := .builtin .append, args := #[s, x], argTypes := #[27, 27] }) (base : Nat) (v : Value) (zs : List Int) (hs : a.eval s = v) (hown : OwnI w base v zs)
    (ad : Option Addr) (m c : Nat) (ys : List Int) (hx : a.eval x = .slice ad m c) (hm : m = ys.length) (hsl : SlI w ad ys) (hlen : zs.length + ys.length ≤ 4000000) (hbase : base ≤ w.heap.size)
    (h : ∀ v' w', OwnI w' base v' (zs ++ ys) → w.grownBy w' v.ownBlock → wpList Tryz.prog ops Q rest (a.put o.dst v') w') : wpList Tryz.prog ops Q (o :: rest) a w := by
  cases ad with
  | some ad => exact wpList_appI hgd s x ho base v zs hs hown ad m c ys hx hm hsl hlen hbase h
  | none =>
    obtain rfl := ints_none hsl
    obtain rfl : m = 0 := hm
    obtain ⟨i0, hi, hz0, hz1, hz2⟩ := info_parts Tryz.infoQ3
    have hgo : ∀ (sa : Option Addr) (sn sc : Nat), sn ≤ sc → v = .slice sa sn sc → wpList Tryz.prog ops Q (o :: rest) a w := by
      rintro sa sn sc hcap rfl
      exact Lib.wpList_append_run _ hgd s x _ _ ho _ _ hs hx _ _ (run_append_nothing w 27 27 o.type 3 i0 Tryz.underlying27 hi sa sn sc hcap _ (Src.ofNil w Tryz.underlying27 c)) (h _ w (by simpa using hown) ⟨rfl, rfl, rfl, Nat.le_refl _, fun _ _ _ => rfl⟩)
    rcases hown.2 with ⟨e, _⟩ | ⟨g, cap', cur, hv, _, hh, h3, _⟩
    · exact hgo _ _ _ (Nat.le_refl 0) e
    · exact hgo _ _ _ h3 hv
theorem boolCells {w : World} {ad : Addr} {ys : List Bool} (h : SlB w (some ad) ys) : ∀ j u, (ys.map Value.bool)[j]? = some u → w.cell? (ad.add j) = some u := by
  intro j u hu
  rw [List.getElem?_map] at hu
  by_cases hj : j < ys.length
  · obtain ⟨b, off, e, _, hc⟩ := cell_atB h hj
    simp at e
    subst e
    rw [List.getElem?_eq_getElem hj] at hu
    simp at hu
    subst hu
    have : ys.getD j false = ys[j] := by simp [List.getD_eq_getElem?_getD, hj]
    rw [this] at hc
    by_cases h0 : j = 0
    · subst h0; simpa [Addr.add] using hc
    · simpa [Addr.add, h0] using hc
  · rw [List.getElem?_eq_none (by omega)] at hu; simp at hu
theorem wpList_appBO {w : World} {ops : Array Oper} {rest : List Oper} {o : Oper} {a : Act} {Q : Exit → Act → World → Prop} (hgd : o.guard = none) (s x : Operand)
    (ho : o.op = .call { callee := .builtin .append, args := #[s, x], argTypes := #[28, 28] }) (base : Nat) (v : Value) (zs : List Bool) (hs : a.eval s = v) (hown : OwnB w base v zs)
    (ad : Option Addr) (m c : Nat) (ys : List Bool) (hx : a.eval x = .slice ad m c) (hm : m = ys.length) (hsl : SlB w ad ys) (hlen : zs.length + ys.length ≤ 4000000) (hbase : base ≤ w.heap.size)
    (h : ∀ v' w', OwnB w' base v' (zs ++ ys) → w.grownBy w' v.ownBlock → wpList Tryz.prog ops Q rest (a.put o.dst v') w') : wpList Tryz.prog ops Q (o :: rest) a w := by
  obtain ⟨i0, hi, hz0, hz1, hz2⟩ := info_parts Tryz.info4
  cases ad with
  | some ad =>
    subst hm
    have hml : zs.length + ys.length ≤ maxLen := by unfold maxLen; omega
    refine wpList_append_own _ hgd s x 28 ho base 4 i0 (.bool false) 1 1 Tryz.underlying28 hi hz0 hz1 hz2 rfl (by decide) v zs.length (zs.map Value.bool) hs hown ad ys.length c (ys.map Value.bool) hx (by simp) (boolCells hsl) (by intro u hu; obtain ⟨y, _, rfl⟩ := List.mem_map.mp hu; rfl) hml (by omega) hbase ?_
    intro v' w' o' g' _
    exact h v' w' (by simpa [OwnB] using o') g'
  | none =>
    obtain rfl := bools_none hsl
    obtain rfl : m = 0 := hm
    have hgo : ∀ (sa : Option Addr) (sn sc : Nat), sn ≤ sc → v = .slice sa sn sc → wpList Tryz.prog ops Q (o :: rest) a w := by
      rintro sa sn sc hcap rfl
      exact Lib.wpList_append_run _ hgd s x _ _ ho _ _ hs hx _ _ (run_append_nothing w 28 28 o.type 4 i0 Tryz.underlying28 hi sa sn sc hcap _ (Src.ofNil w Tryz.underlying28 c)) (h _ w (by simpa using hown) ⟨rfl, rfl, rfl, Nat.le_refl _, fun _ _ _ => rfl⟩)
    rcases hown.2 with ⟨e, _⟩ | ⟨g, cap', cur, hv, _, hh, h3, _⟩
    · exact hgo _ _ _ (Nat.le_refl 0) e
    · exact hgo _ _ _ h3 hv
theorem newI (u : World) (base : Nat) (hb : base ≤ u.heap.size) : OwnI (u.alloc (.cells #[] 3)) base (.slice (some ⟨u.heap.size, 0, none⟩) 0 0) [] := ⟨rfl, .inr ⟨u.heap.size, 0, #[], rfl, hb, Blk.new u #[] 3, by simp, by simp, rfl, rfl⟩⟩
theorem newB (u : World) (base : Nat) (hb : base ≤ u.heap.size) : OwnB (u.alloc (.cells #[] 4)) base (.slice (some ⟨u.heap.size, 0, none⟩) 0 0) [] := ⟨rfl, .inr ⟨u.heap.size, 0, #[], rfl, hb, Blk.new u #[] 4, by simp, by simp, rfl, rfl⟩⟩
theorem ownB_shape {w : World} {base : Nat} {v : Value} {zs : List Bool} (h : OwnB w base v zs) : ∃ a c n, v = .slice a n c ∧ n = zs.length := by
  obtain ⟨_, h2⟩ := h
  rcases h2 with ⟨hv, h3⟩ | ⟨g, cap, cur, hv, hg, hh, _⟩
  · exact ⟨none, 0, 0, hv, h3.symm⟩
  · exact ⟨_, cap, _, hv, rfl⟩
def RespAt (w0 : World) (a : Option Addr) (cap : Nat) (zs : List Int) (base m1 m2 : Nat) (w : World) (g : Nat) (e : Ending) (w' : World) : Prop :=
  ∃ (kd fl pl nn : Int) (a1 a2 : Option Addr) (l1 l2 c1 c2 : Nat) (ws : List Int) (bs : List Bool), e = .returned (rp kd fl pl nn a1 a2 l1 l2 c1 c2) ∧ l1 = ws.length ∧ l2 = bs.length ∧ l1 ≤ m1 ∧ l2 ≤ m2 ∧ OwnI w' base (.slice a1 l1 c1) ws ∧ OwnB w' base (.slice a2 l2 c2) bs ∧ Cur w0 a cap zs w' g ∧ w.grownBy w' (some g)
def RespIn (w0 : World) (a : Option Addr) (cap : Nat) (zs : List Int) (base m1 m2 : Nat) (w : World) (g : Nat) (e : Ending) (w' : World) : Prop :=
  ∃ (kd fl pl nn : Int) (a1 a2 : Option Addr) (l1 l2 c1 c2 : Nat) (ws : List Int) (bs : List Bool), e = .returned (rp kd fl pl nn a1 a2 l1 l2 c1 c2) ∧ l1 = ws.length ∧ l2 = bs.length ∧ l1 ≤ m1 ∧ l2 ≤ m2 ∧ OwnI w' base (.slice a1 l1 c1) ws ∧ OwnB w' base (.slice a2 l2 c2) bs ∧ Cur w0 a cap zs w' g ∧ w.grownBy w' (some g) ∧ (0 ≤ pl ∧ pl ≤ 65535 ∧ 0 ≤ nn ∧ nn ≤ 2900)
theorem st6_cur {w0 u : World} {a : Option Addr} {cap g B : Nat} {zs : List Int} {v0 v1 v2 v3 v4 v5 : Value} (h : Cur w0 a cap zs u g) (h1 : g ≠ B) (h2 : w0.heap.size ≤ B) : Cur w0 a cap zs ((((((u.setCell ⟨B, 0, none⟩ v0).setCell ⟨B, 1, none⟩ v1).setCell ⟨B, 2, none⟩ v2).setCell ⟨B, 3, none⟩ v3).setCell ⟨B, 4, none⟩ v4).setCell ⟨B, 5, none⟩ v5) g :=
  (((((h.setHi h1 h2).setHi h1 h2).setHi h1 h2).setHi h1 h2).setHi h1 h2).setHi h1 h2
theorem st6_grown {w u : World} {g B : Nat} {v0 v1 v2 v3 v4 v5 : Value} (h : w.grownBy u (some g)) (hB : w.heap.size ≤ B) : w.grownBy ((((((u.setCell ⟨B, 0, none⟩ v0).setCell ⟨B, 1, none⟩ v1).setCell ⟨B, 2, none⟩ v2).setCell ⟨B, 3, none⟩ v3).setCell ⟨B, 4, none⟩ v4).setCell ⟨B, 5, none⟩ v5) (some g) :=
  grown_setHi (grown_setHi (grown_setHi (grown_setHi (grown_setHi (grown_setHi h hB) hB) hB) hB) hB) hB
def lenAt (w : World) (B : Nat) : Nat := match w.cell? ⟨B, 5, none⟩ with | some (.slice _ n _) => n | _ => 0
set_option maxRecDepth 20000 in
set_option maxHeartbeats 16000000 in
theorem l4Draw_any (w0 : World) (a : Option Addr) (cap : Nat) (zs : List Int) (w : World) (g : Nat) (kd pl nn wa : Int) (a1 a2 : Option Addr) (l1 l2 c1 c2 : Nat) (ws : List Int) (bs : List Bool) (h1 : l1 = ws.length) (h2 : l2 = bs.length) (hl1 : l1 ≤ 200) (hl2 : l2 ≤ 2000) (hnn : 0 ≤ nn ∧ nn ≤ 900) (hpl : 0 ≤ pl ∧ pl ≤ 65535) (base : Nat) (hgb : g < base) (s1 : OwnI w base (.slice a1 l1 c1) ws) (s2 : OwnB w base (.slice a2 l2 c2) bs) (hC : Cur w0 a cap zs w g) :
    Calls Tryz.prog 43 #[.pointer (some ⟨g, 0, none⟩), rq kd pl nn wa a1 a2 l1 l2 c1 c2] w fun e w' => RespIn w0 a cap zs w.heap.size 900 2900 w g e w' := by
  have HE : Hid (l1 = ws.length ∧ l2 = bs.length ∧ l1 ≤ 200 ∧ l2 ≤ 2000 ∧ 0 ≤ nn ∧ nn ≤ 900 ∧ 0 ≤ pl ∧ pl ≤ 65535) := ⟨h1, h2, hl1, hl2, hnn.1, hnn.2, hpl.1, hpl.2⟩
  have hg := hC.hi
  have hlo := hC.lo
  have HGR : Hid (g < w.heap.size ∧ w0.heap.size ≤ g) := ⟨hg, hlo⟩
  have HS : Hid (OwnI w base (.slice a1 l1 c1) ws ∧ OwnB w base (.slice a2 l2 c2) bs ∧ g < base) := ⟨s1, s2, hgb⟩
  obtain ⟨W0, hW0⟩ : ∃ W0, W0 = (w.alloc (.cells #[.int .i64 kd, .int .i64 pl, .int .i64 nn, .slice a1 l1 c1, .slice a2 l2 c2, .int .i64 wa] 30)).alloc (.cells #[.int .i64 0, .int .i64 0, .int .i64 0, .int .i64 0, .slice none 0 0, .slice none 0 0] 36) := ⟨_, rfl⟩
  have HW : Hid (W0 = _) := hW0
  have C0 : Cur w0 a cap zs W0 g := by rw [hW0]; exact (hC.alloc _).alloc _
  have G0 : w.grownBy W0 (some g) := by rw [hW0]; exact grown_trans (World.grownBy_alloc _ _ _) (World.grownBy_alloc _ _ _)
  have X0 : Blk W0 w.heap.size 30 #[.int .i64 kd, .int .i64 pl, .int .i64 nn, .slice a1 l1 c1, .slice a2 l2 c2, .int .i64 wa] := by rw [hW0]; exact (Blk.new _ _ _).below (bel_alloc _ _)
  have R0 : Blk W0 (w.heap.size + 1) 36 #[.int .i64 0, .int .i64 0, .int .i64 0, .int .i64 0, .slice none 0 0, .slice none 0 0] := by rw [hW0]; have := Blk.new (w.alloc (.cells #[.int .i64 kd, .int .i64 pl, .int .i64 nn, .slice a1 l1 c1, .slice a2 l2 c2, .int .i64 wa] 30)) #[.int .i64 0, .int .i64 0, .int .i64 0, .int .i64 0, .slice none 0 0, .slice none 0 0] 36; simpa using this
  clear hC hW0 hg hlo h1 h2 hl1 hl2 hnn s1 s2 hgb hpl
  go_enter Tryz.func43, Tryz.ntmps43
  go_wp2_with fail
  rw [← HW.out]
  refine (l1Once_any w0 a cap zs _ g _ (by decide) C0).mono ?_
  rintro e u1 ⟨t, rfl, C1, gg⟩
  have G1 := grown_trans G0 gg
  have X1 := X0.grown gg (by have := HGR.out; simp; omega)
  have R1 := R0.grown gg (by have := HGR.out; simp; omega)
  clear C0 G0 X0 R0 gg
  obtain ⟨x0, x1, x2, x3, x4, x5⟩ := X1.six
  cases t
  case true =>
    obtain ⟨r0, r1, r2, r3, r4, r5⟩ := R1.six
    have fr := R1.fro
    have Cd : Cur w0 a cap zs u1.drew g := C1.belowU (Below.refl _ _).drew
    have Gd : w.grownBy u1.drew (some g) := grown_trans G1 (grown_below (Below.refl _ _).drew (some g))
    have Xd := X1.below (Below.refl _ _).drew
    have Rd := R1.below (Below.refl _ _).drew
    go_wp2_with fail
    go_cut [] (fun wc => ∃ x : Int, Cur w0 a cap zs wc g ∧ w.grownBy wc (some g) ∧ Blk wc (w.heap.size + 1) 36 #[.int .i64 kd, .int .i64 (1 + x), .int .i64 0, .int .i64 0, .slice none 0 0, .slice none 0 0])
    case first =>
      refine wp_region_any (by kernel_rfl) ?_
      (try (change wpAny _ _ _ _ _ _ _ (World.drew _)))
      refine wpAny_take (i := 0) (v := ?v0) rfl (by kernel_rfl) (by kernel_rfl) (by kernel_rfl) (fun _ _ _ h => h) (Or.inl ⟨by rfl, ?h0⟩) ?_
      case h0 => intro w; go_simp; try (with_reducible rfl)
      refine wpAny_take (i := 2) (v := ?v2) rfl (by kernel_rfl) (by kernel_rfl) (by kernel_rfl) (fun _ _ _ h => h) (Or.inl ⟨by rfl, ?h2⟩) ?_
      case h2 => intro w; go_simp; try (with_reducible rfl)
      refine wpAny_ready (rs := [1, 3]) (by kernel_rfl) (by simp) ?_
      refine AllReady.cons rfl (fun K hK => ?_) ?_
      · skip
        go_simp
        refine hK _ _ ?_
        clear hK K
        refine wpAny_ready (rs := [3]) (by kernel_rfl) (by simp) ?_
        refine AllReady.cons rfl (fun K hK => ?_) AllReady.nil
        go_simp
        go_wp2_with (go_at_call 34; refine (l1Below_any w0 a cap zs _ g _ (by decide) Cd).mono ?_; rintro e u2 ⟨x, rfl, hx, C2, gg⟩; have hwx : IntKind.i64.wrap (1 + x) = 1 + x := (by rw [IntKind.wrap_i64]; omega); have G2 := grown_trans Gd gg; have X2 := Xd.grown gg (by have := HGR.out; simp; omega); have R2 := Rd.grown gg (by have := HGR.out; simp; omega); clear gg; obtain ⟨z0, z1, z2, z3, z4, z5⟩ := X2.six; obtain ⟨s0, s1, s2, s3, s4, s5⟩ := R2.six; have fs := R2.fro)
        try (refine hK _ _ ?_; clear hK K)
        refine wpAny_ready (rs := [4]) (by kernel_rfl) (by simp) ?_
        refine AllReady.cons rfl (fun K hK => ?_) AllReady.nil
        go_simp
        refine hK _ _ ?_
        clear hK K
        refine wpAny_ready (rs := [5]) (by kernel_rfl) (by simp) ?_
        refine AllReady.cons rfl (fun K hK => ?_) AllReady.nil
        go_simp
        refine hK _ _ ?_
        clear hK K
        refine wpAny_ready (rs := [6]) (by kernel_rfl) (by simp) ?_
        refine AllReady.cons rfl (fun K hK => ?_) AllReady.nil
        go_simp
        refine hK _ _ ?_
        clear hK K
        refine wpAny_done (by kernel_rfl) ?_ _
        (go_wp2_with fail; go_meet; exact ⟨x, st6_cur C2 (by have := HGR.out; omega) (by have := HGR.out; omega), st6_grown G2 (by omega), Blk.set6 R2⟩)
      refine AllReady.cons rfl (fun K hK => ?_) AllReady.nil
      go_simp
      go_wp2_with (go_at_call 34; refine (l1Below_any w0 a cap zs _ g _ (by decide) Cd).mono ?_; rintro e u2 ⟨x, rfl, hx, C2, gg⟩; have hwx : IntKind.i64.wrap (1 + x) = 1 + x := (by rw [IntKind.wrap_i64]; omega); have G2 := grown_trans Gd gg; have X2 := Xd.grown gg (by have := HGR.out; simp; omega); have R2 := Rd.grown gg (by have := HGR.out; simp; omega); clear gg; obtain ⟨z0, z1, z2, z3, z4, z5⟩ := X2.six; obtain ⟨s0, s1, s2, s3, s4, s5⟩ := R2.six; have fs := R2.fro)
      try (refine hK _ _ ?_; clear hK K)
      refine wpAny_take (i := 4) (v := ?v4) rfl (by kernel_rfl) (by kernel_rfl) (by kernel_rfl) (fun _ _ _ h => h) (Or.inl ⟨by rfl, ?h4⟩) ?_
      case h4 => intro w; go_simp; try (with_reducible rfl)
      refine wpAny_ready (rs := [1]) (by kernel_rfl) (by simp) ?_
      refine AllReady.cons rfl (fun K hK => ?_) AllReady.nil
      go_simp
      refine hK _ _ ?_
      clear hK K
      refine wpAny_ready (rs := [5]) (by kernel_rfl) (by simp) ?_
      refine AllReady.cons rfl (fun K hK => ?_) AllReady.nil
      go_simp
      refine hK _ _ ?_
      clear hK K
      refine wpAny_ready (rs := [6]) (by kernel_rfl) (by simp) ?_
      refine AllReady.cons rfl (fun K hK => ?_) AllReady.nil
      go_simp
      refine hK _ _ ?_
      clear hK K
      refine wpAny_done (by kernel_rfl) ?_ _
      (go_wp2_with fail; go_meet; exact ⟨x, st6_cur C2 (by have := HGR.out; omega) (by have := HGR.out; omega), st6_grown G2 (by omega), Blk.set6 R2⟩)
    case rest =>
      obtain ⟨x, C2, G2, R2⟩ := hcut
      obtain ⟨r0, r1, r2, r3, r4, r5⟩ := R2.six
      go_wp2
      refine bodyPost_ret (v := rp kd (1 + x) 0 0 none none 0 0 0 0) (by simp [results, Tryz.results43, go_sem, r0, r1, r2, r3, r4, r5]) rfl ?_
      exact ⟨_, _, _, _, _, _, _, _, _, _, [], [], rfl, rfl, rfl, by omega, by omega, ownI_nil _ _, ownB_nil _ _, C2, G2, ⟨by first | omega | (have := HE.out; omega), by first | omega | (have := HE.out; omega), by first | omega | (have := HE.out; omega), by first | omega | (have := HE.out; omega)⟩⟩
  by_cases hk1 : kd = 1
  case pos =>
    subst hk1
    obtain ⟨u3, hu3⟩ : ∃ u3, u3 = u1.alloc (.cells #[.int .i64 1, .int .i64 0, .int .i64 0, .int .i64 0, .slice none 0 0, .slice none 0 0] 36) := ⟨_, rfl⟩
    have HU : Hid (u3 = _) := hu3
    obtain ⟨B, hB⟩ : ∃ B, B = u1.heap.size := ⟨_, rfl⟩
    have HBe : Hid (B = u1.heap.size) := hB
    have HB : Hid (w.heap.size + 1 < B) := by show w.heap.size + 1 < B; have := R1.lt; omega
    have C4 : Cur w0 a cap zs u3 g := by rw [hu3]; exact C1.alloc _
    have G4 : w.grownBy u3 (some g) := by rw [hu3]; exact grown_trans G1 (World.grownBy_alloc _ _ _)
    have X4 : Blk u3 w.heap.size 30 #[.int .i64 1, .int .i64 pl, .int .i64 nn, .slice a1 l1 c1, .slice a2 l2 c2, .int .i64 wa] := by rw [hu3]; exact X1.below (bel_alloc _ _)
    have R4 : Blk u3 (w.heap.size + 1) 36 #[.int .i64 0, .int .i64 0, .int .i64 0, .int .i64 0, .slice none 0 0, .slice none 0 0] := by rw [hu3]; exact R1.below (bel_alloc _ _)
    have Q4 : Blk u3 B 36 #[.int .i64 1, .int .i64 0, .int .i64 0, .int .i64 0, .slice none 0 0, .slice none 0 0] := by rw [hu3, hB]; exact Blk.new _ _ _
    clear hu3 hB
    go_upto_region 4 with fail
    rw [← HU.out]
    simp only [← HBe.out]
    clear C1 G1 X1 R1 x0 x1 x2 x3 x4 x5
    obtain ⟨x0, x1, x2, x3, x4, x5⟩ := X4.six
    obtain ⟨m, hm⟩ : ∃ m : Nat, nn = (m : Int) := ⟨nn.toNat, by have := HE.out; omega⟩
    have HM : Hid (nn = (m : Int) ∧ m ≤ 900) := ⟨hm, by have := HE.out; omega⟩
    clear hm
    go_wp2_with fail
    refine (l2Bits_at w0 a cap zs _ g _ m HM.out.1 (by have := HM.out; omega) C4).mono ?_
    rintro e t5 ⟨a', c', us, rfl, hus, oj, C5, gg⟩
    have G5 := grown_trans G4 gg
    have R5 := R4.grown gg (by have := HGR.out; simp; omega)
    have X5 := X4.grown gg (by have := HGR.out; simp; omega)
    have Q5 := Q4.grown gg (by have := HGR.out; have := HB.out; simp; omega)
    clear C4 R4 Q4 X4 gg
    have J5 := OwnB.mono oj G4.size
    have HWs : Hid (m = us.length) := hus
    clear oj hus G4 x0 x1 x2 x3 x4 x5
    have qc := Q5.cell 5 rfl
    have qf := Q5.fro 5
    have Q6 := Q5.set 5 (.slice (some a') m c')
    have R6 := R5.setNe (g' := B) (j := 5) (y := .slice (some a') m c') (by have := HB.out; omega)
    have C6 := C5.setHi (G := B) (j := 5) (y := .slice (some a') m c') (by have := HB.out; have := HGR.out; omega) (by have := HB.out; have := HGR.out; omega)
    have G6 := grown_setHi (G := B) (j := 5) (y := .slice (some a') m c') G5 (by have := HB.out; omega)
    have J6 := row_setE (j := 5) (y := .slice (some a') m c') J5 ⟨_, Q5⟩ (by decide)
    go_wp2_with fail
    obtain ⟨v6, hv6⟩ : ∃ v6, v6 = t5.setCell ⟨B, 5, none⟩ (.slice (some a') m c') := ⟨_, rfl⟩
    rw [← hv6] at Q6 R6 C6 G6 J6 ⊢
    clear hv6 qc qf Q5 R5 X5 C5 G5 J5
    go_loopw [] (fun wr => ∃ (ad : Option Addr) (n' c' : Nat) (vs : List Bool), n' = vs.length ∧ n' ≤ 8 * ((m + 7) / 8) ∧ Blk wr B 36 #[.int .i64 1, .int .i64 0, .int .i64 0, .int .i64 0, .slice none 0 0, .slice ad n' c'] ∧ OwnB wr w.heap.size (.slice ad n' c') vs ∧ Cur w0 a cap zs wr g ∧ w.grownBy wr (some g) ∧ Blk wr (w.heap.size + 1) 36 #[.int .i64 0, .int .i64 0, .int .i64 0, .int .i64 0, .slice none 0 0, .slice none 0 0]) (fun wr => (8 - lenAt wr B % 8) % 8)
    case atStart => exact ⟨some a', m, c', us, HWs.out, by omega, Q6, J6, C6, G6, R6⟩
    case round =>
      obtain ⟨ad, n', c'', vs, hn', hb, Qr, Jr, Cr, Gr, Rr⟩ := hrel
      have HV : Hid (n' = vs.length ∧ n' ≤ 8 * ((m + 7) / 8)) := ⟨hn', hb⟩
      obtain ⟨q0, q1, q2, q3, q4, q5⟩ := Qr.six
      have hnb : (n' : Int) ≤ 908 := by have := HM.out; omega
      by_cases h8 : n' % 8 = 0
      · have h8b : ((n' : Int) % 8 != 0) = false := by simp; omega
        obtain ⟨y0, y1, y2, y3, y4, y5⟩ := Rr.six
        have fy := Rr.fro
        have HH : Hid (OwnB wr w.heap.size (.slice ad n' c'') vs ∧ Cur w0 a cap zs wr g ∧ w.grownBy wr (some g) ∧ Blk wr (w.heap.size + 1) 36 #[.int .i64 0, .int .i64 0, .int .i64 0, .int .i64 0, .slice none 0 0, .slice none 0 0]) := ⟨Jr, Cr, Gr, Rr⟩
        clear Jr Cr Gr Rr Qr hn' hb Q6 R6 C6 G6 J6
        go_wp2
        refine bodyPost_ret (v := rp 1 0 0 0 none ad 0 n' 0 c'') (by simp [results, Tryz.results43, go_sem, y0, y1, y2, y3, y4, y5]) rfl ?_
        obtain ⟨OB, CE, GE, RE⟩ := HH.out
        have hgR : g ≠ w.heap.size + 1 := by have := HGR.out; omega
        have hwR : w0.heap.size ≤ w.heap.size + 1 := by have := HGR.out; omega
        exact ⟨_, _, _, _, _, _, _, _, _, _, [], vs, rfl, rfl, HV.out.1, by omega, by omega, rowp_set6 (ownI_nil _ _) ⟨_, RE⟩ (by decide), rowp_set6 OB ⟨_, RE⟩ (by decide), st6_cur CE hgR hwR, st6_grown GE (by omega), ⟨by first | omega | (have := HE.out; omega), by first | omega | (have := HE.out; omega), by first | omega | (have := HE.out; omega), by first | omega | (have := HE.out; omega)⟩⟩
      · have h8b : ((n' : Int) % 8 != 0) = true := by simp; omega
        have q := bel_alloc wr (.cells #[.bool false] 4)
        have Q7 := Qr.below q
        have R7 := Rr.below q
        have J7 := Jr.below q
        have C7 := Cr.alloc (.cells #[.bool false] 4)
        have G7 : w.grownBy (wr.alloc (.cells #[.bool false] 4)) (some g) := grown_trans Gr (World.grownBy_alloc _ _ _)
        have SL : Hid (SlB (wr.alloc (.cells #[.bool false] 4)) (some ⟨wr.heap.size, 0, none⟩) [false]) := .inr ⟨wr.heap.size, 0, rfl, by simp, fun i hi => by match i, hi with | 0, _ => simp⟩
        have HLQ : Hid (vs.length + [false].length ≤ 4000000) := by show vs.length + [false].length ≤ 4000000; have := HV.out; simp; omega
        have hl0 : Hid (lenAt wr B = n') := by show lenAt wr B = n'; unfold lenAt; rw [q5]
        clear q Qr Rr Jr Cr Gr hn' hb Q6 R6 C6 G6 J6
        obtain ⟨k0, k1, k2, k3, k4, k5⟩ := Q7.six
        go_wp2_with (at_builtin; refine wpList_appBO rfl (.tmp 40) (.tmp 41) rfl w.heap.size (.slice ad n' c'') vs rfl J7 (some ⟨wr.heap.size, 0, none⟩) 1 1 [false] rfl rfl SL.out HLQ.out G7.size ?_; intro v' w' o8 gq; have Q8 := Q7.grown gq (row_noBlk J7 Q7 (by decide)); have R8 := R7.grown gq (row_noBlk J7 R7 (by decide)); have C8 := C7.rowG J7 gq HGR.out.1; have G8 := grown_rowG G7 J7 gq; obtain ⟨ad9, c9, n9, rfl, hn9⟩ := ownB_shape o8; have HN9 : Hid (n9 = (vs ++ [false]).length) := hn9; clear hn9 gq Q7 R7 C7 G7 J7 SL k0 k1 k2 k3 k4 k5 q0 q1 q2 q3 q4 q5; have qc := Q8.cell 5 rfl; have qf := Q8.fro 5)
        go_roundw
        case rel =>
          have Q9 := Q8.set 5 (.slice ad9 n9 c9)
          refine ⟨ad9, n9, c9, vs ++ [false], HN9.out, ?_, by simpa using Q9, row_setE o8 ⟨_, Q8⟩ (by decide), C8.setHi (by have := HB.out; have := HGR.out; omega) (by have := HB.out; have := HGR.out; omega), grown_setHi G8 (by have := HB.out; omega), R8.setNe (by have := HB.out; omega)⟩
          have h9 : n9 = vs.length + 1 := by have := HN9.out; simpa using this
          have := HV.out
          omega
        case measure =>
          have Q9 : (w'.setCell ⟨B, 5, none⟩ (.slice ad9 n9 c9)).cell? ⟨B, 5, none⟩ = some (.slice ad9 n9 c9) := (Q8.set 5 (.slice ad9 n9 c9)).cell 5 (by simp)
          have e : lenAt (w'.setCell ⟨B, 5, none⟩ (.slice ad9 n9 c9)) B = n9 := by unfold lenAt; rw [Q9]
          rw [e, hl0.out]
          have h9 : n9 = vs.length + 1 := by have := HN9.out; simpa using this
          have := HV.out
          omega
  by_cases hk2 : kd = 2
  case pos =>
    subst hk2
    obtain ⟨u3, hu3⟩ : ∃ u3, u3 = u1.alloc (.cells #[.int .i64 2, .int .i64 0, .int .i64 0, .int .i64 0, .slice none 0 0, .slice none 0 0] 36) := ⟨_, rfl⟩
    have HU : Hid (u3 = _) := hu3
    obtain ⟨B, hB⟩ : ∃ B, B = u1.heap.size := ⟨_, rfl⟩
    have HBe : Hid (B = u1.heap.size) := hB
    have HB : Hid (w.heap.size + 1 < B) := by show w.heap.size + 1 < B; have := R1.lt; omega
    have C4 : Cur w0 a cap zs u3 g := by rw [hu3]; exact C1.alloc _
    have G4 : w.grownBy u3 (some g) := by rw [hu3]; exact grown_trans G1 (World.grownBy_alloc _ _ _)
    have X4 : Blk u3 w.heap.size 30 #[.int .i64 2, .int .i64 pl, .int .i64 nn, .slice a1 l1 c1, .slice a2 l2 c2, .int .i64 wa] := by rw [hu3]; exact X1.below (bel_alloc _ _)
    have R4 : Blk u3 (w.heap.size + 1) 36 #[.int .i64 0, .int .i64 0, .int .i64 0, .int .i64 0, .slice none 0 0, .slice none 0 0] := by rw [hu3]; exact R1.below (bel_alloc _ _)
    have Q4 : Blk u3 B 36 #[.int .i64 2, .int .i64 0, .int .i64 0, .int .i64 0, .slice none 0 0, .slice none 0 0] := by rw [hu3, hB]; exact Blk.new _ _ _
    clear hu3 hB
    go_upto_region 4 with fail
    rw [← HU.out]
    simp only [← HBe.out]
    clear C1 G1 X1 R1 x0 x1 x2 x3 x4 x5
    obtain ⟨x0, x1, x2, x3, x4, x5⟩ := X4.six
    obtain ⟨m, hm⟩ : ∃ m : Nat, nn = (m : Int) := ⟨nn.toNat, by have := HE.out; omega⟩
    have HM : Hid (nn = (m : Int) ∧ m ≤ 900) := ⟨hm, by have := HE.out; omega⟩
    clear hm
    go_wp2_with fail
    refine (l2Bits_at w0 a cap zs _ g _ m HM.out.1 (by have := HM.out; omega) C4).mono ?_
    rintro e t5 ⟨a', c', us, rfl, hus, oj, C5, gg⟩
    have G5 := grown_trans G4 gg
    have R5 := R4.grown gg (by have := HGR.out; simp; omega)
    have X5 := X4.grown gg (by have := HGR.out; simp; omega)
    have Q5 := Q4.grown gg (by have := HGR.out; have := HB.out; simp; omega)
    clear C4 R4 Q4 X4 gg
    have J5 := OwnB.mono oj G4.size
    have HWs : Hid (m = us.length) := hus
    clear oj hus G4 x0 x1 x2 x3 x4 x5
    have qc := Q5.cell 5 rfl
    have qf := Q5.fro 5
    have Q6 := Q5.set 5 (.slice (some a') m c')
    have R6 := R5.setNe (g' := B) (j := 5) (y := .slice (some a') m c') (by have := HB.out; omega)
    have C6 := C5.setHi (G := B) (j := 5) (y := .slice (some a') m c') (by have := HB.out; have := HGR.out; omega) (by have := HB.out; have := HGR.out; omega)
    have G6 := grown_setHi (G := B) (j := 5) (y := .slice (some a') m c') G5 (by have := HB.out; omega)
    have J6 := row_setE (j := 5) (y := .slice (some a') m c') J5 ⟨_, Q5⟩ (by decide)
    go_wp2_with fail
    obtain ⟨v6, hv6⟩ : ∃ v6, v6 = t5.setCell ⟨B, 5, none⟩ (.slice (some a') m c') := ⟨_, rfl⟩
    rw [← hv6] at Q6 R6 C6 G6 J6 ⊢
    clear hv6 qc qf Q5 R5 X5 C5 G5 J5
    go_loopw [] (fun wr => ∃ (ad : Option Addr) (n' c' : Nat) (vs : List Bool), n' = vs.length ∧ n' ≤ 8 * ((m + 7) / 8) ∧ Blk wr B 36 #[.int .i64 2, .int .i64 0, .int .i64 0, .int .i64 0, .slice none 0 0, .slice ad n' c'] ∧ OwnB wr w.heap.size (.slice ad n' c') vs ∧ Cur w0 a cap zs wr g ∧ w.grownBy wr (some g) ∧ Blk wr (w.heap.size + 1) 36 #[.int .i64 0, .int .i64 0, .int .i64 0, .int .i64 0, .slice none 0 0, .slice none 0 0]) (fun wr => (8 - lenAt wr B % 8) % 8)
    case atStart => exact ⟨some a', m, c', us, HWs.out, by omega, Q6, J6, C6, G6, R6⟩
    case round =>
      obtain ⟨ad, n', c'', vs, hn', hb, Qr, Jr, Cr, Gr, Rr⟩ := hrel
      have HV : Hid (n' = vs.length ∧ n' ≤ 8 * ((m + 7) / 8)) := ⟨hn', hb⟩
      obtain ⟨q0, q1, q2, q3, q4, q5⟩ := Qr.six
      have hnb : (n' : Int) ≤ 908 := by have := HM.out; omega
      by_cases h8 : n' % 8 = 0
      · have h8b : ((n' : Int) % 8 != 0) = false := by simp; omega
        obtain ⟨y0, y1, y2, y3, y4, y5⟩ := Rr.six
        have fy := Rr.fro
        have HH : Hid (OwnB wr w.heap.size (.slice ad n' c'') vs ∧ Cur w0 a cap zs wr g ∧ w.grownBy wr (some g) ∧ Blk wr (w.heap.size + 1) 36 #[.int .i64 0, .int .i64 0, .int .i64 0, .int .i64 0, .slice none 0 0, .slice none 0 0]) := ⟨Jr, Cr, Gr, Rr⟩
        clear Jr Cr Gr Rr Qr hn' hb Q6 R6 C6 G6 J6
        go_wp2
        refine bodyPost_ret (v := rp 2 0 0 0 none ad 0 n' 0 c'') (by simp [results, Tryz.results43, go_sem, y0, y1, y2, y3, y4, y5]) rfl ?_
        obtain ⟨OB, CE, GE, RE⟩ := HH.out
        have hgR : g ≠ w.heap.size + 1 := by have := HGR.out; omega
        have hwR : w0.heap.size ≤ w.heap.size + 1 := by have := HGR.out; omega
        exact ⟨_, _, _, _, _, _, _, _, _, _, [], vs, rfl, rfl, HV.out.1, by omega, by omega, rowp_set6 (ownI_nil _ _) ⟨_, RE⟩ (by decide), rowp_set6 OB ⟨_, RE⟩ (by decide), st6_cur CE hgR hwR, st6_grown GE (by omega), ⟨by first | omega | (have := HE.out; omega), by first | omega | (have := HE.out; omega), by first | omega | (have := HE.out; omega), by first | omega | (have := HE.out; omega)⟩⟩
      · have h8b : ((n' : Int) % 8 != 0) = true := by simp; omega
        have q := bel_alloc wr (.cells #[.bool false] 4)
        have Q7 := Qr.below q
        have R7 := Rr.below q
        have J7 := Jr.below q
        have C7 := Cr.alloc (.cells #[.bool false] 4)
        have G7 : w.grownBy (wr.alloc (.cells #[.bool false] 4)) (some g) := grown_trans Gr (World.grownBy_alloc _ _ _)
        have SL : Hid (SlB (wr.alloc (.cells #[.bool false] 4)) (some ⟨wr.heap.size, 0, none⟩) [false]) := .inr ⟨wr.heap.size, 0, rfl, by simp, fun i hi => by match i, hi with | 0, _ => simp⟩
        have HLQ : Hid (vs.length + [false].length ≤ 4000000) := by show vs.length + [false].length ≤ 4000000; have := HV.out; simp; omega
        have hl0 : Hid (lenAt wr B = n') := by show lenAt wr B = n'; unfold lenAt; rw [q5]
        clear q Qr Rr Jr Cr Gr hn' hb Q6 R6 C6 G6 J6
        obtain ⟨k0, k1, k2, k3, k4, k5⟩ := Q7.six
        go_wp2_with (at_builtin; refine wpList_appBO rfl (.tmp 40) (.tmp 41) rfl w.heap.size (.slice ad n' c'') vs rfl J7 (some ⟨wr.heap.size, 0, none⟩) 1 1 [false] rfl rfl SL.out HLQ.out G7.size ?_; intro v' w' o8 gq; have Q8 := Q7.grown gq (row_noBlk J7 Q7 (by decide)); have R8 := R7.grown gq (row_noBlk J7 R7 (by decide)); have C8 := C7.rowG J7 gq HGR.out.1; have G8 := grown_rowG G7 J7 gq; obtain ⟨ad9, c9, n9, rfl, hn9⟩ := ownB_shape o8; have HN9 : Hid (n9 = (vs ++ [false]).length) := hn9; clear hn9 gq Q7 R7 C7 G7 J7 SL k0 k1 k2 k3 k4 k5 q0 q1 q2 q3 q4 q5; have qc := Q8.cell 5 rfl; have qf := Q8.fro 5)
        go_roundw
        case rel =>
          have Q9 := Q8.set 5 (.slice ad9 n9 c9)
          refine ⟨ad9, n9, c9, vs ++ [false], HN9.out, ?_, by simpa using Q9, row_setE o8 ⟨_, Q8⟩ (by decide), C8.setHi (by have := HB.out; have := HGR.out; omega) (by have := HB.out; have := HGR.out; omega), grown_setHi G8 (by have := HB.out; omega), R8.setNe (by have := HB.out; omega)⟩
          have h9 : n9 = vs.length + 1 := by have := HN9.out; simpa using this
          have := HV.out
          omega
        case measure =>
          have Q9 : (w'.setCell ⟨B, 5, none⟩ (.slice ad9 n9 c9)).cell? ⟨B, 5, none⟩ = some (.slice ad9 n9 c9) := (Q8.set 5 (.slice ad9 n9 c9)).cell 5 (by simp)
          have e : lenAt (w'.setCell ⟨B, 5, none⟩ (.slice ad9 n9 c9)) B = n9 := by unfold lenAt; rw [Q9]
          rw [e, hl0.out]
          have h9 : n9 = vs.length + 1 := by have := HN9.out; simpa using this
          have := HV.out
          omega
  by_cases hk3 : kd = 3
  case pos =>
    subst hk3
    obtain ⟨u3, hu3⟩ : ∃ u3, u3 = u1.alloc (.cells #[.int .i64 3, .int .i64 0, .int .i64 0, .int .i64 0, .slice none 0 0, .slice none 0 0] 36) := ⟨_, rfl⟩
    have HU : Hid (u3 = _) := hu3
    obtain ⟨B, hB⟩ : ∃ B, B = u1.heap.size := ⟨_, rfl⟩
    have HBe : Hid (B = u1.heap.size) := hB
    have HB : Hid (w.heap.size + 1 < B) := by show w.heap.size + 1 < B; have := R1.lt; omega
    have C4 : Cur w0 a cap zs u3 g := by rw [hu3]; exact C1.alloc _
    have G4 : w.grownBy u3 (some g) := by rw [hu3]; exact grown_trans G1 (World.grownBy_alloc _ _ _)
    have X4 : Blk u3 w.heap.size 30 #[.int .i64 3, .int .i64 pl, .int .i64 nn, .slice a1 l1 c1, .slice a2 l2 c2, .int .i64 wa] := by rw [hu3]; exact X1.below (bel_alloc _ _)
    have R4 : Blk u3 (w.heap.size + 1) 36 #[.int .i64 0, .int .i64 0, .int .i64 0, .int .i64 0, .slice none 0 0, .slice none 0 0] := by rw [hu3]; exact R1.below (bel_alloc _ _)
    have Q4 : Blk u3 B 36 #[.int .i64 3, .int .i64 0, .int .i64 0, .int .i64 0, .slice none 0 0, .slice none 0 0] := by rw [hu3, hB]; exact Blk.new _ _ _
    clear hu3 hB
    go_upto_region 4 with fail
    rw [← HU.out]
    simp only [← HBe.out]
    clear C1 G1 X1 R1 x0 x1 x2 x3 x4 x5
    obtain ⟨x0, x1, x2, x3, x4, x5⟩ := X4.six
    obtain ⟨m, hm⟩ : ∃ m : Nat, nn = (m : Int) := ⟨nn.toNat, by have := HE.out; omega⟩
    have HM : Hid (nn = (m : Int) ∧ m ≤ 900) := ⟨hm, by have := HE.out; omega⟩
    clear hm
    go_wp2_with fail
    refine (l3List_at w0 a cap zs _ g _ m HM.out.1 (by have := HM.out; omega) C4).mono ?_
    rintro e t5 ⟨a', c', us, rfl, hus, hrg, oi, C5, gg⟩
    have G5 := grown_trans G4 gg
    have R5 := R4.grown gg (by have := HGR.out; simp; omega)
    have X5 := X4.grown gg (by have := HGR.out; simp; omega)
    have Q5 := Q4.grown gg (by have := HGR.out; have := HB.out; simp; omega)
    clear C4 R4 Q4 X4 gg
    have I5 := OwnI.mono oi G4.size
    have HWs : Hid (m = us.length) := hus
    clear oi hus hrg G4
    have qc := Q5.cell 4 rfl
    have qf := Q5.fro 4
    have Q6 := Q5.set 4 (.slice a' m c')
    have R6 := R5.setNe (g' := B) (j := 4) (y := .slice a' m c') (by have := HB.out; omega)
    have X6 := X5.setNe (g' := B) (j := 4) (y := .slice a' m c') (by have := HB.out; omega)
    have C6 := C5.setHi (G := B) (j := 4) (y := .slice a' m c') (by have := HB.out; have := HGR.out; omega) (by have := HB.out; have := HGR.out; omega)
    have G6 := grown_setHi (G := B) (j := 4) (y := .slice a' m c') G5 (by have := HB.out; omega)
    have I6 := row_setE (j := 4) (y := .slice a' m c') I5 ⟨_, Q5⟩ (by decide)
    go_upto_region 26 with fail
    obtain ⟨v6, hv6⟩ : ∃ v6, v6 = t5.setCell ⟨B, 4, none⟩ (.slice a' m c') := ⟨_, rfl⟩
    rw [← hv6] at Q6 R6 X6 C6 G6 I6 ⊢
    clear hv6 qc qf Q5 R5 X5 C5 G5 I5
    clear x0 x1 x2 x3 x4 x5
    obtain ⟨x0, x1, x2, x3, x4, x5⟩ := X6.six
    obtain ⟨q0, q1, q2, q3, q4, q5⟩ := Q6.six
    obtain ⟨y0, y1, y2, y3, y4, y5⟩ := R6.six
    have fy := R6.fro
    have OI : OwnI v6 w.heap.size (.slice a' m c') us := I6
    have OB : OwnB v6 w.heap.size (.slice none 0 0) [] := (ownB_nil _ _)
    have HH : Hid (OwnI v6 w.heap.size (.slice a' m c') us ∧ OwnB v6 w.heap.size (.slice none 0 0) [] ∧ Cur w0 a cap zs v6 g ∧ w.grownBy v6 (some g) ∧ Blk v6 (w.heap.size + 1) 36 #[.int .i64 0, .int .i64 0, .int .i64 0, .int .i64 0, .slice none 0 0, .slice none 0 0]) := ⟨OI, OB, C6, G6, R6⟩
    clear OI OB C6 G6 R6 Q6 X6 x0 x1 x2 x3 x4 x5 I6
    go_wp2
    refine bodyPost_ret (v := rp (3) (0) (0) (0) a' none m 0 c' 0) (by simp [results, Tryz.results43, go_sem, y0, y1, y2, y3, y4, y5]) rfl ?_
    obtain ⟨OI, OB, CE, GE, RE⟩ := HH.out
    have hgR : g ≠ w.heap.size + 1 := by have := HGR.out; omega
    have hwR : w0.heap.size ≤ w.heap.size + 1 := by have := HGR.out; omega
    exact ⟨_, _, _, _, _, _, _, _, _, _, us, [], rfl, HWs.out, rfl, by first | omega | (have := HM.out; omega) | (have := HE.out; have := HNN.out; omega) | (have := HE.out; omega), by first | omega | (have := HM.out; omega) | (have := HE.out; have := HNN.out; omega) | (have := HE.out; omega), rowp_set6 OI ⟨_, RE⟩ (by decide), rowp_set6 OB ⟨_, RE⟩ (by decide), st6_cur CE hgR hwR, st6_grown GE (by omega), ⟨by first | omega | (have := HE.out; omega), by first | omega | (have := HE.out; omega), by first | omega | (have := HE.out; omega), by first | omega | (have := HE.out; omega)⟩⟩
  by_cases hk4 : kd = 4
  case pos =>
    subst hk4
    obtain ⟨u3, hu3⟩ : ∃ u3, u3 = u1.alloc (.cells #[.int .i64 4, .int .i64 0, .int .i64 0, .int .i64 0, .slice none 0 0, .slice none 0 0] 36) := ⟨_, rfl⟩
    have HU : Hid (u3 = _) := hu3
    obtain ⟨B, hB⟩ : ∃ B, B = u1.heap.size := ⟨_, rfl⟩
    have HBe : Hid (B = u1.heap.size) := hB
    have HB : Hid (w.heap.size + 1 < B) := by show w.heap.size + 1 < B; have := R1.lt; omega
    have C4 : Cur w0 a cap zs u3 g := by rw [hu3]; exact C1.alloc _
    have G4 : w.grownBy u3 (some g) := by rw [hu3]; exact grown_trans G1 (World.grownBy_alloc _ _ _)
    have X4 : Blk u3 w.heap.size 30 #[.int .i64 4, .int .i64 pl, .int .i64 nn, .slice a1 l1 c1, .slice a2 l2 c2, .int .i64 wa] := by rw [hu3]; exact X1.below (bel_alloc _ _)
    have R4 : Blk u3 (w.heap.size + 1) 36 #[.int .i64 0, .int .i64 0, .int .i64 0, .int .i64 0, .slice none 0 0, .slice none 0 0] := by rw [hu3]; exact R1.below (bel_alloc _ _)
    have Q4 : Blk u3 B 36 #[.int .i64 4, .int .i64 0, .int .i64 0, .int .i64 0, .slice none 0 0, .slice none 0 0] := by rw [hu3, hB]; exact Blk.new _ _ _
    clear hu3 hB
    go_upto_region 4 with fail
    rw [← HU.out]
    simp only [← HBe.out]
    clear C1 G1 X1 R1 x0 x1 x2 x3 x4 x5
    obtain ⟨x0, x1, x2, x3, x4, x5⟩ := X4.six
    obtain ⟨m, hm⟩ : ∃ m : Nat, nn = (m : Int) := ⟨nn.toNat, by have := HE.out; omega⟩
    have HM : Hid (nn = (m : Int) ∧ m ≤ 900) := ⟨hm, by have := HE.out; omega⟩
    clear hm
    go_wp2_with fail
    refine (l3List_at w0 a cap zs _ g _ m HM.out.1 (by have := HM.out; omega) C4).mono ?_
    rintro e t5 ⟨a', c', us, rfl, hus, hrg, oi, C5, gg⟩
    have G5 := grown_trans G4 gg
    have R5 := R4.grown gg (by have := HGR.out; simp; omega)
    have X5 := X4.grown gg (by have := HGR.out; simp; omega)
    have Q5 := Q4.grown gg (by have := HGR.out; have := HB.out; simp; omega)
    clear C4 R4 Q4 X4 gg
    have I5 := OwnI.mono oi G4.size
    have HWs : Hid (m = us.length) := hus
    clear oi hus hrg G4
    have qc := Q5.cell 4 rfl
    have qf := Q5.fro 4
    have Q6 := Q5.set 4 (.slice a' m c')
    have R6 := R5.setNe (g' := B) (j := 4) (y := .slice a' m c') (by have := HB.out; omega)
    have X6 := X5.setNe (g' := B) (j := 4) (y := .slice a' m c') (by have := HB.out; omega)
    have C6 := C5.setHi (G := B) (j := 4) (y := .slice a' m c') (by have := HB.out; have := HGR.out; omega) (by have := HB.out; have := HGR.out; omega)
    have G6 := grown_setHi (G := B) (j := 4) (y := .slice a' m c') G5 (by have := HB.out; omega)
    have I6 := row_setE (j := 4) (y := .slice a' m c') I5 ⟨_, Q5⟩ (by decide)
    go_upto_region 26 with fail
    obtain ⟨v6, hv6⟩ : ∃ v6, v6 = t5.setCell ⟨B, 4, none⟩ (.slice a' m c') := ⟨_, rfl⟩
    rw [← hv6] at Q6 R6 X6 C6 G6 I6 ⊢
    clear hv6 qc qf Q5 R5 X5 C5 G5 I5
    clear x0 x1 x2 x3 x4 x5
    obtain ⟨x0, x1, x2, x3, x4, x5⟩ := X6.six
    obtain ⟨q0, q1, q2, q3, q4, q5⟩ := Q6.six
    obtain ⟨y0, y1, y2, y3, y4, y5⟩ := R6.six
    have fy := R6.fro
    have OI : OwnI v6 w.heap.size (.slice a' m c') us := I6
    have OB : OwnB v6 w.heap.size (.slice none 0 0) [] := (ownB_nil _ _)
    have HH : Hid (OwnI v6 w.heap.size (.slice a' m c') us ∧ OwnB v6 w.heap.size (.slice none 0 0) [] ∧ Cur w0 a cap zs v6 g ∧ w.grownBy v6 (some g) ∧ Blk v6 (w.heap.size + 1) 36 #[.int .i64 0, .int .i64 0, .int .i64 0, .int .i64 0, .slice none 0 0, .slice none 0 0]) := ⟨OI, OB, C6, G6, R6⟩
    clear OI OB C6 G6 R6 Q6 X6 x0 x1 x2 x3 x4 x5 I6
    go_wp2
    refine bodyPost_ret (v := rp (4) (0) (0) (0) a' none m 0 c' 0) (by simp [results, Tryz.results43, go_sem, y0, y1, y2, y3, y4, y5]) rfl ?_
    obtain ⟨OI, OB, CE, GE, RE⟩ := HH.out
    have hgR : g ≠ w.heap.size + 1 := by have := HGR.out; omega
    have hwR : w0.heap.size ≤ w.heap.size + 1 := by have := HGR.out; omega
    exact ⟨_, _, _, _, _, _, _, _, _, _, us, [], rfl, HWs.out, rfl, by first | omega | (have := HM.out; omega) | (have := HE.out; have := HNN.out; omega) | (have := HE.out; omega), by first | omega | (have := HM.out; omega) | (have := HE.out; have := HNN.out; omega) | (have := HE.out; omega), rowp_set6 OI ⟨_, RE⟩ (by decide), rowp_set6 OB ⟨_, RE⟩ (by decide), st6_cur CE hgR hwR, st6_grown GE (by omega), ⟨by first | omega | (have := HE.out; omega), by first | omega | (have := HE.out; omega), by first | omega | (have := HE.out; omega), by first | omega | (have := HE.out; omega)⟩⟩
  by_cases hk23 : kd = 23
  case pos =>
    subst hk23
    obtain ⟨u3, hu3⟩ : ∃ u3, u3 = u1.alloc (.cells #[.int .i64 23, .int .i64 0, .int .i64 0, .int .i64 0, .slice none 0 0, .slice none 0 0] 36) := ⟨_, rfl⟩
    have HU : Hid (u3 = _) := hu3
    obtain ⟨B, hB⟩ : ∃ B, B = u1.heap.size := ⟨_, rfl⟩
    have HBe : Hid (B = u1.heap.size) := hB
    have HB : Hid (w.heap.size + 1 < B) := by show w.heap.size + 1 < B; have := R1.lt; omega
    have C4 : Cur w0 a cap zs u3 g := by rw [hu3]; exact C1.alloc _
    have G4 : w.grownBy u3 (some g) := by rw [hu3]; exact grown_trans G1 (World.grownBy_alloc _ _ _)
    have X4 : Blk u3 w.heap.size 30 #[.int .i64 23, .int .i64 pl, .int .i64 nn, .slice a1 l1 c1, .slice a2 l2 c2, .int .i64 wa] := by rw [hu3]; exact X1.below (bel_alloc _ _)
    have R4 : Blk u3 (w.heap.size + 1) 36 #[.int .i64 0, .int .i64 0, .int .i64 0, .int .i64 0, .slice none 0 0, .slice none 0 0] := by rw [hu3]; exact R1.below (bel_alloc _ _)
    have Q4 : Blk u3 B 36 #[.int .i64 23, .int .i64 0, .int .i64 0, .int .i64 0, .slice none 0 0, .slice none 0 0] := by rw [hu3, hB]; exact Blk.new _ _ _
    clear hu3 hB
    go_upto_region 4 with fail
    rw [← HU.out]
    simp only [← HBe.out]
    clear C1 G1 X1 R1 x0 x1 x2 x3 x4 x5
    obtain ⟨x0, x1, x2, x3, x4, x5⟩ := X4.six
    obtain ⟨m, hm⟩ : ∃ m : Nat, nn = (m : Int) := ⟨nn.toNat, by have := HE.out; omega⟩
    have HM : Hid (nn = (m : Int) ∧ m ≤ 900) := ⟨hm, by have := HE.out; omega⟩
    clear hm
    go_wp2_with fail
    refine (l3List_at w0 a cap zs _ g _ m HM.out.1 (by have := HM.out; omega) C4).mono ?_
    rintro e t5 ⟨a', c', us, rfl, hus, hrg, oi, C5, gg⟩
    have G5 := grown_trans G4 gg
    have R5 := R4.grown gg (by have := HGR.out; simp; omega)
    have X5 := X4.grown gg (by have := HGR.out; simp; omega)
    have Q5 := Q4.grown gg (by have := HGR.out; have := HB.out; simp; omega)
    clear C4 R4 Q4 X4 gg
    have I5 := OwnI.mono oi G4.size
    have HWs : Hid (m = us.length) := hus
    clear oi hus hrg G4
    have qc := Q5.cell 4 rfl
    have qf := Q5.fro 4
    have Q6 := Q5.set 4 (.slice a' m c')
    have R6 := R5.setNe (g' := B) (j := 4) (y := .slice a' m c') (by have := HB.out; omega)
    have X6 := X5.setNe (g' := B) (j := 4) (y := .slice a' m c') (by have := HB.out; omega)
    have C6 := C5.setHi (G := B) (j := 4) (y := .slice a' m c') (by have := HB.out; have := HGR.out; omega) (by have := HB.out; have := HGR.out; omega)
    have G6 := grown_setHi (G := B) (j := 4) (y := .slice a' m c') G5 (by have := HB.out; omega)
    have I6 := row_setE (j := 4) (y := .slice a' m c') I5 ⟨_, Q5⟩ (by decide)
    go_upto_region 26 with fail
    obtain ⟨v6, hv6⟩ : ∃ v6, v6 = t5.setCell ⟨B, 4, none⟩ (.slice a' m c') := ⟨_, rfl⟩
    rw [← hv6] at Q6 R6 X6 C6 G6 I6 ⊢
    clear hv6 qc qf Q5 R5 X5 C5 G5 I5
    clear x0 x1 x2 x3 x4 x5
    obtain ⟨x0, x1, x2, x3, x4, x5⟩ := X6.six
    obtain ⟨q0, q1, q2, q3, q4, q5⟩ := Q6.six
    obtain ⟨y0, y1, y2, y3, y4, y5⟩ := R6.six
    have fy := R6.fro
    have OI : OwnI v6 w.heap.size (.slice a' m c') us := I6
    have OB : OwnB v6 w.heap.size (.slice none 0 0) [] := (ownB_nil _ _)
    have HH : Hid (OwnI v6 w.heap.size (.slice a' m c') us ∧ OwnB v6 w.heap.size (.slice none 0 0) [] ∧ Cur w0 a cap zs v6 g ∧ w.grownBy v6 (some g) ∧ Blk v6 (w.heap.size + 1) 36 #[.int .i64 0, .int .i64 0, .int .i64 0, .int .i64 0, .slice none 0 0, .slice none 0 0]) := ⟨OI, OB, C6, G6, R6⟩
    clear OI OB C6 G6 R6 Q6 X6 x0 x1 x2 x3 x4 x5 I6
    go_wp2
    refine bodyPost_ret (v := rp (23) (0) (0) (0) a' none m 0 c' 0) (by simp [results, Tryz.results43, go_sem, y0, y1, y2, y3, y4, y5]) rfl ?_
    obtain ⟨OI, OB, CE, GE, RE⟩ := HH.out
    have hgR : g ≠ w.heap.size + 1 := by have := HGR.out; omega
    have hwR : w0.heap.size ≤ w.heap.size + 1 := by have := HGR.out; omega
    exact ⟨_, _, _, _, _, _, _, _, _, _, us, [], rfl, HWs.out, rfl, by first | omega | (have := HM.out; omega) | (have := HE.out; have := HNN.out; omega) | (have := HE.out; omega), by first | omega | (have := HM.out; omega) | (have := HE.out; have := HNN.out; omega) | (have := HE.out; omega), rowp_set6 OI ⟨_, RE⟩ (by decide), rowp_set6 OB ⟨_, RE⟩ (by decide), st6_cur CE hgR hwR, st6_grown GE (by omega), ⟨by first | omega | (have := HE.out; omega), by first | omega | (have := HE.out; omega), by first | omega | (have := HE.out; omega), by first | omega | (have := HE.out; omega)⟩⟩
  by_cases hk5 : kd = 5
  case pos =>
    subst hk5
    obtain ⟨u3, hu3⟩ : ∃ u3, u3 = u1.alloc (.cells #[.int .i64 5, .int .i64 0, .int .i64 0, .int .i64 0, .slice none 0 0, .slice none 0 0] 36) := ⟨_, rfl⟩
    have HU : Hid (u3 = _) := hu3
    obtain ⟨B, hB⟩ : ∃ B, B = u1.heap.size := ⟨_, rfl⟩
    have HBe : Hid (B = u1.heap.size) := hB
    have HB : Hid (w.heap.size + 1 < B) := by show w.heap.size + 1 < B; have := R1.lt; omega
    have C4 : Cur w0 a cap zs u3 g := by rw [hu3]; exact C1.alloc _
    have G4 : w.grownBy u3 (some g) := by rw [hu3]; exact grown_trans G1 (World.grownBy_alloc _ _ _)
    have X4 : Blk u3 w.heap.size 30 #[.int .i64 5, .int .i64 pl, .int .i64 nn, .slice a1 l1 c1, .slice a2 l2 c2, .int .i64 wa] := by rw [hu3]; exact X1.below (bel_alloc _ _)
    have R4 : Blk u3 (w.heap.size + 1) 36 #[.int .i64 0, .int .i64 0, .int .i64 0, .int .i64 0, .slice none 0 0, .slice none 0 0] := by rw [hu3]; exact R1.below (bel_alloc _ _)
    have Q4 : Blk u3 B 36 #[.int .i64 5, .int .i64 0, .int .i64 0, .int .i64 0, .slice none 0 0, .slice none 0 0] := by rw [hu3, hB]; exact Blk.new _ _ _
    clear hu3 hB
    go_upto_region 4 with fail
    rw [← HU.out]
    simp only [← HBe.out]
    clear C1 G1 X1 R1 x0 x1 x2 x3 x4 x5
    obtain ⟨x0, x1, x2, x3, x4, x5⟩ := X4.six
    have qc := Q4.cell 2 rfl
    have qf := Q4.fro 2
    have Q5 := Q4.set 2 (.int .i64 pl)
    have R5 := R4.setNe (g' := B) (j := 2) (y := .int .i64 pl) (by have := HB.out; omega)
    have X5 := X4.setNe (g' := B) (j := 2) (y := .int .i64 pl) (by have := HB.out; omega)
    have C5 := C4.setHi (G := B) (j := 2) (y := .int .i64 pl) (by have := HB.out; have := HGR.out; omega) (by have := HB.out; have := HGR.out; omega)
    have G5 := grown_setHi (G := B) (j := 2) (y := .int .i64 pl) G4 (by have := HB.out; omega)
    go_upto_region 18 with fail
    obtain ⟨v5, hv5⟩ : ∃ v5, v5 = u3.setCell ⟨B, 2, none⟩ (.int .i64 pl) := ⟨_, rfl⟩
    rw [← hv5] at Q5 R5 X5 C5 G5 ⊢
    clear hv5 qc qf Q4 R4 X4 C4 G4
    clear x0 x1 x2 x3 x4 x5
    obtain ⟨x0, x1, x2, x3, x4, x5⟩ := X5.six
    have oL := newB v5 w.heap.size G5.size
    have q := bel_alloc v5 (.cells #[] 4)
    have Q20 := Q5.below q
    have R20 := R5.below q
    have X20 := X5.below q
    have C20 := C5.alloc (.cells #[] 4)
    have G20 : w.grownBy (v5.alloc (.cells #[] 4)) (some g) := grown_trans G5 (World.grownBy_alloc _ _ _)
    have oQ : OwnB (v5.alloc (.cells #[] 4)) base (.slice a2 l2 c2) bs := World.ownsRow.kept HS.out.2.1 G20 (row_ne_g HS.out.2.1 HS.out.2.2)
    have SQ := hide oQ.sl.2
    have HLQ : Hid (l2 = bs.length ∧ ([] : List Bool).length + bs.length ≤ 4000000) := by show _ ∧ _; have := HE.out; simp; omega
    have qc := Q20.cell 5 rfl
    have qf := Q20.fro 5
    clear oQ q
    obtain ⟨m0, m1, m2, m3, m4, m5⟩ := X20.six
    have hnX : ¬ w.heap.size = v5.heap.size := by have := X5.lt; omega
    have hnB : ¬ B = v5.heap.size := by have := Q5.lt; omega
    go_upto_region 26 with (at_builtin; refine wpList_appBO rfl (.tmp 58) (.tmp 60) rfl w.heap.size (.slice (some ⟨v5.heap.size, 0, none⟩) 0 0) [] rfl oL a2 l2 c2 bs rfl HLQ.out.1 SQ.out HLQ.out.2 G20.size ?_; intro v' w' o30 gq; rw [List.nil_append] at o30; have Q30 := Q20.grown gq (row_noBlk oL Q20 (by decide)); have R30 := R20.grown gq (row_noBlk oL R20 (by decide)); have X30 := X20.grown gq (row_noBlk oL X20 (by decide)); have C30 := C20.rowG oL gq HGR.out.1; have G30 := grown_rowG G20 oL gq; obtain ⟨a', c', n', rfl, hn'⟩ := ownB_shape o30; have HNN : Hid (n' = bs.length) := hn'; clear hn' gq oL Q20 R20 X20 C20 G20 qc qf SQ x0 x1 x2 x3 x4 x5 m0 m1 m2 m3 m4 m5 hnX hnB; have qc := Q30.cell 5 rfl; have qf := Q30.fro 5)
    have Q31 := Q30.set 5 (.slice a' n' c')
    have R31 := R30.setNe (g' := B) (j := 5) (y := .slice a' n' c') (by have := HB.out; omega)
    have X31 := X30.setNe (g' := B) (j := 5) (y := .slice a' n' c') (by have := HB.out; omega)
    have C31 := C30.setHi (G := B) (j := 5) (y := .slice a' n' c') (by have := HB.out; have := HGR.out; omega) (by have := HB.out; have := HGR.out; omega)
    have G31 := grown_setHi (G := B) (j := 5) (y := .slice a' n' c') G30 (by have := HB.out; omega)
    have J31 := row_setE (j := 5) (y := .slice a' n' c') o30 ⟨_, Q30⟩ (by decide)
    obtain ⟨v31, hv31⟩ : ∃ v31, v31 = w'.setCell ⟨B, 5, none⟩ (.slice a' n' c') := ⟨_, rfl⟩
    rw [← hv31] at Q31 R31 X31 C31 G31 J31 ⊢
    clear hv31 qc qf Q30 R30 X30 C30 G30 o30
    obtain ⟨x0, x1, x2, x3, x4, x5⟩ := X31.six
    obtain ⟨q0, q1, q2, q3, q4, q5⟩ := Q31.six
    obtain ⟨y0, y1, y2, y3, y4, y5⟩ := R31.six
    have fy := R31.fro
    have OI : OwnI v31 w.heap.size (.slice none 0 0) [] := (ownI_nil _ _)
    have OB : OwnB v31 w.heap.size (.slice a' n' c') bs := J31
    have HH : Hid (OwnI v31 w.heap.size (.slice none 0 0) [] ∧ OwnB v31 w.heap.size (.slice a' n' c') bs ∧ Cur w0 a cap zs v31 g ∧ w.grownBy v31 (some g) ∧ Blk v31 (w.heap.size + 1) 36 #[.int .i64 0, .int .i64 0, .int .i64 0, .int .i64 0, .slice none 0 0, .slice none 0 0]) := ⟨OI, OB, C31, G31, R31⟩
    clear OI OB C31 G31 R31 Q31 X31 x0 x1 x2 x3 x4 x5 J31
    go_wp2
    refine bodyPost_ret (v := rp (5) (0) (pl) (0) none a' 0 n' 0 c') (by simp [results, Tryz.results43, go_sem, y0, y1, y2, y3, y4, y5]) rfl ?_
    obtain ⟨OI, OB, CE, GE, RE⟩ := HH.out
    have hgR : g ≠ w.heap.size + 1 := by have := HGR.out; omega
    have hwR : w0.heap.size ≤ w.heap.size + 1 := by have := HGR.out; omega
    exact ⟨_, _, _, _, _, _, _, _, _, _, [], bs, rfl, rfl, HNN.out, by first | omega | (have := HM.out; omega) | (have := HE.out; have := HNN.out; omega) | (have := HE.out; omega), by first | omega | (have := HM.out; omega) | (have := HE.out; have := HNN.out; omega) | (have := HE.out; omega), rowp_set6 OI ⟨_, RE⟩ (by decide), rowp_set6 OB ⟨_, RE⟩ (by decide), st6_cur CE hgR hwR, st6_grown GE (by omega), ⟨by first | omega | (have := HE.out; omega), by first | omega | (have := HE.out; omega), by first | omega | (have := HE.out; omega), by first | omega | (have := HE.out; omega)⟩⟩
  by_cases hk6 : kd = 6
  case pos =>
    subst hk6
    obtain ⟨u3, hu3⟩ : ∃ u3, u3 = u1.alloc (.cells #[.int .i64 6, .int .i64 0, .int .i64 0, .int .i64 0, .slice none 0 0, .slice none 0 0] 36) := ⟨_, rfl⟩
    have HU : Hid (u3 = _) := hu3
    obtain ⟨B, hB⟩ : ∃ B, B = u1.heap.size := ⟨_, rfl⟩
    have HBe : Hid (B = u1.heap.size) := hB
    have HB : Hid (w.heap.size + 1 < B) := by show w.heap.size + 1 < B; have := R1.lt; omega
    have C4 : Cur w0 a cap zs u3 g := by rw [hu3]; exact C1.alloc _
    have G4 : w.grownBy u3 (some g) := by rw [hu3]; exact grown_trans G1 (World.grownBy_alloc _ _ _)
    have X4 : Blk u3 w.heap.size 30 #[.int .i64 6, .int .i64 pl, .int .i64 nn, .slice a1 l1 c1, .slice a2 l2 c2, .int .i64 wa] := by rw [hu3]; exact X1.below (bel_alloc _ _)
    have R4 : Blk u3 (w.heap.size + 1) 36 #[.int .i64 0, .int .i64 0, .int .i64 0, .int .i64 0, .slice none 0 0, .slice none 0 0] := by rw [hu3]; exact R1.below (bel_alloc _ _)
    have Q4 : Blk u3 B 36 #[.int .i64 6, .int .i64 0, .int .i64 0, .int .i64 0, .slice none 0 0, .slice none 0 0] := by rw [hu3, hB]; exact Blk.new _ _ _
    clear hu3 hB
    go_upto_region 4 with fail
    rw [← HU.out]
    simp only [← HBe.out]
    clear C1 G1 X1 R1 x0 x1 x2 x3 x4 x5
    obtain ⟨x0, x1, x2, x3, x4, x5⟩ := X4.six
    have qc := Q4.cell 2 rfl
    have qf := Q4.fro 2
    have Q5 := Q4.set 2 (.int .i64 pl)
    have R5 := R4.setNe (g' := B) (j := 2) (y := .int .i64 pl) (by have := HB.out; omega)
    have X5 := X4.setNe (g' := B) (j := 2) (y := .int .i64 pl) (by have := HB.out; omega)
    have C5 := C4.setHi (G := B) (j := 2) (y := .int .i64 pl) (by have := HB.out; have := HGR.out; omega) (by have := HB.out; have := HGR.out; omega)
    have G5 := grown_setHi (G := B) (j := 2) (y := .int .i64 pl) G4 (by have := HB.out; omega)
    go_upto_region 22 with fail
    obtain ⟨v5, hv5⟩ : ∃ v5, v5 = u3.setCell ⟨B, 2, none⟩ (.int .i64 pl) := ⟨_, rfl⟩
    rw [← hv5] at Q5 R5 X5 C5 G5 ⊢
    clear hv5 qc qf Q4 R4 X4 C4 G4
    clear x0 x1 x2 x3 x4 x5
    obtain ⟨x0, x1, x2, x3, x4, x5⟩ := X5.six
    have oL := newI v5 w.heap.size G5.size
    have q := bel_alloc v5 (.cells #[] 3)
    have Q20 := Q5.below q
    have R20 := R5.below q
    have X20 := X5.below q
    have C20 := C5.alloc (.cells #[] 3)
    have G20 : w.grownBy (v5.alloc (.cells #[] 3)) (some g) := grown_trans G5 (World.grownBy_alloc _ _ _)
    have oQ : OwnI (v5.alloc (.cells #[] 3)) base (.slice a1 l1 c1) ws := World.ownsRow.kept HS.out.1 G20 (row_ne_g HS.out.1 HS.out.2.2)
    have SQ := hide oQ.sl.2
    have HLQ : Hid (l1 = ws.length ∧ ([] : List Int).length + ws.length ≤ 4000000) := by show _ ∧ _; have := HE.out; simp; omega
    have qc := Q20.cell 4 rfl
    have qf := Q20.fro 4
    clear oQ q
    obtain ⟨m0, m1, m2, m3, m4, m5⟩ := X20.six
    have hnX : ¬ w.heap.size = v5.heap.size := by have := X5.lt; omega
    have hnB : ¬ B = v5.heap.size := by have := Q5.lt; omega
    go_upto_region 26 with (at_builtin; refine wpList_appIO rfl (.tmp 69) (.tmp 71) rfl w.heap.size (.slice (some ⟨v5.heap.size, 0, none⟩) 0 0) [] rfl oL a1 l1 c1 ws rfl HLQ.out.1 SQ.out HLQ.out.2 G20.size ?_; intro v' w' o30 gq; rw [List.nil_append] at o30; have Q30 := Q20.grown gq (row_noBlk oL Q20 (by decide)); have R30 := R20.grown gq (row_noBlk oL R20 (by decide)); have X30 := X20.grown gq (row_noBlk oL X20 (by decide)); have C30 := C20.rowG oL gq HGR.out.1; have G30 := grown_rowG G20 oL gq; obtain ⟨a', c', n', rfl, hn'⟩ := ownI_shape o30; have HNN : Hid (n' = ws.length) := hn'; clear hn' gq oL Q20 R20 X20 C20 G20 qc qf SQ x0 x1 x2 x3 x4 x5 m0 m1 m2 m3 m4 m5 hnX hnB; have qc := Q30.cell 4 rfl; have qf := Q30.fro 4)
    have Q31 := Q30.set 4 (.slice a' n' c')
    have R31 := R30.setNe (g' := B) (j := 4) (y := .slice a' n' c') (by have := HB.out; omega)
    have X31 := X30.setNe (g' := B) (j := 4) (y := .slice a' n' c') (by have := HB.out; omega)
    have C31 := C30.setHi (G := B) (j := 4) (y := .slice a' n' c') (by have := HB.out; have := HGR.out; omega) (by have := HB.out; have := HGR.out; omega)
    have G31 := grown_setHi (G := B) (j := 4) (y := .slice a' n' c') G30 (by have := HB.out; omega)
    have I31 := row_setE (j := 4) (y := .slice a' n' c') o30 ⟨_, Q30⟩ (by decide)
    obtain ⟨v31, hv31⟩ : ∃ v31, v31 = w'.setCell ⟨B, 4, none⟩ (.slice a' n' c') := ⟨_, rfl⟩
    rw [← hv31] at Q31 R31 X31 C31 G31 I31 ⊢
    clear hv31 qc qf Q30 R30 X30 C30 G30 o30
    obtain ⟨x0, x1, x2, x3, x4, x5⟩ := X31.six
    obtain ⟨q0, q1, q2, q3, q4, q5⟩ := Q31.six
    obtain ⟨y0, y1, y2, y3, y4, y5⟩ := R31.six
    have fy := R31.fro
    have OI : OwnI v31 w.heap.size (.slice a' n' c') ws := I31
    have OB : OwnB v31 w.heap.size (.slice none 0 0) [] := (ownB_nil _ _)
    have HH : Hid (OwnI v31 w.heap.size (.slice a' n' c') ws ∧ OwnB v31 w.heap.size (.slice none 0 0) [] ∧ Cur w0 a cap zs v31 g ∧ w.grownBy v31 (some g) ∧ Blk v31 (w.heap.size + 1) 36 #[.int .i64 0, .int .i64 0, .int .i64 0, .int .i64 0, .slice none 0 0, .slice none 0 0]) := ⟨OI, OB, C31, G31, R31⟩
    clear OI OB C31 G31 R31 Q31 X31 x0 x1 x2 x3 x4 x5 I31
    go_wp2
    refine bodyPost_ret (v := rp (6) (0) (pl) (0) a' none n' 0 c' 0) (by simp [results, Tryz.results43, go_sem, y0, y1, y2, y3, y4, y5]) rfl ?_
    obtain ⟨OI, OB, CE, GE, RE⟩ := HH.out
    have hgR : g ≠ w.heap.size + 1 := by have := HGR.out; omega
    have hwR : w0.heap.size ≤ w.heap.size + 1 := by have := HGR.out; omega
    exact ⟨_, _, _, _, _, _, _, _, _, _, ws, [], rfl, HNN.out, rfl, by first | omega | (have := HM.out; omega) | (have := HE.out; have := HNN.out; omega) | (have := HE.out; omega), by first | omega | (have := HM.out; omega) | (have := HE.out; have := HNN.out; omega) | (have := HE.out; omega), rowp_set6 OI ⟨_, RE⟩ (by decide), rowp_set6 OB ⟨_, RE⟩ (by decide), st6_cur CE hgR hwR, st6_grown GE (by omega), ⟨by first | omega | (have := HE.out; omega), by first | omega | (have := HE.out; omega), by first | omega | (have := HE.out; omega), by first | omega | (have := HE.out; omega)⟩⟩
  by_cases hk22 : kd = 22
  case pos =>
    subst hk22
    obtain ⟨u3, hu3⟩ : ∃ u3, u3 = u1.alloc (.cells #[.int .i64 22, .int .i64 0, .int .i64 0, .int .i64 0, .slice none 0 0, .slice none 0 0] 36) := ⟨_, rfl⟩
    have HU : Hid (u3 = _) := hu3
    obtain ⟨B, hB⟩ : ∃ B, B = u1.heap.size := ⟨_, rfl⟩
    have HBe : Hid (B = u1.heap.size) := hB
    have HB : Hid (w.heap.size + 1 < B) := by show w.heap.size + 1 < B; have := R1.lt; omega
    have C4 : Cur w0 a cap zs u3 g := by rw [hu3]; exact C1.alloc _
    have G4 : w.grownBy u3 (some g) := by rw [hu3]; exact grown_trans G1 (World.grownBy_alloc _ _ _)
    have X4 : Blk u3 w.heap.size 30 #[.int .i64 22, .int .i64 pl, .int .i64 nn, .slice a1 l1 c1, .slice a2 l2 c2, .int .i64 wa] := by rw [hu3]; exact X1.below (bel_alloc _ _)
    have R4 : Blk u3 (w.heap.size + 1) 36 #[.int .i64 0, .int .i64 0, .int .i64 0, .int .i64 0, .slice none 0 0, .slice none 0 0] := by rw [hu3]; exact R1.below (bel_alloc _ _)
    have Q4 : Blk u3 B 36 #[.int .i64 22, .int .i64 0, .int .i64 0, .int .i64 0, .slice none 0 0, .slice none 0 0] := by rw [hu3, hB]; exact Blk.new _ _ _
    clear hu3 hB
    go_upto_region 4 with fail
    rw [← HU.out]
    simp only [← HBe.out]
    clear C1 G1 X1 R1 x0 x1 x2 x3 x4 x5
    obtain ⟨x0, x1, x2, x3, x4, x5⟩ := X4.six
    have qc := Q4.cell 2 rfl
    have qf := Q4.fro 2
    have Q5 := Q4.set 2 (.int .i64 pl)
    have R5 := R4.setNe (g' := B) (j := 2) (y := .int .i64 pl) (by have := HB.out; omega)
    have X5 := X4.setNe (g' := B) (j := 2) (y := .int .i64 pl) (by have := HB.out; omega)
    have C5 := C4.setHi (G := B) (j := 2) (y := .int .i64 pl) (by have := HB.out; have := HGR.out; omega) (by have := HB.out; have := HGR.out; omega)
    have G5 := grown_setHi (G := B) (j := 2) (y := .int .i64 pl) G4 (by have := HB.out; omega)
    go_upto_region 22 with fail
    obtain ⟨v5, hv5⟩ : ∃ v5, v5 = u3.setCell ⟨B, 2, none⟩ (.int .i64 pl) := ⟨_, rfl⟩
    rw [← hv5] at Q5 R5 X5 C5 G5 ⊢
    clear hv5 qc qf Q4 R4 X4 C4 G4
    clear x0 x1 x2 x3 x4 x5
    obtain ⟨x0, x1, x2, x3, x4, x5⟩ := X5.six
    have oL := newI v5 w.heap.size G5.size
    have q := bel_alloc v5 (.cells #[] 3)
    have Q20 := Q5.below q
    have R20 := R5.below q
    have X20 := X5.below q
    have C20 := C5.alloc (.cells #[] 3)
    have G20 : w.grownBy (v5.alloc (.cells #[] 3)) (some g) := grown_trans G5 (World.grownBy_alloc _ _ _)
    have oQ : OwnI (v5.alloc (.cells #[] 3)) base (.slice a1 l1 c1) ws := World.ownsRow.kept HS.out.1 G20 (row_ne_g HS.out.1 HS.out.2.2)
    have SQ := hide oQ.sl.2
    have HLQ : Hid (l1 = ws.length ∧ ([] : List Int).length + ws.length ≤ 4000000) := by show _ ∧ _; have := HE.out; simp; omega
    have qc := Q20.cell 4 rfl
    have qf := Q20.fro 4
    clear oQ q
    obtain ⟨m0, m1, m2, m3, m4, m5⟩ := X20.six
    have hnX : ¬ w.heap.size = v5.heap.size := by have := X5.lt; omega
    have hnB : ¬ B = v5.heap.size := by have := Q5.lt; omega
    go_upto_region 26 with (at_builtin; refine wpList_appIO rfl (.tmp 69) (.tmp 71) rfl w.heap.size (.slice (some ⟨v5.heap.size, 0, none⟩) 0 0) [] rfl oL a1 l1 c1 ws rfl HLQ.out.1 SQ.out HLQ.out.2 G20.size ?_; intro v' w' o30 gq; rw [List.nil_append] at o30; have Q30 := Q20.grown gq (row_noBlk oL Q20 (by decide)); have R30 := R20.grown gq (row_noBlk oL R20 (by decide)); have X30 := X20.grown gq (row_noBlk oL X20 (by decide)); have C30 := C20.rowG oL gq HGR.out.1; have G30 := grown_rowG G20 oL gq; obtain ⟨a', c', n', rfl, hn'⟩ := ownI_shape o30; have HNN : Hid (n' = ws.length) := hn'; clear hn' gq oL Q20 R20 X20 C20 G20 qc qf SQ x0 x1 x2 x3 x4 x5 m0 m1 m2 m3 m4 m5 hnX hnB; have qc := Q30.cell 4 rfl; have qf := Q30.fro 4)
    have Q31 := Q30.set 4 (.slice a' n' c')
    have R31 := R30.setNe (g' := B) (j := 4) (y := .slice a' n' c') (by have := HB.out; omega)
    have X31 := X30.setNe (g' := B) (j := 4) (y := .slice a' n' c') (by have := HB.out; omega)
    have C31 := C30.setHi (G := B) (j := 4) (y := .slice a' n' c') (by have := HB.out; have := HGR.out; omega) (by have := HB.out; have := HGR.out; omega)
    have G31 := grown_setHi (G := B) (j := 4) (y := .slice a' n' c') G30 (by have := HB.out; omega)
    have I31 := row_setE (j := 4) (y := .slice a' n' c') o30 ⟨_, Q30⟩ (by decide)
    obtain ⟨v31, hv31⟩ : ∃ v31, v31 = w'.setCell ⟨B, 4, none⟩ (.slice a' n' c') := ⟨_, rfl⟩
    rw [← hv31] at Q31 R31 X31 C31 G31 I31 ⊢
    clear hv31 qc qf Q30 R30 X30 C30 G30 o30
    obtain ⟨x0, x1, x2, x3, x4, x5⟩ := X31.six
    obtain ⟨q0, q1, q2, q3, q4, q5⟩ := Q31.six
    obtain ⟨y0, y1, y2, y3, y4, y5⟩ := R31.six
    have fy := R31.fro
    have OI : OwnI v31 w.heap.size (.slice a' n' c') ws := I31
    have OB : OwnB v31 w.heap.size (.slice none 0 0) [] := (ownB_nil _ _)
    have HH : Hid (OwnI v31 w.heap.size (.slice a' n' c') ws ∧ OwnB v31 w.heap.size (.slice none 0 0) [] ∧ Cur w0 a cap zs v31 g ∧ w.grownBy v31 (some g) ∧ Blk v31 (w.heap.size + 1) 36 #[.int .i64 0, .int .i64 0, .int .i64 0, .int .i64 0, .slice none 0 0, .slice none 0 0]) := ⟨OI, OB, C31, G31, R31⟩
    clear OI OB C31 G31 R31 Q31 X31 x0 x1 x2 x3 x4 x5 I31
    go_wp2
    refine bodyPost_ret (v := rp (22) (0) (pl) (0) a' none n' 0 c' 0) (by simp [results, Tryz.results43, go_sem, y0, y1, y2, y3, y4, y5]) rfl ?_
    obtain ⟨OI, OB, CE, GE, RE⟩ := HH.out
    have hgR : g ≠ w.heap.size + 1 := by have := HGR.out; omega
    have hwR : w0.heap.size ≤ w.heap.size + 1 := by have := HGR.out; omega
    exact ⟨_, _, _, _, _, _, _, _, _, _, ws, [], rfl, HNN.out, rfl, by first | omega | (have := HM.out; omega) | (have := HE.out; have := HNN.out; omega) | (have := HE.out; omega), by first | omega | (have := HM.out; omega) | (have := HE.out; have := HNN.out; omega) | (have := HE.out; omega), rowp_set6 OI ⟨_, RE⟩ (by decide), rowp_set6 OB ⟨_, RE⟩ (by decide), st6_cur CE hgR hwR, st6_grown GE (by omega), ⟨by first | omega | (have := HE.out; omega), by first | omega | (have := HE.out; omega), by first | omega | (have := HE.out; omega), by first | omega | (have := HE.out; omega)⟩⟩
  by_cases hk15 : kd = 15
  case pos =>
    subst hk15
    obtain ⟨u3, hu3⟩ : ∃ u3, u3 = u1.alloc (.cells #[.int .i64 15, .int .i64 0, .int .i64 0, .int .i64 0, .slice none 0 0, .slice none 0 0] 36) := ⟨_, rfl⟩
    have HU : Hid (u3 = _) := hu3
    obtain ⟨B, hB⟩ : ∃ B, B = u1.heap.size := ⟨_, rfl⟩
    have HBe : Hid (B = u1.heap.size) := hB
    have HB : Hid (w.heap.size + 1 < B) := by show w.heap.size + 1 < B; have := R1.lt; omega
    have C4 : Cur w0 a cap zs u3 g := by rw [hu3]; exact C1.alloc _
    have G4 : w.grownBy u3 (some g) := by rw [hu3]; exact grown_trans G1 (World.grownBy_alloc _ _ _)
    have X4 : Blk u3 w.heap.size 30 #[.int .i64 15, .int .i64 pl, .int .i64 nn, .slice a1 l1 c1, .slice a2 l2 c2, .int .i64 wa] := by rw [hu3]; exact X1.below (bel_alloc _ _)
    have R4 : Blk u3 (w.heap.size + 1) 36 #[.int .i64 0, .int .i64 0, .int .i64 0, .int .i64 0, .slice none 0 0, .slice none 0 0] := by rw [hu3]; exact R1.below (bel_alloc _ _)
    have Q4 : Blk u3 B 36 #[.int .i64 15, .int .i64 0, .int .i64 0, .int .i64 0, .slice none 0 0, .slice none 0 0] := by rw [hu3, hB]; exact Blk.new _ _ _
    clear hu3 hB
    go_upto_region 4 with fail
    rw [← HU.out]
    simp only [← HBe.out]
    clear C1 G1 X1 R1 x0 x1 x2 x3 x4 x5
    obtain ⟨x0, x1, x2, x3, x4, x5⟩ := X4.six
    have qc := Q4.cell 2 rfl
    have qf := Q4.fro 2
    have Q5 := Q4.set 2 (.int .i64 pl)
    have R5 := R4.setNe (g' := B) (j := 2) (y := .int .i64 pl) (by have := HB.out; omega)
    have X5 := X4.setNe (g' := B) (j := 2) (y := .int .i64 pl) (by have := HB.out; omega)
    have C5 := C4.setHi (G := B) (j := 2) (y := .int .i64 pl) (by have := HB.out; have := HGR.out; omega) (by have := HB.out; have := HGR.out; omega)
    have G5 := grown_setHi (G := B) (j := 2) (y := .int .i64 pl) G4 (by have := HB.out; omega)
    go_upto_region 25 with fail
    obtain ⟨v5, hv5⟩ : ∃ v5, v5 = u3.setCell ⟨B, 2, none⟩ (.int .i64 pl) := ⟨_, rfl⟩
    rw [← hv5] at Q5 R5 X5 C5 G5 ⊢
    clear hv5 qc qf Q4 R4 X4 C4 G4
    clear x0 x1 x2 x3 x4 x5
    obtain ⟨x0, x1, x2, x3, x4, x5⟩ := X5.six
    have qc := Q5.cell 3 rfl
    have qf := Q5.fro 3
    have Q6 := Q5.set 3 (.int .i64 (l2 : Int))
    have R6 := R5.setNe (g' := B) (j := 3) (y := .int .i64 (l2 : Int)) (by have := HB.out; omega)
    have X6 := X5.setNe (g' := B) (j := 3) (y := .int .i64 (l2 : Int)) (by have := HB.out; omega)
    have C6 := C5.setHi (G := B) (j := 3) (y := .int .i64 (l2 : Int)) (by have := HB.out; have := HGR.out; omega) (by have := HB.out; have := HGR.out; omega)
    have G6 := grown_setHi (G := B) (j := 3) (y := .int .i64 (l2 : Int)) G5 (by have := HB.out; omega)
    go_upto_region 26 with fail
    obtain ⟨v6, hv6⟩ : ∃ v6, v6 = v5.setCell ⟨B, 3, none⟩ (.int .i64 (l2 : Int)) := ⟨_, rfl⟩
    rw [← hv6] at Q6 R6 X6 C6 G6 ⊢
    clear hv6 qc qf Q5 R5 X5 C5 G5
    clear x0 x1 x2 x3 x4 x5
    obtain ⟨x0, x1, x2, x3, x4, x5⟩ := X6.six
    obtain ⟨q0, q1, q2, q3, q4, q5⟩ := Q6.six
    obtain ⟨y0, y1, y2, y3, y4, y5⟩ := R6.six
    have fy := R6.fro
    have OI : OwnI v6 w.heap.size (.slice none 0 0) [] := (ownI_nil _ _)
    have OB : OwnB v6 w.heap.size (.slice none 0 0) [] := (ownB_nil _ _)
    have HH : Hid (OwnI v6 w.heap.size (.slice none 0 0) [] ∧ OwnB v6 w.heap.size (.slice none 0 0) [] ∧ Cur w0 a cap zs v6 g ∧ w.grownBy v6 (some g) ∧ Blk v6 (w.heap.size + 1) 36 #[.int .i64 0, .int .i64 0, .int .i64 0, .int .i64 0, .slice none 0 0, .slice none 0 0]) := ⟨OI, OB, C6, G6, R6⟩
    clear OI OB C6 G6 R6 Q6 X6 x0 x1 x2 x3 x4 x5
    go_wp2
    refine bodyPost_ret (v := rp (15) (0) (pl) ((l2 : Int)) none none 0 0 0 0) (by simp [results, Tryz.results43, go_sem, y0, y1, y2, y3, y4, y5]) rfl ?_
    obtain ⟨OI, OB, CE, GE, RE⟩ := HH.out
    have hgR : g ≠ w.heap.size + 1 := by have := HGR.out; omega
    have hwR : w0.heap.size ≤ w.heap.size + 1 := by have := HGR.out; omega
    exact ⟨_, _, _, _, _, _, _, _, _, _, [], [], rfl, rfl, rfl, by first | omega | (have := HM.out; omega) | (have := HE.out; have := HNN.out; omega) | (have := HE.out; omega), by first | omega | (have := HM.out; omega) | (have := HE.out; have := HNN.out; omega) | (have := HE.out; omega), rowp_set6 OI ⟨_, RE⟩ (by decide), rowp_set6 OB ⟨_, RE⟩ (by decide), st6_cur CE hgR hwR, st6_grown GE (by omega), ⟨by first | omega | (have := HE.out; omega), by first | omega | (have := HE.out; omega), by first | omega | (have := HE.out; omega), by first | omega | (have := HE.out; omega)⟩⟩
  have hb1 : (kd == 1) = false := by simpa using hk1
  have hb2 : (kd == 2) = false := by simpa using hk2
  have hb3 : (kd == 3) = false := by simpa using hk3
  have hb4 : (kd == 4) = false := by simpa using hk4
  have hb23 : (kd == 23) = false := by simpa using hk23
  have hb5 : (kd == 5) = false := by simpa using hk5
  have hb6 : (kd == 6) = false := by simpa using hk6
  have hb22 : (kd == 22) = false := by simpa using hk22
  have hb15 : (kd == 15) = false := by simpa using hk15
  obtain ⟨u3, hu3⟩ : ∃ u3, u3 = u1.alloc (.cells #[.int .i64 kd, .int .i64 0, .int .i64 0, .int .i64 0, .slice none 0 0, .slice none 0 0] 36) := ⟨_, rfl⟩
  have HU : Hid (u3 = _) := hu3
  obtain ⟨B, hB⟩ : ∃ B, B = u1.heap.size := ⟨_, rfl⟩
  have HBe : Hid (B = u1.heap.size) := hB
  have HB : Hid (w.heap.size + 1 < B) := by show w.heap.size + 1 < B; have := R1.lt; omega
  have C4 : Cur w0 a cap zs u3 g := by rw [hu3]; exact C1.alloc _
  have G4 : w.grownBy u3 (some g) := by rw [hu3]; exact grown_trans G1 (World.grownBy_alloc _ _ _)
  have X4 : Blk u3 w.heap.size 30 #[.int .i64 kd, .int .i64 pl, .int .i64 nn, .slice a1 l1 c1, .slice a2 l2 c2, .int .i64 wa] := by rw [hu3]; exact X1.below (bel_alloc _ _)
  have R4 : Blk u3 (w.heap.size + 1) 36 #[.int .i64 0, .int .i64 0, .int .i64 0, .int .i64 0, .slice none 0 0, .slice none 0 0] := by rw [hu3]; exact R1.below (bel_alloc _ _)
  have Q4 : Blk u3 B 36 #[.int .i64 kd, .int .i64 0, .int .i64 0, .int .i64 0, .slice none 0 0, .slice none 0 0] := by rw [hu3, hB]; exact Blk.new _ _ _
  clear hu3 hB
  go_upto_region 4 with fail
  rw [← HU.out]
  simp only [← HBe.out]
  clear C1 G1 X1 R1 x0 x1 x2 x3 x4 x5
  obtain ⟨x0, x1, x2, x3, x4, x5⟩ := X4.six
  have qc := Q4.cell 2 rfl
  have qf := Q4.fro 2
  have Q5 := Q4.set 2 (.int .i64 pl)
  have R5 := R4.setNe (g' := B) (j := 2) (y := .int .i64 pl) (by have := HB.out; omega)
  have X5 := X4.setNe (g' := B) (j := 2) (y := .int .i64 pl) (by have := HB.out; omega)
  have C5 := C4.setHi (G := B) (j := 2) (y := .int .i64 pl) (by have := HB.out; have := HGR.out; omega) (by have := HB.out; have := HGR.out; omega)
  have G5 := grown_setHi (G := B) (j := 2) (y := .int .i64 pl) G4 (by have := HB.out; omega)
  go_upto_region 6 with fail
  obtain ⟨v5, hv5⟩ : ∃ v5, v5 = u3.setCell ⟨B, 2, none⟩ (.int .i64 pl) := ⟨_, rfl⟩
  rw [← hv5] at Q5 R5 X5 C5 G5 ⊢
  clear hv5 qc qf Q4 R4 X4 C4 G4
  clear x0 x1 x2 x3 x4 x5
  obtain ⟨x0, x1, x2, x3, x4, x5⟩ := X5.six
  have qc := Q5.cell 3 rfl
  have qf := Q5.fro 3
  have Q6 := Q5.set 3 (.int .i64 (l1 : Int))
  have R6 := R5.setNe (g' := B) (j := 3) (y := .int .i64 (l1 : Int)) (by have := HB.out; omega)
  have X6 := X5.setNe (g' := B) (j := 3) (y := .int .i64 (l1 : Int)) (by have := HB.out; omega)
  have C6 := C5.setHi (G := B) (j := 3) (y := .int .i64 (l1 : Int)) (by have := HB.out; have := HGR.out; omega) (by have := HB.out; have := HGR.out; omega)
  have G6 := grown_setHi (G := B) (j := 3) (y := .int .i64 (l1 : Int)) G5 (by have := HB.out; omega)
  go_upto_region 26 with fail
  obtain ⟨v6, hv6⟩ : ∃ v6, v6 = v5.setCell ⟨B, 3, none⟩ (.int .i64 (l1 : Int)) := ⟨_, rfl⟩
  rw [← hv6] at Q6 R6 X6 C6 G6 ⊢
  clear hv6 qc qf Q5 R5 X5 C5 G5
  clear x0 x1 x2 x3 x4 x5
  obtain ⟨x0, x1, x2, x3, x4, x5⟩ := X6.six
  obtain ⟨q0, q1, q2, q3, q4, q5⟩ := Q6.six
  obtain ⟨y0, y1, y2, y3, y4, y5⟩ := R6.six
  have fy := R6.fro
  have OI : OwnI v6 w.heap.size (.slice none 0 0) [] := (ownI_nil _ _)
  have OB : OwnB v6 w.heap.size (.slice none 0 0) [] := (ownB_nil _ _)
  have HH : Hid (OwnI v6 w.heap.size (.slice none 0 0) [] ∧ OwnB v6 w.heap.size (.slice none 0 0) [] ∧ Cur w0 a cap zs v6 g ∧ w.grownBy v6 (some g) ∧ Blk v6 (w.heap.size + 1) 36 #[.int .i64 0, .int .i64 0, .int .i64 0, .int .i64 0, .slice none 0 0, .slice none 0 0]) := ⟨OI, OB, C6, G6, R6⟩
  clear OI OB C6 G6 R6 Q6 X6 x0 x1 x2 x3 x4 x5
  go_wp2
  refine bodyPost_ret (v := rp (kd) (0) (pl) ((l1 : Int)) none none 0 0 0 0) (by simp [results, Tryz.results43, go_sem, y0, y1, y2, y3, y4, y5]) rfl ?_
  obtain ⟨OI, OB, CE, GE, RE⟩ := HH.out
  have hgR : g ≠ w.heap.size + 1 := by have := HGR.out; omega
  have hwR : w0.heap.size ≤ w.heap.size + 1 := by have := HGR.out; omega
  exact ⟨_, _, _, _, _, _, _, _, _, _, [], [], rfl, rfl, rfl, by first | omega | (have := HM.out; omega) | (have := HE.out; have := HNN.out; omega) | (have := HE.out; omega), by first | omega | (have := HM.out; omega) | (have := HE.out; have := HNN.out; omega) | (have := HE.out; omega), rowp_set6 OI ⟨_, RE⟩ (by decide), rowp_set6 OB ⟨_, RE⟩ (by decide), st6_cur CE hgR hwR, st6_grown GE (by omega), ⟨by first | omega | (have := HE.out; omega), by first | omega | (have := HE.out; omega), by first | omega | (have := HE.out; omega), by first | omega | (have := HE.out; omega)⟩⟩
end Go.Proofs.YtohikbpolofklaaGreatDoor
