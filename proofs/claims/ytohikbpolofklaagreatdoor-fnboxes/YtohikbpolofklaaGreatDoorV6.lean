/- Texts that the proof needs, joined: Steps R4 G1 G2 Unp1 Unp2. -/
import Derived.WalkKit
import Derived.Deep.RegionLaw
import Derived.Test.YtohikbpolofklaaGreatDoorV3
import Derived.Test.YtohikbpolofklaaGreatDoorV5
import Derived.Test.YtohikbpolofklaaGreatDoorV1
namespace Go.Proofs.YtohikbpolofklaaGreatDoor
open Go.RowKit
theorem step_append_own {P : Program} {ops : Array Oper} {o : Oper} {a : Act} {w : World} {K : Act → World → Prop} {Q : Exit → Act → World → Prop} {E : Prop}
    (hgd : o.guard = none) (s x : Operand) (t : TypeId) (ho : o.op = .call { callee := .builtin .append, args := #[s, x], argTypes := #[t, t] })
    (base : Nat) (e : TypeId) (i : TypeInfo) (z : Value) (size bytes : Nat) (ht : P.underlying t = some (.slice e)) (hi : P.info? e = some i) (hz : i.zero = some z)
    (hsize : i.size = size) (hby : i.bytes = bytes) (hzs : z.cells.size = size) (hsz : 0 < size)
    (v : Value) (n : Nat) (xs : List Value) (hs : a.eval s = v) (hown : w.ownsRow base e size v n xs)
    (ad : Addr) (m c : Nat) (news : List Value) (hx : a.eval x = .slice (some ad) m c) (hl : news.length = m * size) (hnews : ∀ j u, news[j]? = some u → w.cell? (ad.add j) = some u) (h1 : ∀ u ∈ news, u.oneCell' = true)
    (h63 : n + m ≤ maxLen) (hbytes : (n + m) * bytes ≤ 140737488355328) (hbase : base ≤ w.heap.size)
    (h : ∀ v' w', w'.ownsRow base e size v' (n + m) (xs ++ news) → w.grownBy w' v.ownBlock → K (a.put o.dst v') w') :
    if Region.wanted o (yielded ops a.tmps) = true then Oper.wp P o a w K Q else E := by
  have hw : Region.wanted o (yielded ops a.tmps) = true := by simp [Region.wanted, hgd]
  rw [if_pos hw]
  obtain ⟨v', w', hrun, r1, r2, _⟩ := run_append_own (P := P) w base t o.type e i z size bytes ht hi hz hsize hby hzs hsz v n xs hown ad m c news hl hnews h1 h63 hbytes hbase
  unfold Oper.wp
  simp [execOp, ho, resolve, invoke, builtin, hs, hx, hrun, Result.andThen]
  exact h v' w' r1 r2
end Go.Proofs.YtohikbpolofklaaGreatDoor
namespace Go.Proofs.YtohikbpolofklaaGreatDoor
open Go.RowKit
set_option linter.unusedVariables false
set_option linter.unusedSimpArgs false
theorem step_app {ops : Array Oper} {o : Oper} {a : Act} {w : World} {K : Act → World → Prop} {Q : Exit → Act → World → Prop} {E : Prop} (hgd : o.guard = none) (s x : Operand)
    (ho : o.op = .call { callee := .builtin .append, args := #[s, x], argTypes := #[22, 22] }) (base : Nat) (v : Value) (zs : List Int) (hs : a.eval s = v) (hown : Own w base v zs)
    (ad : Addr) (m c : Nat) (ys : List Int) (hx : a.eval x = .slice (some ad) m c) (hm : m = ys.length) (hsl : Sl w (some ad) ys) (hlen : zs.length + ys.length ≤ 4000000) (hbase : base ≤ w.heap.size)
    (h : ∀ v' w', Own w' base v' (zs ++ ys) → w.grownBy w' v.ownBlock → K (a.put o.dst v') w') : if Region.wanted o (yielded ops a.tmps) = true then Oper.wp Tryz.prog o a w K Q else E := by
  obtain ⟨i0, hi, hz0, hz1, hz2⟩ := info_parts Tryz.info5
  subst hm
  refine step_append_own hgd s x 22 ho base 5 i0 (.int .u8 0) 1 1 Tryz.underlying22 hi hz0 hz1 hz2 rfl (by decide) v zs.length (zs.map (Value.int .u8)) hs hown ad ys.length c (ys.map (Value.int .u8)) hx (by simp) hsl.cellsAt (ones ys) (by unfold maxLen; omega) (by omega) hbase ?_
  intro v' w' h1 h2
  exact h v' w' (by simpa [Own] using h1) h2
theorem specPutWord_nw (g n c : Nat) (zs : List Int) (x : Int) (w : World) (hn : n = zs.length) (hs : Sl w (some ⟨g, 0, none⟩) zs) (hl : zs.length ≤ 2000000) :
    Calls Tryz.prog 31 #[.slice (some ⟨g, 0, none⟩) n c, .int .i64 x] w fun e w' => Nw w w' e (zs ++ wb x) := by
  refine (specPutWord_any ⟨g, 0, none⟩ n c zs x w hn hs hl).mono ?_
  rintro e w' ⟨v, rfl, ho, hb⟩
  obtain ⟨g', c', n', hv, hn'⟩ := own_some' ho (by simp)
  subst hv
  exact ⟨g', c', n', rfl, hn', ho, hb⟩
set_option maxHeartbeats 2000000 in
theorem l3Coil_any (g n c : Nat) (zs : List Int) (x : Bool) (w : World) (B : Nat) (hB : B ≤ w.heap.size) (ho : Own w B (.slice (some ⟨g, 0, none⟩) n c) zs) (hl : zs.length ≤ 2000000) :
    Calls Tryz.prog 30 #[.slice (some ⟨g, 0, none⟩) n c, .bool x] w fun e w' => ∃ g' c' n', e = .returned (.slice (some ⟨g', 0, none⟩) n' c') ∧ n' = (zs ++ [bif x then 255 else 0, 0]).length ∧ Own w' B (.slice (some ⟨g', 0, none⟩) n' c') (zs ++ [bif x then 255 else 0, 0]) ∧ w.heap.size ≤ w'.heap.size ∧ ∀ W, Below B W w → Below B W w' := by
  have HL : Hid (zs.length + [(0 : Int), 0].length ≤ 4000000) := by show zs.length + 2 ≤ 4000000; omega
  have HB : Hid (B ≤ w.heap.size) := hB
  clear hB
  cases x
  · go_enter Tryz.func30, Tryz.ntmps30
    go_wp2_with (at_builtin; refine wpList_app rfl (.tmp 9) (.tmp 10) rfl B (.slice (some ⟨g, 0, none⟩) n c) zs rfl (ho.below (bel_alloc _ _)) ⟨w.heap.size, 0, none⟩ 2 2 [0, 0] rfl rfl (sl_lit2 _ _ _ rfl) HL.out (by have := HB.out; simp; omega) ?_; intro v' w1 o1 g1)
    obtain ⟨g', c', n', hv, hn'⟩ := own_some' o1 (by simp)
    have hz : w.heap.size ≤ w1.heap.size := by have := g1.size; simp at this; omega
    have hbb : ∀ W, Below B W w → Below B W w1 := fun W hW => bel_grown (hW.alloc (by have := HB.out; omega) _) (ho.below (bel_alloc _ _)) g1 (Nat.le_refl _) (by have := HB.out; simp; omega)
    subst hv
    have H : Hid (n' = (zs ++ [0, 0]).length ∧ Own w1 B (.slice (some ⟨g', 0, none⟩) n' c') (zs ++ [0, 0]) ∧ w.heap.size ≤ w1.heap.size ∧ ∀ W, Below B W w → Below B W w1) := ⟨hn', o1, hz, hbb⟩
    clear o1 g1 hz hbb hn'
    go_ret
    exact ⟨g', c', n', rfl, H.out⟩
  · go_enter Tryz.func30, Tryz.ntmps30
    go_wp2_with (at_builtin; refine wpList_app rfl (.tmp 6) (.tmp 7) rfl B (.slice (some ⟨g, 0, none⟩) n c) zs rfl (ho.below (bel_alloc _ _)) ⟨w.heap.size, 0, none⟩ 2 2 [255, 0] rfl rfl (sl_lit2 _ _ _ rfl) HL.out (by have := HB.out; simp; omega) ?_; intro v' w1 o1 g1)
    obtain ⟨g', c', n', hv, hn'⟩ := own_some' o1 (by simp)
    have hz : w.heap.size ≤ w1.heap.size := by have := g1.size; simp at this; omega
    have hbb : ∀ W, Below B W w → Below B W w1 := fun W hW => bel_grown (hW.alloc (by have := HB.out; omega) _) (ho.below (bel_alloc _ _)) g1 (Nat.le_refl _) (by have := HB.out; simp; omega)
    subst hv
    have H : Hid (n' = (zs ++ [255, 0]).length ∧ Own w1 B (.slice (some ⟨g', 0, none⟩) n' c') (zs ++ [255, 0]) ∧ w.heap.size ≤ w1.heap.size ∧ ∀ W, Below B W w → Below B W w1) := ⟨hn', o1, hz, hbb⟩
    clear o1 g1 hz hbb hn'
    go_ret
    exact ⟨g', c', n', rfl, H.out⟩
set_option maxHeartbeats 2000000 in
theorem l3PutWords_any (g n c : Nat) (zs : List Int) (a : Option Addr) (m cap : Nat) (ws : List Int) (w : World) (hn : n = zs.length) (hs : Sl w (some ⟨g, 0, none⟩) zs) (hl : zs.length ≤ 100000) (hm : m = ws.length) (hw : SlI w a ws) (hlw : ws.length ≤ 100000) (hp : 0 < ws.length) :
    Calls Tryz.prog 29 #[.slice (some ⟨g, 0, none⟩) n c, .slice a m cap] w fun e w' => Nw w w' e (zs ++ wbs ws) := by
  subst hm
  have HP : Hid (0 < ws.length) := hp
  clear hp
  go_enter Tryz.func29, Tryz.ntmps29
  go_wp2
  go_loopw [0, 5] (fun v i wr => ∃ k : Nat, k ≤ ws.length ∧ i = .int .i64 k ∧ (∃ g' c' n', v = .slice (some ⟨g', 0, none⟩) n' c' ∧ n' = (zs ++ wbs (ws.take k)).length ∧ Sl wr (some ⟨g', 0, none⟩) (zs ++ wbs (ws.take k)) ∧ (0 < k → Own wr w.heap.size (.slice (some ⟨g', 0, none⟩) n' c') (zs ++ wbs (ws.take k)))) ∧ Below w.heap.size w wr) (fun _ i _ => ws.length - (intOf i).toNat)
  case atStart => exact ⟨0, Nat.zero_le _, rfl, ⟨g, c, n, rfl, by simpa [wbs] using hn, by simpa [wbs] using hs, fun h => absurd h (Nat.lt_irrefl _)⟩, Below.refl _ _⟩
  case round =>
    obtain ⟨k, hk, rfl, ⟨g', c', n', rfl, hn', hs', ho⟩, hb⟩ := hrel
    by_cases hlt : k < ws.length
    · obtain ⟨b, off, rfl, hbl, hc0⟩ := cell_atI hw hlt
      have hc : wr.cell? ⟨b, off + k, none⟩ = some (.int .i64 (ws.getD k 0)) := by rw [hb.cell (p := ⟨b, off + k, none⟩) hbl]; exact hc0
      have HS : Hid (zs ++ wbs (ws.take (k + 1)) = (zs ++ wbs (ws.take k)) ++ wb (ws.getD k 0)) := by show _ = _; rw [wbs_step ws k hlt]; simp [wb]
      have HLn : Hid ((zs ++ wbs (ws.take k)).length ≤ 2000000) := by show (zs ++ wbs (ws.take k)).length ≤ 2000000; rw [List.length_append, wbs_length, List.length_take]; omega
      have HN : Hid (n' = (zs ++ wbs (ws.take k)).length) := hn'
      generalize ws.getD k 0 = z at *
      have hi' : (k : Int) < (ws.length : Int) := by omega
      clear hc0 hw hs hn hn' ho
      go_wp2_with fail
      refine (specPutWord_nw g' n' c' (zs ++ wbs (ws.take k)) z _ HN.out hs' HLn.out).mono ?_
      rintro e w1 h1
      replace h1 := nw_next hb h1
      rw [← HS.out] at h1
      obtain ⟨g2, c2, n2, rfl, hn2, ho2, hb2⟩ := h1
      have H2 : Hid _ := (⟨hn2, ho2.sl.2, fun _ => ho2⟩ : _ ∧ _ ∧ (0 < k + 1 → _))
      clear hn2 ho2 hs' hb
      go_wp2
      go_roundw
      case rel => exact ⟨k + 1, by omega, by go_num, ⟨g2, c2, n2, rfl, H2.out⟩, hb2⟩
      case measure => simp [intOf]; omega
    · have e : ws.take k = ws := List.take_of_length_le (by omega)
      rw [e] at ho hn'
      have R : Nw w wr (.returned (.slice (some ⟨g', 0, none⟩) n' c')) (zs ++ wbs ws) := ⟨g', c', n', rfl, hn', ho (by have := HP.out; omega), hb⟩
      clear hs hs' ho hn hn' hb e hw
      go_wp2
      go_ret
      exact R
end Go.Proofs.YtohikbpolofklaaGreatDoor
namespace Go.Proofs.YtohikbpolofklaaGreatDoor
open Go.RowKit
set_option linter.unusedVariables false
set_option linter.unusedSimpArgs false
def wAt (zs : List Int) (i : Nat) : Int := if i + 2 ≤ zs.length then zs.getD i 0 * 256 + zs.getD (i + 1) 0 else 0
def wsF (zs : List Int) (f : Nat) : List Int := (List.range ((zs.length - f) / 2)).map (fun k => wAt zs (f + 2 * k))
theorem wsF_length (zs : List Int) (f : Nat) : (wsF zs f).length = (zs.length - f) / 2 := by simp [wsF]
def wsT (zs : List Int) (f k : Nat) : List Int := (List.range k).map (fun k => wAt zs (f + 2 * k))
theorem wsT_length (zs : List Int) (f k : Nat) : (wsT zs f k).length = k := by simp [wsT]
theorem wsT_succ (zs : List Int) (f k : Nat) : wsT zs f (k + 1) = wsT zs f k ++ [wAt zs (f + 2 * k)] := by simp [wsT, List.range_succ]
theorem get_rg {zs : List Int} (hr : ∀ z ∈ zs, 0 ≤ z ∧ z ≤ 255) (k : Nat) : 0 ≤ zs.getD k 0 ∧ zs.getD k 0 ≤ 255 := by
  by_cases h : k < zs.length
  · have e : zs.getD k 0 = zs[k] := by simp [h]
    rw [e]; exact hr _ (List.getElem_mem h)
  · have e : zs.getD k 0 = 0 := by rw [List.getD_eq_getElem?_getD, List.getElem?_eq_none (by omega)]; rfl
    rw [e]; omega
theorem word2_eq (x y : Int) (h0 : 0 ≤ x) (h1 : x ≤ 255) (h2 : 0 ≤ y) (h3 : y ≤ 255) : word2 x y = x * 256 + y := or8 x y h0 h1 h2 h3
theorem wAt_bd {zs : List Int} (hr : ∀ z ∈ zs, 0 ≤ z ∧ z ≤ 255) (i : Nat) : 0 ≤ wAt zs i ∧ wAt zs i ≤ 65535 := by
  unfold wAt
  have a := get_rg hr i
  have b := get_rg hr (i + 1)
  split <;> omega
theorem specWordAt_q (a : Option Addr) (n cap : Nat) (zs : List Int) (x : Int) (i : Nat) (w : World) (hx : x = (i : Int)) (hn : n = zs.length) (hs : Sl w a zs) (hr : ∀ z ∈ zs, 0 ≤ z ∧ z ≤ 255) (hl : n ≤ 2000000) :
    Calls Tryz.prog 19 #[.slice a n cap, .int .i64 x] w fun e w' => e = .returned (.tuple #[.int .i64 (wAt zs i), .bool (decide (i + 2 ≤ zs.length))]) ∧ Below w.heap.size w w' := by
  subst hx
  by_cases h : i + 2 ≤ zs.length
  · obtain ⟨b, off, rfl, _, hc⟩ := cell_at hs (show i < zs.length by omega)
    obtain ⟨b', off', e', _, hc'⟩ := cell_at hs (show i + 1 < zs.length by omega)
    simp at e'
    obtain ⟨rfl, rfl⟩ := e'
    have r0 := get_rg hr i
    have r1 := get_rg hr (i + 1)
    refine (specWordAt_in b off n cap _ _ i w (by omega) hc hc' r0.1 r0.2 r1.1 r1.2 hl).mono ?_
    rintro e w' ⟨rfl, k, rfl⟩
    rw [word2_eq _ _ r0.1 r0.2 r1.1 r1.2]
    exact ⟨by simp [wAt, h], drew_refl _ _⟩
  · refine (specWordAt_out a n cap i w (by omega) hl).mono ?_
    rintro e w' ⟨rfl, k, rfl⟩
    exact ⟨by simp [wAt, h], drew_refl _ _⟩
theorem implWordAt_q (a : Option Addr) (n cap : Nat) (zs : List Int) (x : Int) (i : Nat) (w : World) (hx : x = (i : Int)) (hn : n = zs.length) (hs : Sl w a zs) (hr : ∀ z ∈ zs, 0 ≤ z ∧ z ≤ 255) (hl : n ≤ 2000000) :
    Calls Tryz.prog 74 #[.slice a n cap, .int .i64 x] w fun e w' => e = .returned (.tuple #[.int .i64 (wAt zs i), .bool (decide (i + 2 ≤ zs.length))]) ∧ Below w.heap.size w w' := by
  subst hx
  by_cases h : i + 2 ≤ zs.length
  · obtain ⟨b, off, rfl, _, hc⟩ := cell_at hs (show i < zs.length by omega)
    obtain ⟨b', off', e', _, hc'⟩ := cell_at hs (show i + 1 < zs.length by omega)
    simp at e'
    obtain ⟨rfl, rfl⟩ := e'
    have r0 := get_rg hr i
    have r1 := get_rg hr (i + 1)
    refine (implWordAt_in b off n cap _ _ i w (by omega) hc hc' r0.1 r0.2 r1.1 r1.2 hl).mono ?_
    rintro e w' ⟨rfl, k, rfl⟩
    rw [word2_eq _ _ r0.1 r0.2 r1.1 r1.2]
    exact ⟨by simp [wAt, h], drew_refl _ _⟩
  · refine (implWordAt_out a n cap i w (by omega) hl).mono ?_
    rintro e w' ⟨rfl, k, rfl⟩
    exact ⟨by simp [wAt, h], drew_refl _ _⟩
theorem Tryz.infoQ3 : (Tryz.prog.info? 3).map (fun i => (i.zero, i.size, i.bytes)) = some (some (.int .i64 0), 1, 8) := by kernel_rfl
theorem SlI.cellsAt {w : World} {ad : Addr} {zs : List Int} (h : SlI w (some ad) zs) : ∀ j u, (zs.map (Value.int .i64))[j]? = some u → w.cell? (ad.add j) = some u := by
  intro j u hu
  rcases h with h | ⟨b, off, ha, _, hc⟩
  · subst h; simp at hu
  · obtain rfl : ad = ⟨b, off, none⟩ := by simpa using ha
    have hj : j < zs.length := by
      have := (List.getElem?_eq_some_iff.1 hu).1
      simpa using this
    have e : Addr.add ⟨b, off, none⟩ j = ⟨b, off + j, none⟩ := by
      by_cases h0 : j = 0
      · subst h0; simp [Addr.add]
      · simp [Addr.add, h0]
    rw [e, hc j hj]
    rw [← hu]
    simp [hj]
theorem wpList_appI {w : World} {ops : Array Oper} {rest : List Oper} {o : Oper} {a : Act} {Q : Exit → Act → World → Prop} (hgd : o.guard = none) (s x : Operand)
    (ho : o.op = .call { callee := .builtin .append, args := #[s, x], argTypes := #[27, 27] }) (base : Nat) (v : Value) (zs : List Int) (hs : a.eval s = v) (hown : OwnI w base v zs)
    (ad : Addr) (m c : Nat) (ys : List Int) (hx : a.eval x = .slice (some ad) m c) (hm : m = ys.length) (hsl : SlI w (some ad) ys) (hlen : zs.length + ys.length ≤ 4000000) (hbase : base ≤ w.heap.size)
    (h : ∀ v' w', OwnI w' base v' (zs ++ ys) → w.grownBy w' v.ownBlock → wpList Tryz.prog ops Q rest (a.put o.dst v') w') : wpList Tryz.prog ops Q (o :: rest) a w := by
  obtain ⟨i0, hi, hz0, hz1, hz2⟩ := info_parts Tryz.infoQ3
  subst hm
  refine wpList_append_own w hgd s x 27 ho base 3 i0 (.int .i64 0) 1 8 Tryz.underlying27 hi hz0 hz1 hz2 rfl (by decide) v zs.length (zs.map (Value.int .i64)) hs hown ad ys.length c (ys.map (Value.int .i64)) hx (by simp) hsl.cellsAt (ints_oneCell _ _) (by unfold maxLen; omega) (by omega) hbase ?_
  intro v' w' h1 h2 _
  exact h v' w' (by simpa [OwnI] using h1) h2
theorem ownI_nil (w : World) (B : Nat) : OwnI w B (.slice none 0 0) [] := ⟨rfl, .inl ⟨rfl, rfl⟩⟩
theorem ownB_nil (w : World) (B : Nat) : OwnB w B (.slice none 0 0) [] := ⟨rfl, .inl ⟨rfl, rfl⟩⟩
theorem ownI_shape {w : World} {base : Nat} {v : Value} {zs : List Int} (h : OwnI w base v zs) : ∃ a c n, v = .slice a n c ∧ n = zs.length := by
  obtain ⟨_, h2⟩ := h
  rcases h2 with ⟨hv, h3⟩ | ⟨g, cap, cur, hv, hg, hh, _⟩
  · exact ⟨none, 0, 0, hv, h3.symm⟩
  · exact ⟨_, cap, _, hv, rfl⟩
theorem bel_rowI {B : Nat} {w0 w w' : World} {base : Nat} {v : Value} {zs : List Int} (hb : Below B w0 w) (h : OwnI w base v zs) (hg : w.grownBy w' v.ownBlock) (h1 : B ≤ base) (h2 : B ≤ w.heap.size) : Below B w0 w' :=
  hb.grown hg h2 (fun k hk => by have := (World.ownsRow.lt h k hk).1; omega)
def NwI (w w' : World) (e : Ending) (zs : List Int) : Prop := ∃ a c n, e = .returned (.slice a n c) ∧ n = zs.length ∧ OwnI w' w.heap.size (.slice a n c) zs ∧ Below w.heap.size w w'
theorem lit_slI1' (w : World) (x : Int) {g : Nat} (hg : g = w.heap.size) : SlI (w.alloc (.cells #[.int .i64 x] 3)) (some ⟨g, 0, none⟩) [x] := lit_slI1 w x hg
set_option maxHeartbeats 2000000 in
theorem l3GetWords_any (a : Option Addr) (n cap : Nat) (zs : List Int) (x : Int) (f : Nat) (w : World) (hx : x = (f : Int)) (hn : n = zs.length) (hs : Sl w a zs) (hr : ∀ z ∈ zs, 0 ≤ z ∧ z ≤ 255) (hl : n ≤ 2000000) (hf : f ≤ 100) :
    Calls Tryz.prog 20 #[.slice a n cap, .int .i64 x] w fun e w' => NwI w w' e (wsF zs f) := by
  subst hx hn
  have o0 : OwnI (w.alloc (.cells #[] 3)) w.heap.size (.slice (some ⟨w.heap.size, 0, none⟩) 0 0) [] := ⟨rfl, .inr ⟨w.heap.size, 0, #[], rfl, Nat.le_refl _, Blk.new w #[] 3, by simp, by simp, rfl, rfl⟩⟩
  have HR : Hid (∀ z ∈ zs, 0 ≤ z ∧ z ≤ 255) := hr
  have HS : Hid (Sl w a zs) := hs
  clear hr hs
  go_enter Tryz.func20, Tryz.ntmps20
  go_wp2
  go_loopw [5, 6] (fun v i wr => ∃ k : Nat, k ≤ (zs.length - f) / 2 ∧ i = .int .i64 ((f + 2 * k : Nat) : Int) ∧ OwnI wr w.heap.size v (wsT zs f k) ∧ Below w.heap.size w wr) (fun _ i _ => zs.length + 2 + f - (intOf i).toNat)
  case atStart => exact ⟨0, Nat.zero_le _, rfl, o0, bel_alloc _ _⟩
  case round =>
    obtain ⟨k, hk, rfl, ho, hb⟩ := hrel
    clear o0
    by_cases hlt : k < (zs.length - f) / 2
    · have hi' : ((f + 2 * k : Nat) : Int) + 1 < (zs.length : Int) := by omega
      have HX : Hid (wsT zs f (k + 1) = wsT zs f k ++ [wAt zs (f + 2 * k)]) := wsT_succ zs f k
      have HLn : Hid ((wsT zs f k).length + 1 ≤ 4000000) := by show (wsT zs f k).length + 1 ≤ 4000000; rw [wsT_length]; omega
      go_wp2_with fail
      refine (specWordAt_q a zs.length cap zs _ (f + 2 * k) _ rfl rfl (HS.out.below hb) HR.out hl).mono ?_
      rintro e w1 ⟨rfl, b1⟩
      have hb1 := bel_next hb b1
      have ho1 := ho.below b1
      clear ho hb b1
      go_wp2_with (at_builtin; refine wpList_appI rfl (.tmp 24) (.tmp 26) rfl w.heap.size u5 (wsT zs f k) rfl (ho1.below (bel_alloc _ _)) ⟨w1.heap.size, 0, none⟩ 1 1 [wAt zs (f + 2 * k)] rfl rfl (lit_slI1' _ _ rfl) HLn.out (by have := hb1.size; simp; omega) ?_; intro v' w2 o2 g2)
      have hb2 := bel_rowI (bel_next hb1 (bel_alloc _ _)) (ho1.below (bel_alloc _ _)) g2 (Nat.le_refl _) (by have := hb1.size; simp; omega)
      rw [← HX.out] at o2
      clear ho1 hb1 g2
      go_roundw
      case rel => exact ⟨k + 1, by omega, by go_num, o2, hb2⟩
      case measure => simp [intOf]; omega
    · have hi' : ¬ (((f + 2 * k : Nat) : Int) + 1 < (zs.length : Int)) := by omega
      have e : wsT zs f k = wsF zs f := by unfold wsF wsT; rw [show k = (zs.length - f) / 2 from by omega]
      rw [e] at ho
      obtain ⟨a', c', n', hv, hn'⟩ := ownI_shape ho
      subst hv
      have R : NwI w wr (.returned (.slice a' n' c')) (wsF zs f) := ⟨a', c', n', rfl, hn', ho, hb⟩
      clear ho hb e hn'
      go_wp2
      go_ret
      exact R
set_option maxHeartbeats 2000000 in
theorem wordsFrom_any (a : Option Addr) (n cap : Nat) (zs : List Int) (x : Int) (f : Nat) (w : World) (hx : x = (f : Int)) (hn : n = zs.length) (hs : Sl w a zs) (hr : ∀ z ∈ zs, 0 ≤ z ∧ z ≤ 255) (hl : n ≤ 2000000) (hf : f ≤ 100) :
    Calls Tryz.prog 76 #[.slice a n cap, .int .i64 x] w fun e w' => NwI w w' e (wsF zs f) := by
  subst hx hn
  have HR : Hid (∀ z ∈ zs, 0 ≤ z ∧ z ≤ 255) := hr
  have HS : Hid (Sl w a zs) := hs
  clear hr hs
  go_enter Tryz.func76, Tryz.ntmps76
  go_wp2_with fail
  refine (implWordAt_q a zs.length cap zs _ f _ rfl rfl HS.out HR.out hl).mono ?_
  rintro e w1 ⟨rfl, b1⟩
  go_wp2
  go_loopw [1, 5, 6, 7] (fun at' v nn ok wr => ∃ k : Nat, k ≤ (zs.length - f) / 2 ∧ at' = .int .i64 ((f + 2 * k : Nat) : Int) ∧ OwnI wr w.heap.size v (wsT zs f k) ∧ nn = .int .i64 (wAt zs (f + 2 * k)) ∧ ok = .bool (decide (f + 2 * k + 2 ≤ zs.length)) ∧ Below w.heap.size w wr) (fun at' _ _ _ _ => zs.length + 2 + f - (intOf at').toNat)
  case atStart => exact ⟨0, Nat.zero_le _, rfl, ownI_nil _ _, rfl, rfl, b1⟩
  case round =>
    obtain ⟨k, hk, rfl, ho, rfl, rfl, hb⟩ := hrel
    clear b1
    by_cases hlt : k < (zs.length - f) / 2
    · have e1 : decide (f + 2 * k + 2 ≤ zs.length) = true := decide_eq_true (by omega)
      have HX : Hid (wsT zs f (k + 1) = wsT zs f k ++ [wAt zs (f + 2 * k)]) := wsT_succ zs f k
      have HLn : Hid ((wsT zs f k).length + 1 ≤ 4000000) := by show (wsT zs f k).length + 1 ≤ 4000000; rw [wsT_length]; omega
      have HZ : Hid (((f + 2 * k : Nat) : Int) + 2 = ((f + 2 * (k + 1) : Nat) : Int)) := by show _ = _; omega
      rw [e1]
      go_wp2_with (at_builtin; refine wpList_appI rfl (.tmp 21) (.tmp 23) rfl w.heap.size u5 (wsT zs f k) rfl (ho.below (bel_alloc _ _)) ⟨wr.heap.size, 0, none⟩ 1 1 [wAt zs (f + 2 * k)] rfl rfl (lit_slI1' _ _ rfl) HLn.out (by have := hb.size; simp; omega) ?_; intro v' w2 o2 g2)
      have hb2 := bel_rowI (bel_next hb (bel_alloc _ _)) (ho.below (bel_alloc _ _)) g2 (Nat.le_refl _) (by have := hb.size; simp; omega)
      rw [← HX.out] at o2
      clear ho hb g2 e1
      go_wp2_with fail
      refine (implWordAt_q a zs.length cap zs _ (f + 2 * (k + 1)) _ (by omega) rfl (HS.out.below hb2) HR.out hl).mono ?_
      rintro e w3 ⟨rfl, b3⟩
      have hb3 := bel_next hb2 b3
      have o3 := o2.below b3
      clear hb2 b3 o2
      go_wp2
      go_roundw
      case rel => exact ⟨k + 1, by omega, congrArg (Value.int .i64) (by omega), o3, rfl, rfl, hb3⟩
      case measure => simp [intOf]; omega
    · have e1 : decide (f + 2 * k + 2 ≤ zs.length) = false := decide_eq_false (by omega)
      have e : wsT zs f k = wsF zs f := by unfold wsF wsT; rw [show k = (zs.length - f) / 2 from by omega]
      rw [e] at ho
      obtain ⟨a', c', n', hv, hn'⟩ := ownI_shape ho
      subst hv
      have R : NwI w wr (.returned (.slice a' n' c')) (wsF zs f) := ⟨a', c', n', rfl, hn', ho, hb⟩
      clear ho hb e hn'
      rw [e1]
      go_wp2
      go_ret
      exact R
theorem len_eq {a b : Nat} (h : ∀ k, k < a → k < b) (h' : ∀ k, k < b → k < a) : a = b := by
  rcases Nat.lt_trichotomy a b with e | e | e
  · exact absurd (h' a e) (Nat.lt_irrefl _)
  · exact e
  · exact absurd (h b e) (Nat.lt_irrefl _)
theorem same_no {zs ys : List Int} {k : Nat} (h : zs.getD k 0 ≠ ys.getD k 0) : decide (zs = ys) = false := decide_eq_false (fun e => h (by rw [e]))
theorem same_yes {zs ys : List Int} (hl : zs.length = ys.length) (h : ∀ j, j < zs.length → zs.getD j 0 = ys.getD j 0) : decide (zs = ys) = true := by
  refine decide_eq_true (List.ext_getElem hl fun i h1 h2 => ?_)
  have := h i h1
  simpa [h1, h2] using this
set_option maxHeartbeats 2000000 in
theorem l3Same_any (a a' : Option Addr) (n n' cap cap' : Nat) (zs ys : List Int) (w : World) (hn : n = zs.length) (hn' : n' = ys.length) (hs : Sl w a zs) (hs' : Sl w a' ys) (hl : zs.length ≤ 2000000) (hl' : ys.length ≤ 2000000) (b : Bool) (hb : decide (zs = ys) = b) :
    Calls Tryz.prog 23 #[.slice a n cap, .slice a' n' cap'] w fun e w' => e = .returned (.bool b) ∧ Below w.heap.size w w' := by
  by_cases hle : zs.length = ys.length
  · have HE : Hid (∀ k, k < zs.length → k < ys.length) := fun k h => hle ▸ h
    have HF : Hid (∀ k, k < ys.length → k < zs.length) := fun k h => hle.symm ▸ h
    rw [← hle] at hn'
    subst hn hn'
    clear hle
    go_enter Tryz.func23, Tryz.ntmps23
    go_wp2
    go_loopw [5] (fun i wr => ∃ k : Nat, k ≤ zs.length ∧ i = .int .i64 k ∧ (∀ j, j < k → zs.getD j 0 = ys.getD j 0) ∧ ∃ n, wr = w.drewN n) (fun i _ => zs.length - (intOf i).toNat)
    case atStart => exact ⟨0, Nat.zero_le _, rfl, fun j hj => absurd hj (Nat.not_lt_zero _), 0, rfl⟩
    case round =>
      obtain ⟨k, hk, rfl, hg, n, rfl⟩ := hrel
      have HG : Hid (∀ j, j < k → zs.getD j 0 = ys.getD j 0) := hg
      clear hg
      by_cases hlt : k < zs.length
      · obtain ⟨b1, off, rfl, _, hc⟩ := cell_at hs hlt
        obtain ⟨b2, off', rfl, _, hc'⟩ := cell_at hs' (HE.out k hlt)
        have hi : (k : Int) < (zs.length : Int) := by omega
        clear hs hs'
        by_cases hxy : zs.getD k 0 = ys.getD k 0
        · have HXY : Hid (zs.getD k 0 = ys.getD k 0) := hxy
          rw [← hxy] at hc'
          clear hxy
          go_wp2
          go_quiet (fail)
          go_wp2
          go_roundw
          case rel =>
            refine ⟨k + 1, by omega, by go_num, fun j hj => ?_, _, rfl⟩
            by_cases e : j = k
            · subst e; exact HXY.out
            · exact HG.out j (by omega)
          case measure => simp [intOf]; omega
        · rw [same_no hxy] at hb
          subst hb
          obtain ⟨x, hx⟩ : ∃ x, x = zs.getD k 0 := ⟨_, rfl⟩
          obtain ⟨y, hy⟩ : ∃ y, y = ys.getD k 0 := ⟨_, rfl⟩
          rw [← hx] at hc hxy
          rw [← hy] at hc' hxy
          have hq1 : (x == y) = false := by simp [hxy]
          have hq2 : (x != y) = true := by simp [hxy]
          clear hx hy
          go_wp2
          go_quiet (fail)
          go_wp2
          go_ret
          exact ⟨rfl, bel_next (drew_refl _ _) (drew_refl _ _)⟩
      · rw [same_yes (len_eq HE.out HF.out) (fun j hj => HG.out j (by omega))] at hb
        subst hb
        clear hs hs'
        go_wp2
        go_ret
        exact ⟨rfl, drew_refl _ _⟩
  · have e : decide (zs = ys) = false := decide_eq_false (fun e => hle (by rw [e]))
    rw [e] at hb
    subst hb
    have hne : ¬ (n : Int) = (n' : Int) := by omega
    clear hs hs' e hle
    go_enter Tryz.func23, Tryz.ntmps23
    go_wp2
    go_ret
    exact ⟨rfl, Below.refl _ _⟩
theorem strOf_inj : ∀ (zs ys : List Int), (∀ z ∈ zs, 0 ≤ z ∧ z ≤ 255) → (∀ z ∈ ys, 0 ≤ z ∧ z ≤ 255) → (zs.map fun n => UInt8.ofNat n.toNat) = (ys.map fun n => UInt8.ofNat n.toNat) → zs = ys
  | [], [], _, _, _ => rfl
  | [], y :: r, _, _, h => by simp at h
  | x :: r, [], _, _, h => by simp at h
  | x :: r, y :: q, h1, h2, h => by
    simp only [List.map_cons, List.cons.injEq] at h
    have e := strOf_inj r q (fun z hz => h1 z (List.mem_cons_of_mem _ hz)) (fun z hz => h2 z (List.mem_cons_of_mem _ hz)) h.2
    have a := h1 x (List.mem_cons_self ..)
    have b := h2 y (List.mem_cons_self ..)
    have c := congrArg UInt8.toNat h.1
    simp at c
    rw [e, show x = y from by omega]
theorem conv_sl {w : World} {a : Option Addr} {n cap : Nat} {zs : List Int} (hn : n = zs.length) (hs : Sl w a zs) (hp : 0 < zs.length) : (convert 22 9 (.slice a n cap)).run Tryz.prog w = .ok (.string (strOfNums zs)) w := by
  obtain ⟨b, off, rfl, _, _⟩ := cell_at hs hp
  refine run_convert_bytes_arg w 22 5 Tryz.underlying22 Tryz.underlying5 b off n cap zs hn.symm (fun i hi => ?_) 9 Tryz.underlying9
  obtain ⟨b', off', e, _, hc⟩ := cell_at hs (show i < zs.length by omega)
  simp at e
  obtain ⟨rfl, rfl⟩ := e
  exact hc
set_option maxHeartbeats 2000000 in
theorem bytesEqual_any (a a' : Option Addr) (n n' cap cap' : Nat) (zs ys : List Int) (w : World) (hn : n = zs.length) (hn' : n' = ys.length) (hs : Sl w a zs) (hs' : Sl w a' ys) (hp : 0 < zs.length) (hp' : 0 < ys.length) (hr : ∀ z ∈ zs, 0 ≤ z ∧ z ≤ 255) (hr' : ∀ z ∈ ys, 0 ≤ z ∧ z ≤ 255) (b : Bool) (hb : decide (zs = ys) = b) :
    Calls Tryz.prog 63 #[.slice a n cap, .slice a' n' cap'] w fun e w' => e = .returned (.bool b) ∧ w' = w := by
  have c1 := conv_sl (cap := cap) hn hs hp
  have c2 := conv_sl (cap := cap') hn' hs' hp'
  by_cases h : zs = ys
  · rw [decide_eq_true h] at hb
    subst h hb
    clear hs hs' hn hn' hp hp' hr hr'
    go_enter Tryz.func63, Tryz.ntmps63
    go_wp2
    go_ret
    exact ⟨by simp, rfl⟩
  · rw [decide_eq_false h] at hb
    subst hb
    have hne : ¬ (strOfNums zs).toList = (strOfNums ys).toList := fun e => h (strOf_inj zs ys hr hr' (by rw [ByteArray.toList_eq, ByteArray.toList_eq] at e; exact e))
    have hbq : ((strOfNums zs).toList == (strOfNums ys).toList) = false := beq_false_of_ne hne
    generalize strOfNums zs = s1 at *
    generalize strOfNums ys = s2 at *
    clear hs hs' hn hn' hp hp' hr hr' h
    go_enter Tryz.func63, Tryz.ntmps63
    go_wp2
    go_ret
    first | exact ⟨rfl, rfl⟩ | exact ⟨congrArg (fun b => Ending.returned (Value.bool b)) hbq, rfl⟩
end Go.Proofs.YtohikbpolofklaaGreatDoor
namespace Go.Proofs.YtohikbpolofklaaGreatDoor
open Go.RowKit
set_option linter.unusedVariables false
set_option linter.unusedSimpArgs false
def kindB (k : Int) : Bool := decide (k = 1 ∨ k = 2 ∨ k = 3 ∨ k = 4 ∨ k = 5 ∨ k = 6 ∨ k = 15 ∨ k = 16 ∨ k = 22 ∨ k = 23)
set_option maxHeartbeats 2000000 in
theorem isKind_any (k : Int) (w : World) (b : Bool) (hb : kindB k = b) : Calls Tryz.prog 61 #[.int .i64 k] w fun e w' => e = .returned (.bool b) ∧ w' = w := by
  by_cases hk : k = 1 ∨ k = 2 ∨ k = 3 ∨ k = 4 ∨ k = 5 ∨ k = 6 ∨ k = 15 ∨ k = 16 ∨ k = 22 ∨ k = 23
  · have e : kindB k = true := decide_eq_true hk
    rw [e] at hb
    subst hb
    clear e
    obtain rfl | rfl | rfl | rfl | rfl | rfl | rfl | rfl | rfl | rfl := hk
    all_goals (
      go_enter Tryz.func61, Tryz.ntmps61
      go_wp2
      go_ret
      exact ⟨rfl, rfl⟩)
  · have e : kindB k = false := decide_eq_false hk
    rw [e] at hb
    subst hb
    have h1 : ¬ k = 1 := by omega
    have h2 : ¬ k = 2 := by omega
    have h3 : ¬ k = 3 := by omega
    have h4 : ¬ k = 4 := by omega
    have h5 : ¬ k = 5 := by omega
    have h6 : ¬ k = 6 := by omega
    have h15 : ¬ k = 15 := by omega
    have h16 : ¬ k = 16 := by omega
    have h22 : ¬ k = 22 := by omega
    have h23 : ¬ k = 23 := by omega
    clear hk e
    go_enter Tryz.func61, Tryz.ntmps61
    go_wp2
    go_ret
    exact ⟨rfl, rfl⟩
set_option maxHeartbeats 2000000 in
theorem l3Kind_any (k : Int) (w : World) (b : Bool) (hb : kindB k = b) : Calls Tryz.prog 18 #[.int .i64 k] w fun e w' => e = .returned (.bool b) ∧ w' = w := by
  by_cases hk : k = 1 ∨ k = 2 ∨ k = 3 ∨ k = 4 ∨ k = 5 ∨ k = 6 ∨ k = 15 ∨ k = 16 ∨ k = 22 ∨ k = 23
  · have e : kindB k = true := decide_eq_true hk
    rw [e] at hb
    subst hb
    clear e
    obtain rfl | rfl | rfl | rfl | rfl | rfl | rfl | rfl | rfl | rfl := hk
    all_goals (
      go_enter Tryz.func18, Tryz.ntmps18
      go_wp2_with (go_at_call 39; go_in)
      go_ret
      exact ⟨rfl, rfl⟩)
  · have e : kindB k = false := decide_eq_false hk
    rw [e] at hb
    subst hb
    have h15 : ¬ k = 15 := by omega
    have h16 : ¬ k = 16 := by omega
    have h22 : ¬ k = 22 := by omega
    have h23 : ¬ k = 23 := by omega
    have hq : (k == 23) = false := by simp [h23]
    have hq1 : (k == 15) = false := by simp [h15]
    have hq2 : (k == 16) = false := by simp [h16]
    have hq3 : (k == 22) = false := by simp [h22]
    by_cases h1 : 1 ≤ k
    · have h6 : ¬ k ≤ 6 := by omega
      clear hk e
      go_enter Tryz.func18, Tryz.ntmps18
      go_wp2_with (go_at_call 39; go_in)
      go_ret
      exact ⟨rfl, rfl⟩
    · clear hk e
      go_enter Tryz.func18, Tryz.ntmps18
      go_wp2_with (go_at_call 39; go_in)
      go_ret
      exact ⟨rfl, rfl⟩
def GP (w w' : World) (e : Ending) (kd pl nn wa : Int) (ws : List Int) (bs : List Bool) (code : Int) : Prop :=
  ∃ a1 a2 l1 l2 c1 c2, e = .returned (.tuple #[rq kd pl nn wa a1 a2 l1 l2 c1 c2, .int .i64 code]) ∧ l1 = ws.length ∧ l2 = bs.length ∧ OwnI w' w.heap.size (.slice a1 l1 c1) ws ∧ OwnB w' w.heap.size (.slice a2 l2 c2) bs ∧ Below w.heap.size w w'
theorem gp_zero {w w' : World} {c : Int} (hb : Below w.heap.size w w') : GP w w' (.returned (.tuple #[rq 0 0 0 0 none none 0 0 0 0, .int .i64 c])) 0 0 0 0 [] [] c :=
  ⟨none, none, 0, 0, 0, 0, rfl, rfl, rfl, ownI_nil _ _, ownB_nil _ _, hb⟩
theorem bel_set6 {B : Nat} {W w : World} {g : Nat} {v0 v1 v2 v3 v4 v5 : Value} (hb : Below B W w) (hg : B ≤ g) :
    Below B W ((((((w.setCell ⟨g, 0, none⟩ v0).setCell ⟨g, 1, none⟩ v1).setCell ⟨g, 2, none⟩ v2).setCell ⟨g, 3, none⟩ v3).setCell ⟨g, 4, none⟩ v4).setCell ⟨g, 5, none⟩ v5) :=
  (((((hb.setCell (p := ⟨g, 0, none⟩) hg _).setCell (p := ⟨g, 1, none⟩) hg _).setCell (p := ⟨g, 2, none⟩) hg _).setCell (p := ⟨g, 3, none⟩) hg _).setCell (p := ⟨g, 4, none⟩) hg _).setCell (p := ⟨g, 5, none⟩) hg _
theorem row_set6 {w : World} {base size n g : Nat} {e t : TypeId} {v v0 v1 v2 v3 v4 v5 : Value} {xs : List Value} (h : w.ownsRow base e size v n xs) (hb : ExB w g t) (ht : t ≠ e) :
    ((((((w.setCell ⟨g, 0, none⟩ v0).setCell ⟨g, 1, none⟩ v1).setCell ⟨g, 2, none⟩ v2).setCell ⟨g, 3, none⟩ v3).setCell ⟨g, 4, none⟩ v4).setCell ⟨g, 5, none⟩ v5).ownsRow base e size v n xs :=
  row_setE (row_setE (row_setE (row_setE (row_setE (row_setE h hb ht) (ExB.set hb) ht) (ExB.set (ExB.set hb)) ht) (ExB.set (ExB.set (ExB.set hb))) ht) (ExB.set (ExB.set (ExB.set (ExB.set hb)))) ht) (ExB.set (ExB.set (ExB.set (ExB.set (ExB.set hb))))) ht
set_option maxHeartbeats 4000000 in
theorem get_none (a : Option Addr) (n cap : Nat) (zs : List Int) (w : World) (hn : n = zs.length) (hs : Sl w a zs) (hr : ∀ z ∈ zs, 0 ≤ z ∧ z ≤ 255) (hl : n ≤ 2000000) (hk : zs.length = 0) :
    Calls Tryz.prog 37 #[.slice a n cap] w fun e w' => GP w w' e 0 0 0 0 [] [] 1 := by
  have B0 := bel_alloc w (.cells #[.int .i64 0, .int .i64 0, .int .i64 0, .slice none 0 0, .slice none 0 0, .int .i64 0] 30)
  have hz : (n : Int) = 0 := by omega
  clear hn hs hr
  go_enter Tryz.func37, Tryz.ntmps37
  go_wp2
  refine bodyPost_ret (v := .tuple #[rq 0 0 0 0 none none 0 0 0 0, .int .i64 1]) (by simp [results, Tryz.results37, go_sem]) rfl ?_
  exact gp_zero (by first | exact B0 | exact bel_set6 B0 (Nat.le_refl _))
set_option maxRecDepth 20000 in
set_option maxHeartbeats 4000000 in
theorem get_kind (a : Option Addr) (n cap : Nat) (zs : List Int) (w : World) (hn : n = zs.length) (hs : Sl w a zs) (hr : ∀ z ∈ zs, 0 ≤ z ∧ z ≤ 255) (hl : n ≤ 2000000) (hk0 : 0 < zs.length) (hk : kindB (zs.getD 0 0) = false) :
    Calls Tryz.prog 37 #[.slice a n cap] w fun e w' => GP w w' e 0 0 0 0 [] [] 1 := by
  obtain ⟨W0, hW0⟩ : ∃ W0, W0 = w.alloc (.cells #[.int .i64 0, .int .i64 0, .int .i64 0, .slice none 0 0, .slice none 0 0, .int .i64 0] 30) := ⟨_, rfl⟩
  have HW : Hid (W0 = _) := hW0
  have B0 : Below w.heap.size w W0 := by rw [hW0]; exact bel_alloc _ _
  have X0 : Blk W0 w.heap.size 30 #[.int .i64 0, .int .i64 0, .int .i64 0, .slice none 0 0, .slice none 0 0, .int .i64 0] := by rw [hW0]; exact Blk.new _ _ _
  obtain ⟨bk, off, ea, _, hc⟩ := cell_at (hs.below B0) (show 0 < zs.length by omega)
  have hc0 : W0.cell? ⟨bk, off, none⟩ = some (.int .u8 (zs.getD 0 0)) := by simpa using hc
  have rg := get_rg hr 0
  have hz : ¬ (n : Int) = 0 := by omega
  have hz0 : (0 : Int) < (n : Int) := by omega
  have HS : Hid (n = zs.length ∧ Sl w a zs ∧ (∀ z ∈ zs, 0 ≤ z ∧ z ≤ 255)) := ⟨hn, hs, hr⟩
  have HP : Hid (0 < zs.length) := hk0
  subst ea
  clear hn hs hr hc hW0 hk0
  generalize zs.getD 0 0 = z0 at *
  obtain ⟨x0, x1, x2, x3, x4, x5⟩ := X0.six
  have fr := X0.fro
  go_enter Tryz.func37, Tryz.ntmps37
  go_upto_region 1 with fail
  rw [← HW.out]
  go_wp2_with fail
  refine (isKind_any z0 _ _ hk).mono ?_
  rintro e wx ⟨rfl, rfl⟩
  go_wp2
  refine bodyPost_ret (v := .tuple #[rq 0 0 0 0 none none 0 0 0 0, .int .i64 1]) (by simp [results, Tryz.results37, go_sem, x0, x1, x2, x3, x4, x5]) rfl ?_
  exact gp_zero (bel_set6 B0 (Nat.le_refl _))
set_option maxRecDepth 20000 in
set_option maxHeartbeats 8000000 in
theorem get_no (a : Option Addr) (n cap : Nat) (zs : List Int) (w : World) (hn : n = zs.length) (hs : Sl w a zs) (hr : ∀ z ∈ zs, 0 ≤ z ∧ z ≤ 255) (hl : n ≤ 2000000) (hk0 : 0 < zs.length) (hk : kindB (zs.getD 0 0) = true) (T : TypeId) (P : Value → World → Prop) (hP : ∀ v u u', P v u → Below u.heap.size u u' → P v u')
    (hq : ∀ u, Below w.heap.size w u → Calls Tryz.prog 62 #[.slice a n cap] u fun e u' => ∃ v, e = .returned (.iface T v) ∧ Below u.heap.size u u' ∧ P v u')
    (hi : ∀ v u, P v u → Calls Tryz.prog 55 #[.iface T v] u fun e u' => e = .returned (.bool false) ∧ Below u.heap.size u u')
    : Calls Tryz.prog 37 #[.slice a n cap] w fun e w' => GP w w' e 0 0 0 0 [] [] 3 := by
  obtain ⟨W0, hW0⟩ : ∃ W0, W0 = w.alloc (.cells #[.int .i64 0, .int .i64 0, .int .i64 0, .slice none 0 0, .slice none 0 0, .int .i64 0] 30) := ⟨_, rfl⟩
  have HW : Hid (W0 = _) := hW0
  have B0 : Below w.heap.size w W0 := by rw [hW0]; exact bel_alloc _ _
  have X0 : Blk W0 w.heap.size 30 #[.int .i64 0, .int .i64 0, .int .i64 0, .slice none 0 0, .slice none 0 0, .int .i64 0] := by rw [hW0]; exact Blk.new _ _ _
  obtain ⟨bk, off, ea, _, hc⟩ := cell_at (hs.below B0) (show 0 < zs.length by omega)
  have hc0 : W0.cell? ⟨bk, off, none⟩ = some (.int .u8 (zs.getD 0 0)) := by simpa using hc
  have rg := get_rg hr 0
  have hz : ¬ (n : Int) = 0 := by omega
  have hz0 : (0 : Int) < (n : Int) := by omega
  have HS : Hid (n = zs.length ∧ Sl w a zs ∧ (∀ z ∈ zs, 0 ≤ z ∧ z ≤ 255)) := ⟨hn, hs, hr⟩
  have HP : Hid (0 < zs.length) := hk0
  subst ea
  clear hn hs hr hc hW0 hk0
  generalize zs.getD 0 0 = z0 at *
  obtain ⟨x0, x1, x2, x3, x4, x5⟩ := X0.six
  have fr := X0.fro
  go_enter Tryz.func37, Tryz.ntmps37
  go_upto_region 1 with fail
  rw [← HW.out]
  go_wp2_with fail
  refine (isKind_any z0 _ _ hk).mono ?_
  rintro e wx ⟨rfl, rfl⟩
  go_wp2_with fail
  refine (hq _ B0).mono ?_
  rintro e w1 ⟨v, rfl, b1, p1⟩
  have B1 := bel_next B0 b1
  have X1 := X0.below b1
  clear hq x0 x1 x2 x3 x4 x5 fr X0 hc0
  go_wp2_with fail
  refine (hi _ _ p1).mono ?_
  rintro e w2 ⟨rfl, b2⟩
  have B2 := bel_next B1 b2
  have X2 := X1.below b2
  have p2 := hP _ _ _ p1 b2
  clear hi b1 b2 X1 B1 p1
  obtain ⟨y0, y1, y2, y3, y4, y5⟩ := X2.six
  have fy := X2.fro
  go_wp2
  refine bodyPost_ret (v := .tuple #[rq 0 0 0 0 none none 0 0 0 0, .int .i64 3]) (by simp [results, Tryz.results37, go_sem, y0, y1, y2, y3, y4, y5]) rfl ?_
  exact gp_zero (bel_set6 B2 (Nat.le_refl _))
set_option maxRecDepth 20000 in
set_option maxHeartbeats 8000000 in
theorem get_ne (a : Option Addr) (n cap : Nat) (zs : List Int) (w : World) (hn : n = zs.length) (hs : Sl w a zs) (hr : ∀ z ∈ zs, 0 ≤ z ∧ z ≤ 255) (hl : n ≤ 2000000) (hk0 : 0 < zs.length) (hk : kindB (zs.getD 0 0) = true) (T : TypeId) (P : Value → World → Prop) (hP : ∀ v u u', P v u → Below u.heap.size u u' → P v u')
    (hq : ∀ u, Below w.heap.size w u → Calls Tryz.prog 62 #[.slice a n cap] u fun e u' => ∃ v, e = .returned (.iface T v) ∧ Below u.heap.size u u' ∧ P v u')
    (hi : ∀ v u, P v u → Calls Tryz.prog 55 #[.iface T v] u fun e u' => e = .returned (.bool true) ∧ Below u.heap.size u u')
    (Z : List Int) (hput : ∀ v u, P v u → Calls Tryz.prog 32 #[.iface T v] u fun e u' => Nw u u' e Z) (hZr : ∀ z ∈ Z, 0 ≤ z ∧ z ≤ 255) (hZp : 0 < Z.length) (hZ : decide (Z = zs) = false)
    : Calls Tryz.prog 37 #[.slice a n cap] w fun e w' => GP w w' e 0 0 0 0 [] [] 3 := by
  obtain ⟨W0, hW0⟩ : ∃ W0, W0 = w.alloc (.cells #[.int .i64 0, .int .i64 0, .int .i64 0, .slice none 0 0, .slice none 0 0, .int .i64 0] 30) := ⟨_, rfl⟩
  have HW : Hid (W0 = _) := hW0
  have B0 : Below w.heap.size w W0 := by rw [hW0]; exact bel_alloc _ _
  have X0 : Blk W0 w.heap.size 30 #[.int .i64 0, .int .i64 0, .int .i64 0, .slice none 0 0, .slice none 0 0, .int .i64 0] := by rw [hW0]; exact Blk.new _ _ _
  obtain ⟨bk, off, ea, _, hc⟩ := cell_at (hs.below B0) (show 0 < zs.length by omega)
  have hc0 : W0.cell? ⟨bk, off, none⟩ = some (.int .u8 (zs.getD 0 0)) := by simpa using hc
  have rg := get_rg hr 0
  have hz : ¬ (n : Int) = 0 := by omega
  have hz0 : (0 : Int) < (n : Int) := by omega
  have HS : Hid (n = zs.length ∧ Sl w a zs ∧ (∀ z ∈ zs, 0 ≤ z ∧ z ≤ 255)) := ⟨hn, hs, hr⟩
  have HP : Hid (0 < zs.length) := hk0
  subst ea
  clear hn hs hr hc hW0 hk0
  generalize zs.getD 0 0 = z0 at *
  obtain ⟨x0, x1, x2, x3, x4, x5⟩ := X0.six
  have fr := X0.fro
  go_enter Tryz.func37, Tryz.ntmps37
  go_upto_region 1 with fail
  rw [← HW.out]
  go_wp2_with fail
  refine (isKind_any z0 _ _ hk).mono ?_
  rintro e wx ⟨rfl, rfl⟩
  go_wp2_with fail
  refine (hq _ B0).mono ?_
  rintro e w1 ⟨v, rfl, b1, p1⟩
  have B1 := bel_next B0 b1
  have X1 := X0.below b1
  clear hq x0 x1 x2 x3 x4 x5 fr X0 hc0
  go_wp2_with fail
  refine (hi _ _ p1).mono ?_
  rintro e w2 ⟨rfl, b2⟩
  have B2 := bel_next B1 b2
  have X2 := X1.below b2
  have p2 := hP _ _ _ p1 b2
  clear hi b1 b2 X1 B1 p1
  go_wp2_with fail
  refine (hput _ _ p2).mono ?_
  rintro e w3 ⟨g3, c3, n3, rfl, hn3, o3, b3⟩
  have B3 := bel_next B2 b3
  have X3 := X2.below b3
  have p3 := hP _ _ _ p2 b3
  have Hn3 : Hid (n3 = Z.length) := hn3
  clear hput hn3 b3 X2 B2 p2
  go_wp2_with fail
  refine (bytesEqual_any _ _ _ _ _ _ Z zs _ Hn3.out HS.out.1 o3.sl.2 (HS.out.2.1.below B3) hZp HP.out hZr HS.out.2.2 _ hZ).mono ?_
  rintro e wx ⟨rfl, rfl⟩
  obtain ⟨y0, y1, y2, y3, y4, y5⟩ := X3.six
  have fy := X3.fro
  go_wp2
  refine bodyPost_ret (v := .tuple #[rq 0 0 0 0 none none 0 0 0 0, .int .i64 3]) (by simp [results, Tryz.results37, go_sem, y0, y1, y2, y3, y4, y5]) rfl ?_
  exact gp_zero (bel_set6 B3 (Nat.le_refl _))
set_option maxRecDepth 20000 in
set_option maxHeartbeats 8000000 in
theorem get_eq (a : Option Addr) (n cap : Nat) (zs : List Int) (w : World) (hn : n = zs.length) (hs : Sl w a zs) (hr : ∀ z ∈ zs, 0 ≤ z ∧ z ≤ 255) (hl : n ≤ 2000000) (hk0 : 0 < zs.length) (hk : kindB (zs.getD 0 0) = true) (T : TypeId) (F : Nat) (kd pl nn wa : Int) (ws : List Int) (bs : List Bool) (P : Value → World → Prop) (hP : ∀ v u u', P v u → Below u.heap.size u u' → P v u')
    (hq : ∀ u, Below w.heap.size w u → Calls Tryz.prog 62 #[.slice a n cap] u fun e u' => ∃ v, e = .returned (.iface T v) ∧ Below u.heap.size u u' ∧ P v u')
    (hi : ∀ v u, P v u → Calls Tryz.prog 55 #[.iface T v] u fun e u' => e = .returned (.bool true) ∧ Below u.heap.size u u')
    (Z : List Int) (hput : ∀ v u, P v u → Calls Tryz.prog 32 #[.iface T v] u fun e u' => Nw u u' e Z) (hZr : ∀ z ∈ Z, 0 ≤ z ∧ z ≤ 255) (hZp : 0 < Z.length) (hZ : decide (Z = zs) = true)
    (hc : ∀ v u, (callFunc F #[v]).run Tryz.prog u = .ok (.enter F #[v]) u)
    (hm : ∀ v u, (method 280 T v "loop.example/g00129/impl.req").run Tryz.prog u = .ok (F, v) u)
    (hreq : ∀ v u, Below w.heap.size w u → P v u → Calls Tryz.prog F #[v] u fun e u' => ∃ a1 a2 l1 l2 c1 c2, e = .returned (rq kd pl nn wa a1 a2 l1 l2 c1 c2) ∧ l1 = ws.length ∧ l2 = bs.length ∧ OwnI u' w.heap.size (.slice a1 l1 c1) ws ∧ OwnB u' w.heap.size (.slice a2 l2 c2) bs ∧ Below u.heap.size u u')
    : Calls Tryz.prog 37 #[.slice a n cap] w fun e w' => GP w w' e kd pl nn wa ws bs 0 := by
  obtain ⟨W0, hW0⟩ : ∃ W0, W0 = w.alloc (.cells #[.int .i64 0, .int .i64 0, .int .i64 0, .slice none 0 0, .slice none 0 0, .int .i64 0] 30) := ⟨_, rfl⟩
  have HW : Hid (W0 = _) := hW0
  have B0 : Below w.heap.size w W0 := by rw [hW0]; exact bel_alloc _ _
  have X0 : Blk W0 w.heap.size 30 #[.int .i64 0, .int .i64 0, .int .i64 0, .slice none 0 0, .slice none 0 0, .int .i64 0] := by rw [hW0]; exact Blk.new _ _ _
  obtain ⟨bk, off, ea, _, hc⟩ := cell_at (hs.below B0) (show 0 < zs.length by omega)
  have hc0 : W0.cell? ⟨bk, off, none⟩ = some (.int .u8 (zs.getD 0 0)) := by simpa using hc
  have rg := get_rg hr 0
  have hz : ¬ (n : Int) = 0 := by omega
  have hz0 : (0 : Int) < (n : Int) := by omega
  have HS : Hid (n = zs.length ∧ Sl w a zs ∧ (∀ z ∈ zs, 0 ≤ z ∧ z ≤ 255)) := ⟨hn, hs, hr⟩
  have HP : Hid (0 < zs.length) := hk0
  subst ea
  clear hn hs hr hc hW0 hk0
  generalize zs.getD 0 0 = z0 at *
  obtain ⟨x0, x1, x2, x3, x4, x5⟩ := X0.six
  have fr := X0.fro
  go_enter Tryz.func37, Tryz.ntmps37
  go_upto_region 1 with fail
  rw [← HW.out]
  go_wp2_with fail
  refine (isKind_any z0 _ _ hk).mono ?_
  rintro e wx ⟨rfl, rfl⟩
  go_wp2_with fail
  refine (hq _ B0).mono ?_
  rintro e w1 ⟨v, rfl, b1, p1⟩
  have B1 := bel_next B0 b1
  have X1 := X0.below b1
  clear hq x0 x1 x2 x3 x4 x5 fr X0 hc0
  go_wp2_with fail
  refine (hi _ _ p1).mono ?_
  rintro e w2 ⟨rfl, b2⟩
  have B2 := bel_next B1 b2
  have X2 := X1.below b2
  have p2 := hP _ _ _ p1 b2
  clear hi b1 b2 X1 B1 p1
  go_wp2_with fail
  refine (hput _ _ p2).mono ?_
  rintro e w3 ⟨g3, c3, n3, rfl, hn3, o3, b3⟩
  have B3 := bel_next B2 b3
  have X3 := X2.below b3
  have p3 := hP _ _ _ p2 b3
  have Hn3 : Hid (n3 = Z.length) := hn3
  clear hput hn3 b3 X2 B2 p2
  go_wp2_with fail
  refine (bytesEqual_any _ _ _ _ _ _ Z zs _ Hn3.out HS.out.1 o3.sl.2 (HS.out.2.1.below B3) hZp HP.out hZr HS.out.2.2 _ hZ).mono ?_
  rintro e wx ⟨rfl, rfl⟩
  go_wp2_with (refine (hreq _ _ B3 p3).mono ?_; rintro e w4 ⟨a1, a2, l1, l2, c1, c2, rfl, e1, e2, r1, r2, b4⟩; have B4 := bel_next B3 b4; have X4 := X3.below b4; have HE : Hid (l1 = ws.length ∧ l2 = bs.length) := ⟨e1, e2⟩; clear e1 e2 b4 X3 B3 p3; obtain ⟨y0, y1, y2, y3, y4, y5⟩ := X4.six; have fy := X4.fro)
  refine bodyPost_ret (v := .tuple #[rq kd pl nn wa a1 a2 l1 l2 c1 c2, .int .i64 0]) (by simp [results, Tryz.results37, go_sem, y0, y1, y2, y3, y4, y5]) rfl ?_
  exact ⟨a1, a2, l1, l2, c1, c2, rfl, HE.out.1, HE.out.2, row_set6 r1 ⟨_, X4⟩ (by decide), row_set6 r2 ⟨_, X4⟩ (by decide), bel_set6 B4 (Nat.le_refl _)⟩
end Go.Proofs.YtohikbpolofklaaGreatDoor
namespace Go.Proofs.YtohikbpolofklaaGreatDoor
open Go.RowKit
def ub (zs : List Int) (k : Nat) : Bool := zs.getD (k / 8) 0 / ((2 ^ (k % 8) : Nat) : Int) % 2 == 1
theorem and_one : ∀ y : Nat, y < 256 → bits .and .u8 (y : Int) 1 = (y : Int) % 2 := by decide +kernel
theorem pow_cast (k : Nat) : (2 : Int) ^ (k % 8) = ((2 ^ (k % 8) : Nat) : Int) := by simp
theorem ub_eq {zs : List Int} (hr : ∀ z ∈ zs, 0 ≤ z ∧ z ≤ 255) (k : Nat) : (bits BinOp.and IntKind.u8 (zs.getD (k / 8) 0 / 2 ^ (k % 8)) 1 == 1) = ub zs k := by
  have rg := get_range hr (k / 8)
  unfold ub
  rw [pow_cast]
  generalize zs.getD (k / 8) 0 = z at *
  obtain ⟨y, rfl⟩ := Int.eq_ofNat_of_zero_le rg.1
  have e : ((y : Int) / ((2 ^ (k % 8) : Nat) : Int)) = ((y / 2 ^ (k % 8) : Nat) : Int) := by simp
  have hle : y / 2 ^ (k % 8) < 256 := Nat.lt_of_le_of_lt (Nat.div_le_self _ _) (by omega)
  rw [e, and_one _ hle]
def ubs (zs : List Int) (x : Nat) : List Bool := (List.range x).map (ub zs)
theorem ubs_length (zs : List Int) (x : Nat) : (ubs zs x).length = x := by simp [ubs]
theorem ubs_succ (zs : List Int) (x : Nat) : ubs zs (x + 1) = ubs zs x ++ [ub zs x] := by simp [ubs, List.range_succ]
def okU (zs : List Int) (x : Int) : Bool := decide (0 ≤ x ∧ (zs.length : Int) = (x + 7) / 8 ∧ ∀ j, j < 8 * zs.length → x ≤ (j : Int) → ub zs j = false)
def outU (zs : List Int) (x : Int) : List Bool := if okU zs x = true then ubs zs x.toNat else []
def UnEnds (zs : List Int) (x : Int) (w : World) (e : Ending) (w' : World) : Prop :=
  ∃ a c, e = .returned (.tuple #[.slice a (outU zs x).length c, .bool (okU zs x)]) ∧ OwnB w' w.heap.size (.slice a (outU zs x).length c) (outU zs x) ∧ Below w.heap.size w w'
theorem okU_no {zs : List Int} {x : Int} (h : ¬ (0 ≤ x ∧ (zs.length : Int) = (x + 7) / 8)) : okU zs x = false ∧ outU zs x = [] := by
  have e : okU zs x = false := by unfold okU; exact decide_eq_false (fun hh => h ⟨hh.1, hh.2.1⟩)
  exact ⟨e, by unfold outU; rw [if_neg (by simp [e])]⟩
theorem okU_bad {zs : List Int} {x : Int} (j : Nat) (h : j < 8 * zs.length) (hx : x ≤ (j : Int)) (hb : ub zs j = true) : okU zs x = false ∧ outU zs x = [] := by
  have e : okU zs x = false := by unfold okU; exact decide_eq_false (fun hh => by have := hh.2.2 j h hx; rw [hb] at this; cases this)
  exact ⟨e, by unfold outU; rw [if_neg (by simp [e])]⟩
theorem okU_yes {zs : List Int} {x : Nat} (h : (zs.length : Int) = ((x : Int) + 7) / 8) (hg : ∀ j, j < 8 * zs.length → x ≤ j → ub zs j = false) : okU zs (x : Int) = true ∧ outU zs (x : Int) = ubs zs x := by
  have e : okU zs (x : Int) = true := by unfold okU; exact decide_eq_true ⟨by omega, h, fun j h1 h2 => hg j h1 (by omega)⟩
  exact ⟨e, by unfold outU; rw [if_pos e]; simp⟩
theorem unEnds_no {zs : List Int} {x : Int} {w w' : World} {a : Option Addr} {c : Nat} (h : okU zs x = false ∧ outU zs x = []) (ho : OwnB w' w.heap.size (.slice a 0 c) []) (hb : Below w.heap.size w w') :
    UnEnds zs x w (.returned (.tuple #[.slice a 0 c, .bool false])) w' := by
  unfold UnEnds
  rw [h.1, h.2]
  exact ⟨a, c, rfl, ho, hb⟩
theorem OwnB.shape {w : World} {base : Nat} {v : Value} {zs : List Bool} (h : OwnB w base v zs) : ∃ a cap, v = .slice a zs.length cap := by
  obtain ⟨_, h2⟩ := h
  rcases h2 with ⟨h2, h3⟩ | ⟨g, cap', cur, hv, _⟩
  · exact ⟨none, 0, by rw [h3]; exact h2⟩
  · exact ⟨_, _, hv⟩
theorem unEnds_yes {zs : List Int} {x : Nat} {w w' : World} {v : Value} (h : okU zs (x : Int) = true ∧ outU zs (x : Int) = ubs zs x) (ho : OwnB w' w.heap.size v (ubs zs x)) (hb : Below w.heap.size w w') :
    UnEnds zs (x : Int) w (.returned (.tuple #[v, .bool true])) w' := by
  unfold UnEnds
  rw [h.1, h.2]
  obtain ⟨a, cap, rfl⟩ := ho.shape
  exact ⟨a, cap, rfl, ho, hb⟩
theorem ownB_empty {w wr : World} (hb : Below w.heap.size w wr) : OwnB (wr.alloc (.cells #[] 4)) w.heap.size (.slice (some ⟨wr.heap.size, 0, none⟩) 0 0) [] ∧ Below w.heap.size w (wr.alloc (.cells #[] 4)) :=
  ⟨World.ownsRow_lit (base := w.heap.size) (e := 4) (size := 1) wr #[] 0 hb.size (by unfold maxLen; omega) rfl, hb.alloc hb.size _⟩
set_option maxRecDepth 20000 in
set_option maxHeartbeats 2000000 in
theorem specUnpack_no (a : Option Addr) (n cap : Nat) (zs : List Int) (x : Int) (w : World) (hn : n = zs.length) (hl : n ≤ 2000000) (h : x < 0 ∨ 8 * (n : Int) < x ∨ x ≤ 8 * (n : Int) - 8) :
    Calls Tryz.prog 21 #[.slice a n cap, .int .i64 x] w fun e w' => UnEnds zs x w e w' := by
  have HK : Hid (okU zs x = false ∧ outU zs x = []) := okU_no (by rw [← hn]; omega)
  have R := ownB_empty (Below.refl w.heap.size w)
  clear hn
  by_cases h1 : x < 0
  · have e0 : (x == 0) = false := by simp; omega
    go_enter Tryz.func21, Tryz.ntmps21
    go_wp2
    go_ret2
    exact unEnds_no HK.out R.1 R.2
  · by_cases h2 : 8 * (n : Int) < x
    · have e0 : (x == 0) = false := by simp; omega
      go_enter Tryz.func21, Tryz.ntmps21
      go_wp2
      go_ret2
      exact unEnds_no HK.out R.1 R.2
    · have h3 : x ≤ 8 * (n : Int) - 8 := by omega
      have e1 : ((n : Int) == 0) = false := by simp; omega
      clear h
      by_cases hx0 : x = 0
      · subst hx0
        go_enter Tryz.func21, Tryz.ntmps21
        go_wp2
        go_ret2
        exact unEnds_no HK.out R.1 R.2
      · have e0 : (x == 0) = false := by simp; omega
        go_enter Tryz.func21, Tryz.ntmps21
        go_wp2
        go_ret2
        exact unEnds_no HK.out R.1 R.2
theorem one_cellB {w1 : World} {x : Bool} : ∀ j u, ([Value.bool x])[j]? = some u → (w1.alloc (.cells #[.bool x] 4)).cell? ((⟨w1.heap.size, 0, none⟩ : Addr).add j) = some u := by
  intro j u hu
  match j, hu with
  | 0, hu => simp at hu; subst hu; simp [Addr.add]
  | k + 1, hu => simp at hu
theorem one_oneB (x : Bool) : ∀ u ∈ [Value.bool x], u.oneCell' = true := by
  intro u hu; simp at hu; subst hu; rfl
theorem one_stepB {W wr w1 : World} {o1 : Obj} {v v' : Value} {hs hs' : List Bool} {x y : Bool} (e : hs' = hs ++ [y]) (exy : x = y) (ho : OwnB wr W.heap.size v hs) (hb : Below W.heap.size W wr)
    (h1 : w1.ownsRow W.heap.size 4 1 v' (hs.length + 1) (hs.map Value.bool ++ [Value.bool x])) (g1 : (wr.alloc o1).grownBy w1 v.ownBlock) : OwnB w1 W.heap.size v' hs' ∧ Below W.heap.size W w1 := by
  subst exy
  rw [e]
  refine ⟨by simpa [OwnB] using h1, ?_⟩
  exact (hb.alloc hb.size o1).grown g1 (by have := hb.size; simp; omega) (fun k hk => (World.ownsRow.lt ho k hk).1)
set_option maxRecDepth 20000 in
set_option maxHeartbeats 4000000 in
theorem specUnpack_go (a : Option Addr) (n cap : Nat) (zs : List Int) (x : Nat) (w : World) (hn : n = zs.length) (hs : Sl w a zs) (hr : ∀ z ∈ zs, 0 ≤ z ∧ z ≤ 255) (hl : n ≤ 2000000) (h1 : x ≤ 8 * n) (h2 : 8 * n < x + 8) :
    Calls Tryz.prog 21 #[.slice a n cap, .int .i64 (x : Int)] w fun e w' => UnEnds zs (x : Int) w e w' := by
  have g1 : ¬ (8 * (n : Int) < (x : Int)) := by omega
  have g2 : ¬ ((x : Int) ≤ 8 * (n : Int) - 8) := by omega
  have oe := ownB_empty (Below.refl w.heap.size w)
  obtain ⟨i0, hi, hz0, hz1, hz2⟩ := info_parts Tryz.info4
  have HN : Hid (n = zs.length) := hn
  clear hn
  go_enter Tryz.func21, Tryz.ntmps21
  go_wp2
  go_loopw [6, 7] (fun v i wr => ∃ k : Nat, k ≤ 8 * n ∧ i = .int .i64 k ∧ OwnB wr w.heap.size v (ubs zs (min k x)) ∧ Below w.heap.size w wr ∧ ∀ j, j < k → x ≤ j → ub zs j = false) (fun _ i _ => 8 * n - (intOf i).toNat)
  case atStart => exact ⟨0, Nat.zero_le _, rfl, by simpa [ubs] using oe.1, oe.2, fun j hj => absurd hj (Nat.not_lt_zero _)⟩
  case round =>
    obtain ⟨k, hk, rfl, ho, hb, hg⟩ := hrel
    clear oe
    by_cases hlt : k < 8 * n
    · obtain ⟨b, off, rfl, hb0, hc0⟩ := cell_at hs (k := k / 8) (by have := HN.out; omega)
      have hc : wr.cell? ⟨b, off + k / 8, none⟩ = some (.int .u8 (zs.getD (k / 8) 0)) := by rw [hb.cell (p := ⟨b, off + k / 8, none⟩) hb0]; exact hc0
      have hi' : (k : Int) < 8 * (n : Int) := by omega
      have hi2 : (k : Int) / 8 < (n : Int) := by omega
      have hub : Hid ((bits BinOp.and IntKind.u8 (zs.getD (k / 8) 0 / 2 ^ (k % 8)) 1 == 1) = ub zs k) := ub_eq hr k
      have rg := get_range hr (k / 8)
      generalize zs.getD (k / 8) 0 = z at *
      have HS : Hid (Sl w (some ⟨b, off, none⟩) zs) := hs
      clear hs hc0 hr
      by_cases hx : k < x
      · have hx' : (k : Int) < (x : Int) := by omega
        obtain ⟨t, ht⟩ : ∃ t, t = ub zs k := ⟨_, rfl⟩
        have HT : Hid (t = ub zs k) := ht
        have hbit : (bits BinOp.and IntKind.u8 (z / 2 ^ (k % 8)) 1 == 1) = t := by rw [hub.out, ht]
        have hmin : min k x = k := by omega
        rw [hmin] at ho
        have hm1 : (ubs zs k).length + 1 ≤ maxLen := by rw [ubs_length]; unfold maxLen; omega
        have hm2 : ((ubs zs k).length + 1) * 1 ≤ 140737488355328 := by rw [ubs_length]; omega
        have HG : Hid (∀ j, j < k → x ≤ j → ub zs j = false) := hg
        clear hg ht hmin
        go_wp2_with (at_builtin; refine wpList_append_own _ rfl (.tmp 56) (.tmp 58) 28 rfl w.heap.size 4 i0 (.bool false) 1 1 Tryz.underlying28 hi hz0 hz1 hz2 rfl (by decide) u6 (ubs zs k).length ((ubs zs k).map Value.bool) rfl (ho.alloc _) ⟨wr.heap.size, 0, none⟩ 1 1 [.bool t] rfl (by simp) one_cellB (one_oneB _) hm1 hm2 (by have := hb.size; simp; omega) ?_; intro v' w1 o1 g1 _; have R := one_stepB (ubs_succ zs k) HT.out ho hb o1 g1; clear ho hb o1 g1)
        go_roundw
        case rel =>
          refine ⟨k + 1, by omega, by go_num, ?_, R.2, fun j hj hj2 => HG.out j (by omega) hj2⟩
          have e : min (k + 1) x = k + 1 := by omega
          rw [e]; exact R.1
        case measure => simp [intOf]; omega
      · have hx' : ¬ ((k : Int) < (x : Int)) := by omega
        by_cases hu : ub zs k = true
        · have hbit : (bits BinOp.and IntKind.u8 (z / 2 ^ (k % 8)) 1 == 1) = true := by rw [hub.out, hu]
          have HK : Hid (okU zs (x : Int) = false ∧ outU zs (x : Int) = []) := okU_bad k (by rw [← HN.out]; exact hlt) (by omega) hu
          have R := ownB_empty hb
          clear hg ho hb hu
          go_wp2
          go_ret2
          exact unEnds_no HK.out R.1 R.2
        · have hu' : ub zs k = false := by simpa using hu
          have hbit : (bits BinOp.and IntKind.u8 (z / 2 ^ (k % 8)) 1 == 1) = false := by rw [hub.out, hu']
          have e : min k x = min (k + 1) x := by omega
          rw [e] at ho
          have HR : Hid (OwnB wr w.heap.size u6 (ubs zs (min (k + 1) x)) ∧ Below w.heap.size w wr ∧ ∀ j, j < k + 1 → x ≤ j → ub zs j = false) := ⟨ho, hb, fun j hj hj2 => by
            by_cases ej : j = k
            · subst ej; exact hu'
            · exact hg j (by omega) hj2⟩
          clear ho hb hg hu hu' e
          go_wp2
          go_roundw
          case rel => exact ⟨k + 1, by omega, by go_num, HR.out⟩
          case measure => simp [intOf]; omega
    · obtain rfl : k = 8 * n := by omega
      have e : min (8 * n) x = x := by omega
      rw [e] at ho
      have HY : Hid (okU zs (x : Int) = true ∧ outU zs (x : Int) = ubs zs x) := okU_yes (by rw [← HN.out]; omega) (fun j hj hj2 => hg j (by rw [HN.out]; exact hj) hj2)
      have HO : Hid (OwnB wr w.heap.size u6 (ubs zs x)) := ho
      clear hg ho hs hr e
      go_wp2
      go_ret2
      exact unEnds_yes HY.out HO.out hb
theorem specUnpack_any (a : Option Addr) (n cap : Nat) (zs : List Int) (x : Int) (w : World) (hn : n = zs.length) (hs : Sl w a zs) (hr : ∀ z ∈ zs, 0 ≤ z ∧ z ≤ 255) (hl : n ≤ 2000000) :
    Calls Tryz.prog 21 #[.slice a n cap, .int .i64 x] w fun e w' => UnEnds zs x w e w' := by
  by_cases h : x < 0 ∨ 8 * (n : Int) < x ∨ x ≤ 8 * (n : Int) - 8
  · exact specUnpack_no a n cap zs x w hn hl h
  · obtain ⟨k, rfl⟩ := Int.eq_ofNat_of_zero_le (a := x) (by omega)
    exact specUnpack_go a n cap zs k w hn hs hr hl (by omega) (by omega)
end Go.Proofs.YtohikbpolofklaaGreatDoor
namespace Go.Proofs.YtohikbpolofklaaGreatDoor
open Go.RowKit
theorem top_bit : ∀ s : Nat, s < 8 → ∀ z : Nat, z < 256 → z / 2 ^ s ≠ 0 → ∃ r, r < 8 ∧ s ≤ r ∧ z / 2 ^ r % 2 = 1 := by decide +kernel
theorem left_bad {zs : List Int} (hr : ∀ z ∈ zs, 0 ≤ z ∧ z ≤ 255) {x : Nat} (hn : (zs.length : Int) = ((x : Int) + 7) / 8) (h8 : x % 8 ≠ 0) (hz : zs.getD (x / 8) 0 / ((2 ^ (x % 8) : Nat) : Int) ≠ 0) :
    okU zs (x : Int) = false ∧ outU zs (x : Int) = [] := by
  have rg := get_range hr (x / 8)
  obtain ⟨y, hy⟩ := Int.eq_ofNat_of_zero_le rg.1
  have e : ((y : Int) / ((2 ^ (x % 8) : Nat) : Int)) = ((y / 2 ^ (x % 8) : Nat) : Int) := by simp
  rw [hy, e] at hz
  obtain ⟨r, h1, h2, h3⟩ := top_bit (x % 8) (Nat.mod_lt _ (by decide)) y (by omega) (by omega)
  have ej1 : (8 * (x / 8) + r) / 8 = x / 8 := by omega
  have ej2 : (8 * (x / 8) + r) % 8 = r := by omega
  refine okU_bad (8 * (x / 8) + r) (by omega) (by omega) ?_
  unfold ub
  rw [ej1, ej2, hy]
  have e2 : ((y : Int) / ((2 ^ r : Nat) : Int)) = ((y / 2 ^ r : Nat) : Int) := by simp
  rw [e2]
  have e3 : ((y / 2 ^ r : Nat) : Int) % 2 = 1 := by omega
  rw [e3]; rfl
theorem left_good {zs : List Int} (hr : ∀ z ∈ zs, 0 ≤ z ∧ z ≤ 255) {x : Nat} (hn : (zs.length : Int) = ((x : Int) + 7) / 8) (h : x % 8 = 0 ∨ zs.getD (x / 8) 0 / ((2 ^ (x % 8) : Nat) : Int) = 0) :
    okU zs (x : Int) = true ∧ outU zs (x : Int) = ubs zs x := by
  refine okU_yes hn (fun j hj hx => ?_)
  by_cases h8 : x % 8 = 0
  · omega
  · have hz := h.resolve_left h8
    have rg := get_range hr (x / 8)
    obtain ⟨y, hy⟩ := Int.eq_ofNat_of_zero_le rg.1
    have e : ((y : Int) / ((2 ^ (x % 8) : Nat) : Int)) = ((y / 2 ^ (x % 8) : Nat) : Int) := by simp
    rw [hy, e] at hz
    have hp : 0 < 2 ^ (x % 8) := Nat.two_pow_pos _
    have hlt : y < 2 ^ (x % 8) := by
      have hz' : y / 2 ^ (x % 8) = 0 := by omega
      rcases (Nat.div_eq_zero_iff).1 hz' with h0 | h0
      · omega
      · exact h0
    have ej : j / 8 = x / 8 := by omega
    have hle : 2 ^ (x % 8) ≤ 2 ^ (j % 8) := Nat.pow_le_pow_right (by decide) (by omega)
    unfold ub
    rw [ej, hy]
    have e2 : ((y : Int) / ((2 ^ (j % 8) : Nat) : Int)) = ((y / 2 ^ (j % 8) : Nat) : Int) := by simp
    rw [e2, Nat.div_eq_of_lt (by omega)]; rfl
set_option maxRecDepth 20000 in
set_option maxHeartbeats 2000000 in
theorem implUnpack_neg (a : Option Addr) (n cap : Nat) (zs : List Int) (x : Int) (w : World) (h : x < 0) :
    Calls Tryz.prog 81 #[.slice a n cap, .int .i64 x] w fun e w' => UnEnds zs x w e w' := by
  have HK : Hid (okU zs x = false ∧ outU zs x = []) := okU_no (by omega)
  go_enter Tryz.func81, Tryz.ntmps81
  go_wp2
  go_ret2
  exact unEnds_no HK.out (ownB_nil _ _) (Below.refl _ _)
set_option maxRecDepth 20000 in
set_option maxHeartbeats 2000000 in
theorem implUnpack_len (a : Option Addr) (n cap : Nat) (zs : List Int) (x : Int) (w : World) (hn : n = zs.length) (hx : x ≤ 9223372036854775807) (h : 0 ≤ x) (h2 : (n : Int) ≠ (x + 7) / 8) :
    Calls Tryz.prog 81 #[.slice a n cap, .int .i64 x] w fun e w' => UnEnds zs x w e w' := by
  have HK : Hid (okU zs x = false ∧ outU zs x = []) := okU_no (by rw [← hn]; omega)
  have g1 : ¬ x < 0 := by omega
  clear hn
  obtain ⟨y, hy⟩ : ∃ y, y = (x + 7) / 8 := ⟨_, rfl⟩
  have HY : Hid ((x + 7) / 8 = y) := hy.symm
  have g2 : ((n : Int) != y) = true := by rw [hy]; simp [h2]
  clear hy h2
  go_enter Tryz.func81, Tryz.ntmps81
  go_wp2_with (go_at_call 68; refine (bytesFor_any _ _ h hx).mono ?_; rintro e w1 ⟨rfl, e1⟩; subst e1; rw [HY.out])
  go_ret2
  exact unEnds_no HK.out (ownB_nil _ _) (Below.refl _ _)
set_option maxRecDepth 20000 in
set_option maxHeartbeats 4000000 in
theorem implUnpack_left (a : Option Addr) (n cap : Nat) (zs : List Int) (x : Nat) (w : World) (hn : n = zs.length) (hs : Sl w a zs) (hr : ∀ z ∈ zs, 0 ≤ z ∧ z ≤ 255) (hl : n ≤ 2000000) (h2 : (n : Int) = ((x : Int) + 7) / 8)
    (h8 : x % 8 ≠ 0) (hz : zs.getD (x / 8) 0 / ((2 ^ (x % 8) : Nat) : Int) ≠ 0) :
    Calls Tryz.prog 81 #[.slice a n cap, .int .i64 (x : Int)] w fun e w' => UnEnds zs (x : Int) w e w' := by
  have HK : Hid (okU zs (x : Int) = false ∧ outU zs (x : Int) = []) := left_bad hr (by rw [← hn]; exact h2) h8 hz
  have hxb : (x : Int) ≤ 9223372036854775807 := by omega
  have g2 : Hid (((x : Int) + 7) / 8 = (n : Int)) := h2.symm
  have g3 : ((x : Int) % 8 != 0) = true := by simp; omega
  have g5 : (x : Int) / 8 < (n : Int) := by omega
  obtain ⟨b, off, rfl, hb0, hc⟩ := cell_at hs (k := x / 8) (by omega)
  have rg := get_range hr (x / 8)
  rw [← pow_cast] at hz
  generalize zs.getD (x / 8) 0 = z at *
  have g4 : (z / 2 ^ (x % 8) != 0) = true := by simp [hz]
  clear hs hr hn h2 hz h8
  go_enter Tryz.func81, Tryz.ntmps81
  go_wp2_with (go_at_call 68; refine (bytesFor_any _ _ (by omega) hxb).mono ?_; rintro e w1 ⟨rfl, e1⟩; subst e1; rw [g2.out])
  go_ret2
  exact unEnds_no HK.out (ownB_nil _ _) (Below.refl _ _)
set_option maxRecDepth 20000 in
set_option maxHeartbeats 4000000 in
theorem implUnpack_yes (a : Option Addr) (n cap : Nat) (zs : List Int) (x : Nat) (w : World) (hn : n = zs.length) (hs : Sl w a zs) (hr : ∀ z ∈ zs, 0 ≤ z ∧ z ≤ 255) (hl : n ≤ 2000000) (h2 : (n : Int) = ((x : Int) + 7) / 8)
    (h : x % 8 = 0 ∨ zs.getD (x / 8) 0 / ((2 ^ (x % 8) : Nat) : Int) = 0) :
    Calls Tryz.prog 81 #[.slice a n cap, .int .i64 (x : Int)] w fun e w' => UnEnds zs (x : Int) w e w' := by
  have HY : Hid (okU zs (x : Int) = true ∧ outU zs (x : Int) = ubs zs x) := left_good hr (by rw [← hn]; exact h2) h
  have hxb : (x : Int) ≤ 9223372036854775807 := by omega
  have g2 : Hid (((x : Int) + 7) / 8 = (n : Int)) := h2.symm
  have hx8 : Hid (8 * n < x + 8 ∧ x ≤ 8 * n) := by show _ ∧ _; omega
  have hxl : x ≤ 16000000 := by omega
  have HN : Hid (n = zs.length) := hn
  have hmk := run_make_row' (P := Tryz.prog) 28 4 (.bool false) 1 Tryz.underlying28 Tryz.info4 rfl .i64 .i64 x (by omega) (by omega)
  have HS : Hid (Sl w a zs) := hs
  have HRG : Hid (∀ z ∈ zs, 0 ≤ z ∧ z ≤ 255) := hr
  have hcase : ((x : Int) % 8 != 0) = false ∨ (((x : Int) % 8 != 0) = true ∧ ∃ b off z, a = some ⟨b, off, none⟩ ∧ w.cell? ⟨b, off + x / 8, none⟩ = some (.int .u8 z) ∧ (x : Int) / 8 < (n : Int) ∧ 0 ≤ z ∧ z ≤ 255 ∧ (z / 2 ^ (x % 8) != 0) = false) := by
    by_cases h8 : x % 8 = 0
    · left; simp; omega
    · right
      obtain ⟨b, off, ha, _, hc⟩ := cell_at hs (k := x / 8) (by omega)
      have rg := get_range hr (x / 8)
      have hz := h.resolve_left h8
      rw [← pow_cast] at hz
      exact ⟨by simp; omega, b, off, _, ha, hc, by omega, rg.1, rg.2, bne_eq_false_iff_eq.2 hz⟩
  clear hs hr hn h2 h
  rcases hcase with g3 | ⟨g3, b, off, z, rfl, hc, g5, z0, z1, g4⟩
  all_goals
    go_enter Tryz.func81, Tryz.ntmps81
    go_wp2_with (go_at_call 68; refine (bytesFor_any _ _ (by omega) hxb).mono ?_; rintro e w1 ⟨rfl, e1⟩; subst e1; rw [g2.out])
    clear hmk
    go_loopw [35] (fun i wr => ∃ k : Nat, k ≤ x ∧ i = .int .i64 k ∧ wr.rowIs w1.heap.size 4 x (fun i => if i < k then .bool (ub zs i) else .bool false) ∧ Below w1.heap.size w1 wr) (fun i _ => x - (intOf i).toNat)
    case atStart => exact ⟨0, Nat.zero_le _, rfl, (World.rowIs_made w1 _ _ _).congr (fun i _ => by simp), (Below.refl _ _).alloc (Nat.le_refl _) _⟩
    case round =>
      obtain ⟨k, hk, rfl, hrow, hb⟩ := hrel
      by_cases hlt : k < x
      · obtain ⟨b1, off1, ha1, hb1, hc1⟩ := cell_at HS.out (k := k / 8) (by have := HN.out; have := hx8.out; omega)
        have hcc : wr.cell? ⟨b1, off1 + k / 8, none⟩ = some (.int .u8 (zs.getD (k / 8) 0)) := by rw [hb.cell (p := ⟨b1, off1 + k / 8, none⟩) hb1]; exact hc1
        have hi' : (k : Int) < (x : Int) := by omega
        have hi2 : (k : Int) / 8 < (n : Int) := by have := hx8.out; omega
        have hub : (bits BinOp.and IntKind.u8 (zs.getD (k / 8) 0 / 2 ^ (k % 8)) 1 == 1) = ub zs k := ub_eq HRG.out k
        have rg := get_range HRG.out (k / 8)
        generalize zs.getD (k / 8) 0 = z' at *
        have hst := hrow.cell hlt
        simp only [Nat.lt_irrefl, if_false] at hst
        have hfz := hrow.frozen k
        have R : Hid ((wr.setCell ⟨w1.heap.size, k, none⟩ (.bool (ub zs k))).rowIs w1.heap.size 4 x (fun i => if i < k + 1 then .bool (ub zs i) else .bool false)) := by
          refine (hrow.set k _).congr (fun i _ => ?_)
          by_cases e : i = k
          · subst e; simp
          · rw [if_neg e]
            by_cases h : i < k
            · rw [if_pos h, if_pos (by omega)]
            · rw [if_neg h, if_neg (by omega)]
        have B1 : Hid (Below w1.heap.size w1 (wr.setCell ⟨w1.heap.size, k, none⟩ (.bool (ub zs k)))) := hb.setCell (Nat.le_refl _) _
        generalize ub zs k = t at *
        clear hrow hb hc1 hb1
        first | subst ha1 | (simp only [Option.some.injEq, Addr.mk.injEq] at ha1; obtain ⟨rfl, rfl, _⟩ := ha1)
        go_wp2
        go_roundw
        case rel => exact ⟨k + 1, by omega, by go_num, R.out, B1.out⟩
        case measure => simp [intOf]; omega
      · obtain rfl : k = x := by omega
        have O : Hid (OwnB wr w1.heap.size (.slice (some ⟨w1.heap.size, 0, none⟩) k k) (ubs zs k)) := OwnB.ofRow (hrow.congr (fun i hi => by rw [if_pos hi]; simp [ubs, hi])) (by rw [ubs_length]) (Nat.le_refl _) (by unfold maxLen; omega)
        clear hrow
        go_wp2
        go_ret2
        exact unEnds_yes HY.out O.out hb
theorem implUnpack_any (a : Option Addr) (n cap : Nat) (zs : List Int) (x : Int) (w : World) (hn : n = zs.length) (hs : Sl w a zs) (hr : ∀ z ∈ zs, 0 ≤ z ∧ z ≤ 255) (hl : n ≤ 2000000) (hx : x ≤ 9223372036854775807) :
    Calls Tryz.prog 81 #[.slice a n cap, .int .i64 x] w fun e w' => UnEnds zs x w e w' := by
  by_cases h : x < 0
  · exact implUnpack_neg a n cap zs x w h
  · by_cases h2 : (n : Int) = (x + 7) / 8
    · obtain ⟨k, rfl⟩ := Int.eq_ofNat_of_zero_le (a := x) (by omega)
      by_cases h3 : k % 8 = 0 ∨ zs.getD (k / 8) 0 / ((2 ^ (k % 8) : Nat) : Int) = 0
      · exact implUnpack_yes a n cap zs k w hn hs hr hl h2 h3
      · exact implUnpack_left a n cap zs k w hn hs hr hl h2 (fun e => h3 (.inl e)) (fun e => h3 (.inr e))
    · exact implUnpack_len a n cap zs x w hn hx (by omega) h2
end Go.Proofs.YtohikbpolofklaaGreatDoor
