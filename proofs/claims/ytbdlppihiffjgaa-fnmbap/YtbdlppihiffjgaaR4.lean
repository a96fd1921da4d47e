/- Questions as bytes: the model's helpers. -/
import Derived.Test.YtbdlppihiffjgaaQ6
import Derived.Test.YtbdlppihiffjgaaR3
import Derived.Test.YtbdlppihiffjgaaSteps
namespace Go.Proofs.Ytbdlppihiffjgaa
open Go.RowKit

set_option linter.unusedVariables false

set_option linter.unusedSimpArgs false

/-- append onto a row of bytes of the call's own, in a statement whose order is open. -/
theorem step_app {ops : Array Oper} {o : Oper} {a : Act} {w : World} {K : Act → World → Prop} {Q : Exit → Act → World → Prop} {E : Prop} (hgd : o.guard = none) (s x : Operand)
    (ho : o.op = .call { callee := .builtin .append, args := #[s, x], argTypes := #[22, 22] }) (base : Nat) (v : Value) (zs : List Int) (hs : a.eval s = v) (hown : Own w base v zs)
    (ad : Addr) (m c : Nat) (ys : List Int) (hx : a.eval x = .slice (some ad) m c) (hm : m = ys.length) (hsl : Sl w (some ad) ys) (hlen : zs.length + ys.length ≤ 4000000) (hbase : base ≤ w.heap.size)
    (h : ∀ v' w', Own w' base v' (zs ++ ys) → w.grownBy w' v.ownBlock → K (a.put o.dst v') w') : if Region.wanted o (yielded ops a.tmps) = true then Oper.wp Try.prog o a w K Q else E := by
  obtain ⟨i0, hi, hz0, hz1, hz2⟩ := info_parts Try.info5
  subst hm
  refine step_append_own hgd s x 22 ho base 5 i0 (.int .u8 0) 1 1 Try.underlying22 hi hz0 hz1 hz2 rfl (by decide) v zs.length (zs.map (Value.int .u8)) hs hown ad ys.length c (ys.map (Value.int .u8)) hx (by simp) hsl.cellsAt (ones ys) (by unfold maxLen; omega) (by omega) hbase ?_
  intro v' w' h1 h2
  exact h v' w' (by simpa [Own] using h1) h2

theorem specPutWord_nw (g n c : Nat) (zs : List Int) (x : Int) (w : World) (hn : n = zs.length) (hs : Sl w (some ⟨g, 0, none⟩) zs) (hl : zs.length ≤ 2000000) :
    Calls Try.prog 50 #[.slice (some ⟨g, 0, none⟩) n c, .int .i64 x] w fun e w' => Nw w w' e (zs ++ wb x) := by
  refine (specPutWord_any ⟨g, 0, none⟩ n c zs x w hn hs hl).mono ?_
  rintro e w' ⟨v, rfl, ho, hb⟩
  obtain ⟨g', c', n', hv, hn'⟩ := own_some' ho (by simp)
  subst hv
  exact ⟨g', c', n', rfl, hn', ho, hb⟩

set_option maxHeartbeats 2000000 in
theorem l3Coil_any (g n c : Nat) (zs : List Int) (x : Bool) (w : World) (B : Nat) (hB : B ≤ w.heap.size) (ho : Own w B (.slice (some ⟨g, 0, none⟩) n c) zs) (hl : zs.length ≤ 2000000) :
    Calls Try.prog 65 #[.slice (some ⟨g, 0, none⟩) n c, .bool x] w fun e w' => ∃ g' c' n', e = .returned (.slice (some ⟨g', 0, none⟩) n' c') ∧ n' = (zs ++ [bif x then 255 else 0, 0]).length ∧ Own w' B (.slice (some ⟨g', 0, none⟩) n' c') (zs ++ [bif x then 255 else 0, 0]) ∧ w.heap.size ≤ w'.heap.size ∧ ∀ W, Below B W w → Below B W w' := by
  have HL : Hid (zs.length + [(0 : Int), 0].length ≤ 4000000) := by show zs.length + 2 ≤ 4000000; omega
  have HB : Hid (B ≤ w.heap.size) := hB
  clear hB
  cases x
  · go_enter Try.func65, Try.ntmps65
    go_wp2_with (at_builtin; refine wpList_app rfl (.tmp 9) (.tmp 10) rfl B (.slice (some ⟨g, 0, none⟩) n c) zs rfl (ho.below (bel_alloc _ _)) ⟨w.heap.size, 0, none⟩ 2 2 [0, 0] rfl rfl (sl_lit2 _ _ _ rfl) HL.out (by have := HB.out; simp; omega) ?_; intro v' w1 o1 g1)
    obtain ⟨g', c', n', hv, hn'⟩ := own_some' o1 (by simp)
    have hz : w.heap.size ≤ w1.heap.size := by have := g1.size; simp at this; omega
    have hbb : ∀ W, Below B W w → Below B W w1 := fun W hW => bel_grown (hW.alloc (by have := HB.out; omega) _) (ho.below (bel_alloc _ _)) g1 (Nat.le_refl _) (by have := HB.out; simp; omega)
    subst hv
    have H : Hid (n' = (zs ++ [0, 0]).length ∧ Own w1 B (.slice (some ⟨g', 0, none⟩) n' c') (zs ++ [0, 0]) ∧ w.heap.size ≤ w1.heap.size ∧ ∀ W, Below B W w → Below B W w1) := ⟨hn', o1, hz, hbb⟩
    clear o1 g1 hz hbb hn'
    go_ret
    exact ⟨g', c', n', rfl, H.out⟩
  · go_enter Try.func65, Try.ntmps65
    go_wp2_with (at_builtin; refine wpList_app rfl (.tmp 6) (.tmp 7) rfl B (.slice (some ⟨g, 0, none⟩) n c) zs rfl (ho.below (bel_alloc _ _)) ⟨w.heap.size, 0, none⟩ 2 2 [255, 0] rfl rfl (sl_lit2 _ _ _ rfl) HL.out (by have := HB.out; simp; omega) ?_; intro v' w1 o1 g1)
    obtain ⟨g', c', n', hv, hn'⟩ := own_some' o1 (by simp)
    have hz : w.heap.size ≤ w1.heap.size := by have := g1.size; simp at this; omega
    have hbb : ∀ W, Below B W w → Below B W w1 := fun W hW => bel_grown (hW.alloc (by have := HB.out; omega) _) (ho.below (bel_alloc _ _)) g1 (Nat.le_refl _) (by have := HB.out; simp; omega)
    subst hv
    have H : Hid (n' = (zs ++ [255, 0]).length ∧ Own w1 B (.slice (some ⟨g', 0, none⟩) n' c') (zs ++ [255, 0]) ∧ w.heap.size ≤ w1.heap.size ∧ ∀ W, Below B W w → Below B W w1) := ⟨hn', o1, hz, hbb⟩
    clear o1 g1 hz hbb hn'
    go_ret
    exact ⟨g', c', n', rfl, H.out⟩

set_option maxHeartbeats 2000000 in
theorem l3PutWords_any (g n c : Nat) (zs : List Int) (a : Option Addr) (m cap : Nat) (ws : List Int) (w : World) (hn : n = zs.length) (hs : Sl w (some ⟨g, 0, none⟩) zs) (hl : zs.length ≤ 100000) (hm : m = ws.length) (hw : SlI w a ws) (hlw : ws.length ≤ 100000) (hp : 0 < ws.length) :
    Calls Try.prog 66 #[.slice (some ⟨g, 0, none⟩) n c, .slice a m cap] w fun e w' => Nw w w' e (zs ++ wbs ws) := by
  subst hm
  have HP : Hid (0 < ws.length) := hp
  clear hp
  go_enter Try.func66, Try.ntmps66
  go_wp2
  go_loopw [0, 5] (fun v i wr => ∃ k : Nat, k ≤ ws.length ∧ i = .int .i64 k ∧ (∃ g' c' n', v = .slice (some ⟨g', 0, none⟩) n' c' ∧ n' = (zs ++ wbs (ws.take k)).length ∧ Sl wr (some ⟨g', 0, none⟩) (zs ++ wbs (ws.take k)) ∧ (0 < k → Own wr w.heap.size (.slice (some ⟨g', 0, none⟩) n' c') (zs ++ wbs (ws.take k)))) ∧ Below w.heap.size w wr) (fun _ i _ => ws.length - (intOf i).toNat)
  case atStart => exact ⟨0, Nat.zero_le _, rfl, ⟨g, c, n, rfl, by simpa [wbs] using hn, by simpa [wbs] using hs, fun h => absurd h (Nat.lt_irrefl _)⟩, Below.refl _ _⟩
  case round =>
    obtain ⟨k, hk, rfl, ⟨g', c', n', rfl, hn', hs', ho⟩, hb⟩ := hrel
    by_cases hlt : k < ws.length
    · obtain ⟨b, off, rfl, hbl, hc0⟩ := cell_atI hw hlt
      have hc : wr.cell? ⟨b, off + k, none⟩ = some (.int .i64 (ws.getD k 0)) := by rw [hb.cell (p := ⟨b, off + k, none⟩) hbl]; exact hc0
      have HS : Hid (zs ++ wbs (ws.take (k + 1)) = (zs ++ wbs (ws.take k)) ++ wb (ws.getD k 0)) := by show _ = _; rw [wbs_step ws k hlt]; simp [wb]
      have HLn : Hid ((zs ++ wbs (ws.take k)).length ≤ 2000000) := by show (zs ++ wbs (ws.take k)).length ≤ 2000000; rw [List.length_append, wbs_length, List.length_take]; omega
      have HN : Hid (n' = (zs ++ wbs (ws.take k)).length) := hn'
      generalize ws.getD k 0 = z at *
      have hi' : (k : Int) < (ws.length : Int) := by omega
      clear hc0 hw hs hn hn' ho
      go_wp2_with fail
      refine (specPutWord_nw g' n' c' (zs ++ wbs (ws.take k)) z _ HN.out hs' HLn.out).mono ?_
      rintro e w1 h1
      replace h1 := nw_next hb h1
      rw [← HS.out] at h1
      obtain ⟨g2, c2, n2, rfl, hn2, ho2, hb2⟩ := h1
      have H2 : Hid _ := (⟨hn2, ho2.sl.2, fun _ => ho2⟩ : _ ∧ _ ∧ (0 < k + 1 → _))
      clear hn2 ho2 hs' hb
      go_wp2
      go_roundw
      case rel => exact ⟨k + 1, by omega, by go_num, ⟨g2, c2, n2, rfl, H2.out⟩, hb2⟩
      case measure => simp [intOf]; omega
    · have e : ws.take k = ws := List.take_of_length_le (by omega)
      rw [e] at ho hn'
      have R : Nw w wr (.returned (.slice (some ⟨g', 0, none⟩) n' c')) (zs ++ wbs ws) := ⟨g', c', n', rfl, hn', ho (by have := HP.out; omega), hb⟩
      clear hs hs' ho hn hn' hb e hw
      go_wp2
      go_ret
      exact R

end Go.Proofs.Ytbdlppihiffjgaa
