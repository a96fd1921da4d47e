/- Frames on streams: NextMbap, of the model. -/
import Derived.Test.YtbdlppihiffjgaaMb3
import Derived.Test.YtbdlppihiffjgaaSteps
import Derived.OwnWalk
import Derived.Deep.RegionHeld3
namespace Go.Proofs.Ytbdlppihiffjgaa
open Go.RowKit

set_option linter.unusedVariables false

set_option linter.unusedSimpArgs false

/-- append onto a row of bytes of the call's own, in a statement whose order is open. -/
theorem step_appM {ops : Array Oper} {o : Oper} {a : Act} {w : World} {K : Act → World → Prop} {Q : Exit → Act → World → Prop} {E : Prop} (hgd : o.guard = none) (s x : Operand)
    (ho : o.op = .call { callee := .builtin .append, args := #[s, x], argTypes := #[22, 22] }) (base : Nat) (v : Value) (zs : List Int) (hs : a.eval s = v) (hown : Own w base v zs)
    (ad : Addr) (m c : Nat) (ys : List Int) (hx : a.eval x = .slice (some ad) m c) (hm : m = ys.length) (hsl : Sl w (some ad) ys) (hlen : zs.length + ys.length ≤ 4000000) (hbase : base ≤ w.heap.size)
    (h : ∀ v' w', Own w' base v' (zs ++ ys) → w.grownBy w' v.ownBlock → K (a.put o.dst v') w') : if Region.wanted o (yielded ops a.tmps) = true then Oper.wp Try.prog o a w K Q else E := by
  obtain ⟨i0, hi, hz0, hz1, hz2⟩ := info_parts Try.info5
  subst hm
  refine step_append_own hgd s x 22 ho base 5 i0 (.int .u8 0) 1 1 Try.underlying22 hi hz0 hz1 hz2 rfl (by decide) v zs.length (zs.map (Value.int .u8)) hs hown ad ys.length c (ys.map (Value.int .u8)) hx (by simp) hsl.cellsAt (ones ys) (by unfold maxLen; omega) (by omega) hbase ?_
  intro v' w' h1 h2
  exact h v' w' (by simpa [Own] using h1) h2

theorem own_litM (w : World) (B : Nat) (hB : B ≤ w.heap.size) : Own (w.alloc (.cells #[] 5)) B (.slice (some ⟨w.heap.size, 0, none⟩) 0 0) [] :=
  ⟨rfl, .inr ⟨w.heap.size, 0, #[], rfl, hB, Blk.new w #[] 5, by simp, by simp, rfl, rfl⟩⟩

set_option maxRecDepth 20000 in
set_option maxHeartbeats 2000000 in
theorem specNextMbap_few (a : Option Addr) (l c : Nat) (bs : List Int) (w : World) (hn : l = bs.length) (hs : Sl w a bs) (hr : ∀ z ∈ bs, 0 ≤ z ∧ z ≤ 255) (h4 : l < 4) :
    Calls Try.prog 25 #[.slice a l c] w fun e w' => GM w w' e (nxN bs) (nxU bs) (nxP bs) (nxK bs) (nxC bs) := by
  have HN : Hid (l = bs.length) := hn
  have HS : Hid (Sl w a bs) := hs
  have HR : Hid (∀ z ∈ bs, 0 ≤ z ∧ z ≤ 255) := hr
  have hl2 : l ≤ 2000000 := by omega
  have F6 : Hid (decide (4 + 2 ≤ bs.length) = false) := hide (by simp; omega)
  have R : Hid (bs.getD 2 0 = 0 → ∀ w', Below w.heap.size w w' → GM w (w'.alloc (.cells #[] 5)) (.returned (.tuple #[.int .i64 0, .int .i64 0, .slice (some ⟨w'.heap.size, 0, none⟩) 0 0, .int .i64 0, .int .i64 0])) (nxN bs) (nxU bs) (nxP bs) (nxK bs) (nxC bs)) := fun z2 w' hb => gm_lit w w' 0 bs (nxC_wait (nxM_yes ⟨z2, getD_out (by omega), .inl (by omega)⟩) (.inl (by omega))) (by decide) hb
  by_cases h2 : l ≤ 2
  · have z2 : Hid (bs.getD 2 0 = 0) := getD_out (by omega)
    clear hn hs hr
    go_enter Try.func25, Try.ntmps25
    go_wp2_with fail
    refine (specWordAt_q _ _ _ bs 4 4 _ rfl HN.out HS.out HR.out hl2).mono ?_
    rintro e w1 ⟨rfl, b1⟩
    rw [F6.out]
    generalize wAt bs 4 = x at *
    go_wp2_with fail
    refine bodyPost_ret (v := .tuple #[.int .i64 0, .int .i64 0, .slice (some ⟨w1.heap.size, 0, none⟩) 0 0, .int .i64 0, .int .i64 0]) (by simp [results, Try.results25, go_sem]) rfl ?_
    exact R.out z2.out _ b1
  obtain rfl : l = 3 := by omega
  obtain ⟨b, off, rfl, hb0, hc0⟩ := cell_at hs (k := 2) (by omega)
  by_cases z2 : bs.getD 2 0 = 0
  · have Z2 : Hid (bs.getD 2 0 = 0) := z2
    rw [z2] at hc0
    clear hn hs hr z2
    go_enter Try.func25, Try.ntmps25
    go_wp2_with fail
    refine (specWordAt_q _ _ _ bs 4 4 _ rfl HN.out HS.out HR.out hl2).mono ?_
    rintro e w1 ⟨rfl, b1⟩
    rw [F6.out]
    generalize wAt bs 4 = x at *
    go_wp2_with fail
    refine bodyPost_ret (v := .tuple #[.int .i64 0, .int .i64 0, .slice (some ⟨w1.heap.size, 0, none⟩) 0 0, .int .i64 0, .int .i64 0]) (by simp [results, Try.results25, go_sem]) rfl ?_
    exact R.out Z2.out _ b1
  · have R2 := gm_lit w w 2 bs (nxC_bad (nxM_no (fun h => z2 h.1))) (by decide) (Below.refl _ _)
    clear hn hs hr R
    generalize bs.getD 2 0 = z at *
    have z2' : (z != 0) = true := by simpa using z2
    go_enter Try.func25, Try.ntmps25
    go_wp2_with fail
    refine bodyPost_ret (v := .tuple #[.int .i64 0, .int .i64 0, .slice (some ⟨w.heap.size, 0, none⟩) 0 0, .int .i64 0, .int .i64 2]) (by simp [results, Try.results25, go_sem]) rfl ?_
    exact R2

set_option maxRecDepth 20000 in
set_option maxHeartbeats 2000000 in
theorem specNextMbap_any (a : Option Addr) (l c : Nat) (bs : List Int) (w : World) (hn : l = bs.length) (hlc : l ≤ c) (hs : Sl w a bs) (hr : ∀ z ∈ bs, 0 ≤ z ∧ z ≤ 255) (hl : bs.length ≤ 2000000) :
    Calls Try.prog 25 #[.slice a l c] w fun e w' => GM w w' e (nxN bs) (nxU bs) (nxP bs) (nxK bs) (nxC bs) := by
  by_cases h4 : l < 4
  · exact specNextMbap_few a l c bs w hn hs hr h4
  have HN : Hid (l = bs.length) := hn
  have HR : Hid (∀ z ∈ bs, 0 ≤ z ∧ z ≤ 255) := hr
  have hl2 : l ≤ 2000000 := by omega
  obtain ⟨b, off, rfl, hb0, hc2⟩ := cell_at hs (k := 2) (by omega)
  obtain ⟨b', off', e', _, hc3⟩ := cell_at hs (k := 3) (by omega)
  simp only [Option.some.injEq, Addr.mk.injEq, and_true] at e'
  obtain ⟨rfl, rfl⟩ := e'
  have HS : Hid (Sl w (some ⟨b, off, none⟩) bs) := hs
  have i2 : (2 : Int) < (l : Int) := by omega
  have i3 : (3 : Int) < (l : Int) := by omega
  have j2 : 2 < l := by omega
  have j3 : 3 < l := by omega
  by_cases z2 : bs.getD 2 0 = 0
  case neg =>
    have R2 := gm_lit w w 2 bs (nxC_bad (nxM_no (fun h => z2 h.1))) (by decide) (Below.refl _ _)
    clear hn hs hr hl
    generalize bs.getD 2 0 = z at *
    have z2' : (z != 0) = true := by simpa using z2
    go_enter Try.func25, Try.ntmps25
    go_wp2_with fail
    refine bodyPost_ret (v := .tuple #[.int .i64 0, .int .i64 0, .slice (some ⟨w.heap.size, 0, none⟩) 0 0, .int .i64 0, .int .i64 2]) (by simp [results, Try.results25, go_sem]) rfl ?_
    exact R2
  by_cases z3 : bs.getD 3 0 = 0
  case neg =>
    have R2 := gm_lit w w 2 bs (nxC_bad (nxM_no (fun h => z3 h.2.1))) (by decide) (Below.refl _ _)
    rw [z2] at hc2
    clear hn hs hr hl z2
    generalize bs.getD 3 0 = z at *
    have z2' : (z != 0) = true := by simpa using z3
    go_enter Try.func25, Try.ntmps25
    go_wp2_with fail
    refine bodyPost_ret (v := .tuple #[.int .i64 0, .int .i64 0, .slice (some ⟨w.heap.size, 0, none⟩) 0 0, .int .i64 0, .int .i64 2]) (by simp [results, Try.results25, go_sem]) rfl ?_
    exact R2
  have Z : Hid (bs.getD 2 0 = 0 ∧ bs.getD 3 0 = 0) := ⟨z2, z3⟩
  rw [z2] at hc2
  rw [z3] at hc3
  have hbd := wAt_bd hr 4
  have RG : Hid (0 ≤ bs.getD 6 0 ∧ bs.getD 6 0 ≤ 255) := get_range hr 6
  have HL : Hid (bs.length ≤ 2000000 ∧ l ≤ c) := ⟨hl, hlc⟩
  clear hn hs hr hl z2 z3
  go_enter Try.func25, Try.ntmps25
  go_wp2_with fail
  refine (specWordAt_q _ _ _ bs 4 4 _ rfl HN.out HS.out HR.out hl2).mono ?_
  rintro e w1 ⟨rfl, b1⟩
  by_cases h6 : 4 + 2 ≤ bs.length
  case neg =>
    rw [decide_eq_false h6]
    have R2 := gm_lit w w1 0 bs (nxC_wait (nxM_yes ⟨Z.out.1, Z.out.2, .inl (by omega)⟩) (.inl (by omega))) (by decide) b1
    clear Z
    generalize wAt bs 4 = x at *
    go_wp2_with fail
    refine bodyPost_ret (v := .tuple #[.int .i64 0, .int .i64 0, .slice (some ⟨w1.heap.size, 0, none⟩) 0 0, .int .i64 0, .int .i64 0]) (by simp [results, Try.results25, go_sem]) rfl ?_
    exact R2
  rw [decide_eq_true h6]
  by_cases x2 : 2 ≤ wAt bs 4
  case neg =>
    have R2 := gm_lit w w1 2 bs (nxC_bad (nxM_no (fun h => by have := h.2.2; omega))) (by decide) b1
    clear Z
    generalize wAt bs 4 = x at *
    go_wp2_with fail
    refine (l1In_any x 2 254 _ false (decide_eq_false (by omega))).mono ?_
    rintro e wx ⟨rfl, ex⟩
    have ex' := ex.symm; subst ex'
    go_wp2_with fail
    refine bodyPost_ret (v := .tuple #[.int .i64 0, .int .i64 0, .slice (some ⟨w1.heap.size, 0, none⟩) 0 0, .int .i64 0, .int .i64 2]) (by simp [results, Try.results25, go_sem]) rfl ?_
    exact R2
  by_cases x3 : wAt bs 4 ≤ 254
  case neg =>
    have R2 := gm_lit w w1 2 bs (nxC_bad (nxM_no (fun h => by have := h.2.2; omega))) (by decide) b1
    clear Z
    generalize wAt bs 4 = x at *
    go_wp2_with fail
    refine (l1In_any x 2 254 _ false (decide_eq_false (by omega))).mono ?_
    rintro e wx ⟨rfl, ex⟩
    have ex' := ex.symm; subst ex'
    go_wp2_with fail
    refine bodyPost_ret (v := .tuple #[.int .i64 0, .int .i64 0, .slice (some ⟨w1.heap.size, 0, none⟩) 0 0, .int .i64 0, .int .i64 2]) (by simp [results, Try.results25, go_sem]) rfl ?_
    exact R2
  have M : nxM bs = true := nxM_yes ⟨Z.out.1, Z.out.2, .inr ⟨x2, x3⟩⟩
  by_cases hw : (l : Int) < 6 + wAt bs 4
  · have R2 := gm_lit w w1 0 bs (nxC_wait M (.inr (by have := HN.out; omega))) (by decide) b1
    clear Z M
    generalize wAt bs 4 = x at *
    go_wp2_with fail
    refine (l1In_any x 2 254 _ true (decide_eq_true ⟨x2, x3⟩)).mono ?_
    rintro e wx ⟨rfl, ex⟩
    have ex' := ex.symm; subst ex'
    go_wp2_with fail
    refine bodyPost_ret (v := .tuple #[.int .i64 0, .int .i64 0, .slice (some ⟨w1.heap.size, 0, none⟩) 0 0, .int .i64 0, .int .i64 0]) (by simp [results, Try.results25, go_sem]) rfl ?_
    exact R2
  have hk : nxC bs = 1 := nxC_good M (by have := HN.out; omega)
  obtain ⟨e1, e2, e3, e4⟩ := nx_good hk
  obtain ⟨s, hm⟩ : ∃ s : Nat, wAt bs 4 = (s : Int) - 6 := ⟨(wAt bs 4 + 6).toNat, by omega⟩
  have h8 : 8 ≤ s := by omega
  have eP : (wAt bs 4).toNat - 1 = s - 7 := by omega
  have HM : Hid (s - 7 = ((bs.drop 7).take (s - 7)).length ∧ s ≤ l ∧ 8 ≤ s) := by show _ ∧ _; have := HN.out; refine ⟨?_, by omega, h8⟩; simp; omega
  have R : Hid (∀ v w2 w3, Below w.heap.size w w2 → Own w3 w2.heap.size v ((bs.drop 7).take (s - 7)) → Below w2.heap.size w2 w3 → GM w w3 (.returned (.tuple #[.int .i64 (wAt bs 0), .int .i64 (bs.getD 6 0), v, .int .i64 (s : Int), .int .i64 1])) (nxN bs) (nxU bs) (nxP bs) (nxK bs) (nxC bs)) := by
    intro v w2 w3 hb1 o2 hb2
    rw [e1, e2, e3, e4, hk, eP, hm]
    obtain ⟨g, c', hv, _, _⟩ := own_some o2 (by have := HM.out; omega)
    subst hv
    refine ⟨_, _, _, by rw [show (6 : Int) + ((s : Int) - 6) = (s : Int) by omega], rfl, o2.monoT hb1.size, bel_next hb1 hb2⟩
  have S7 : Hid (Sl w (some ⟨b, off + 7, none⟩) ((bs.drop 7).take (s - 7))) := (Sl.dropM HS.out).takeM _
  obtain ⟨b', off', e', _, hc6⟩ := cell_at HS.out (k := 6) (by have := HM.out; have := HN.out; omega)
  simp only [Option.some.injEq, Addr.mk.injEq, and_true] at e'
  obtain ⟨rfl, rfl⟩ := e'
  have rg := RG.out
  rw [hm] at x2 x3 hw hbd ⊢
  have HQ : Hid ((([] : List Int).length + ((bs.drop 7).take (s - 7)).length ≤ 4000000)) := hide (by have := HM.out; have := HL.out; have := HN.out; simp; omega)
  have i1 : ¬ ((l : Int) < (s : Int)) := by have := HM.out; omega
  have i2' : (s : Int) ≤ (l : Int) := by have := HM.out; omega
  have i3' : (s : Int) ≤ (c : Int) := by have := HM.out; have := HL.out; omega
  have i4 : (0 : Int) ≤ (s : Int) := by omega
  have i5 : (6 : Int) + ((s : Int) - 6) = (s : Int) := by omega
  have i6 : IntKind.i64.wrap (6 + ((s : Int) - 6)) = (s : Int) := by rw [IntKind.wrap_i64]; omega
  have i7 : IntKind.i64.wrap (s : Int) = (s : Int) := by rw [IntKind.wrap_i64]; omega
  have i8 : (7 : Int) ≤ (s : Int) := by omega
  have n6 : 6 < l := by have := HM.out; omega
  have n6' : (6 : Int) < (l : Int) := by omega
  have n7 : (7 : Int) ≤ (c : Int) := by omega
  have hc7' : ¬ c = 7 := by omega
  generalize bs.getD 6 0 = z at *
  generalize (bs.drop 7).take (s - 7) = ps at *
  have iz : IntKind.i64.wrap z = z := by rw [IntKind.wrap_i64]; omega
  have y2 : 2 ≤ (s : Int) - 6 := by omega
  have y3 : (s : Int) - 6 ≤ 254 := by omega
  clear Z M e1 e2 e3 e4 eP hk hm RG hw x2 x3 hbd
  go_wp2_with fail
  refine (l1In_any ((s : Int) - 6) 2 254 _ true (decide_eq_true ⟨y2, y3⟩)).mono ?_
  rintro e wx ⟨rfl, ex⟩
  have ex' := ex.symm; subst ex'
  go_wp2_with fail
  refine (specWordAt_q _ _ _ bs 0 0 _ rfl HN.out (HS.out.below b1) HR.out hl2).mono ?_
  rintro e w2 ⟨rfl, b2'⟩
  have b2 := bel_next b1 b2'
  generalize wAt bs 0 = x at *
  have q1 : Below w2.heap.size w2 (w2.drew.alloc (.cells #[] 5)) := (Below.refl _ w2).drew.alloc (Nat.le_refl _) _
  have oA : Own (w2.drew.alloc (.cells #[] 5)) w2.heap.size (.slice (some ⟨w2.heap.size, 0, none⟩) 0 0) [] := own_litM w2.drew w2.heap.size (Nat.le_refl _)
  have hc7 : w2.cell? ⟨b, off + 6, none⟩ = some (.int .u8 z) := (b2.cell (p := ⟨b, off + 6, none⟩) hb0).trans hc6
  have hb2 : b < w2.heap.size := by have := b2.size; omega
  have hcq : (w2.drew.alloc (.cells #[] 5)).cell? ⟨b, off + 6, none⟩ = some (.int .u8 z) := by rw [q1.cell (p := ⟨b, off + 6, none⟩) hb2]; exact hc7
  have S8 : Hid (Sl w2 (some ⟨b, off + 7, none⟩) ps) := S7.out.below b2
  have HB : Hid (Below w.heap.size w w2) := b2
  clear hc6 hc2 hc3 b2 b1 b2' S7 HS
  go_upto_region 9 with fail
  go_region_held3 (fun w' => w'.cell? ⟨b, off + 6, none⟩ = some (.int .u8 z)) (go_keep)
    (first | (refine step_appM rfl (.tmp 64) (.tmp 68) rfl w2.heap.size _ [] rfl oA ⟨b, off + 7, none⟩ (s - 7) _ ps rfl HM.out.1 (S8.out.below q1) HQ.out q1.size ?_; intro v3 w3 o3 g3; have b3 : Below w2.heap.size w2 w3 := bel_grown q1 oA g3 (Nat.le_refl _) q1.size; rw [List.nil_append] at o3; have hc8 : w3.cell? ⟨b, off + 6, none⟩ = some (.int .u8 z) := by (rw [b3.cell (p := ⟨b, off + 6, none⟩) hb2]; exact hc7)))
  all_goals go_wp2
  all_goals refine bodyPost_ret (v := .tuple #[.int .i64 x, .int .i64 z, v3, .int .i64 (s : Int), .int .i64 1]) (by simp [results, Try.results25, go_sem]) rfl ?_
  all_goals exact R.out _ _ _ HB.out o3 b3

end Go.Proofs.Ytbdlppihiffjgaa
