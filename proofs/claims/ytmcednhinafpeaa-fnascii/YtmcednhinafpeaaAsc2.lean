/- Frames in digits: PutAscii, of the program and of its model. -/
import Derived.Test.YtmcednhinafpeaaAsc1
import Derived.Test.YtmcednhinafpeaaAsc0
import Derived.Test.YtmcednhinafpeaaLrc1
import Derived.Test.YtmcednhinafpeaaHex2
import Derived.Lib.AppendStr
namespace Go.Proofs.Ytmcednhinafpeaa
open Go.RowKit

set_option linter.unusedVariables false

set_option linter.unusedSimpArgs false

/-- Bytes in memory of the call's own, or nothing. -/
def NwT (w w' : World) (e : Ending) (zs : List Int) : Prop := ∃ a c n, e = .returned (.slice a n c) ∧ n = zs.length ∧ Own w' w.heap.size (.slice a n c) zs ∧ Below w.heap.size w w'

theorem nwt_lit (w : World) : NwT w (w.alloc (.cells #[] 5)) (.returned (.slice (some ⟨w.heap.size, 0, none⟩) 0 0)) [] :=
  ⟨_, _, _, rfl, rfl, ⟨rfl, .inr ⟨w.heap.size, 0, #[], rfl, Nat.le_refl _, Blk.new w #[] 5, by simp, by simp, rfl, rfl⟩⟩, bel_alloc _ _⟩

theorem nwt_nil (w : World) : NwT w w (.returned (.slice none 0 0)) [] :=
  ⟨_, _, _, rfl, rfl, ⟨rfl, .inl ⟨rfl, rfl⟩⟩, Below.refl _ _⟩

theorem sl_some {w : World} {a : Option Addr} {zs : List Int} (h : Sl w a zs) (hp : 0 < zs.length) : ∃ ad, a = some ad := by
  rcases h with h | ⟨b, off, ha, _⟩
  · rw [h] at hp; simp at hp
  · exact ⟨_, ha⟩

def okF (un : Int) (l : Nat) : Bool := decide (0 ≤ un ∧ un ≤ 255 ∧ 1 ≤ l ∧ l ≤ 253)

/-- Bytes and their sum. -/
def lrL (bs : List Int) : List Int := bs ++ [lres bs]

/-- A frame around bytes. -/
def asL (bs : List Int) : List Int := [58] ++ hexs bs bs.length ++ [13, 10]

/-- A frame, or nothing. -/
def puA (un : Int) (zs : List Int) : List Int := bif okF un zs.length then asL (lrL (un :: zs)) else []

theorem puA_no {un : Int} {zs : List Int} (h : ¬ (0 ≤ un ∧ un ≤ 255 ∧ 1 ≤ zs.length ∧ zs.length ≤ 253)) : puA un zs = [] := by
  unfold puA okF; rw [decide_eq_false h]; rfl

theorem puA_yes {un : Int} {zs : List Int} (h : 0 ≤ un ∧ un ≤ 255 ∧ 1 ≤ zs.length ∧ zs.length ≤ 253) : puA un zs = asL (lrL (un :: zs)) := by
  unfold puA okF; rw [decide_eq_true h]; rfl

theorem lrL_len (bs : List Int) : (lrL bs).length = bs.length + 1 := by simp [lrL]

theorem asL_len (bs : List Int) : (asL bs).length = 2 * bs.length + 3 := by
  unfold asL
  have := hexs_length bs bs.length (Nat.le_refl _)
  simp [this]

theorem puA_len (un : Int) (zs : List Int) : (puA un zs).length ≤ 600 := by
  unfold puA okF
  by_cases h : 0 ≤ un ∧ un ≤ 255 ∧ 1 ≤ zs.length ∧ zs.length ≤ 253
  · rw [decide_eq_true h]; simp [asL_len, lrL_len]; omega
  · rw [decide_eq_false h]; simp

theorem lres_bd (zs : List Int) : 0 ≤ lres zs ∧ lres zs ≤ 255 := by unfold lres; omega

theorem lrL_rg {bs : List Int} (h : ∀ z ∈ bs, 0 ≤ z ∧ z ≤ 255) : ∀ z ∈ lrL bs, 0 ≤ z ∧ z ≤ 255 := by
  intro z hz
  unfold lrL at hz
  rcases List.mem_append.1 hz with h1 | h1
  · exact h z h1
  · simp at h1; rw [h1]; exact lres_bd bs

theorem hexd_rg (d : Int) (h0 : 0 ≤ d) (h1 : d ≤ 15) : 48 ≤ hexd d ∧ hexd d ≤ 70 ∧ hexd d ≠ 58 := by
  unfold hexd; split <;> omega

theorem hexs_rg {bs : List Int} (h : ∀ z ∈ bs, 0 ≤ z ∧ z ≤ 255) (k : Nat) : ∀ z ∈ hexs bs k, 48 ≤ z ∧ z ≤ 70 ∧ z ≠ 58 := by
  intro z hz
  unfold hexs at hz
  obtain ⟨y, hy, hz⟩ := List.mem_flatMap.1 hz
  have := h y (List.mem_of_mem_take hy)
  simp at hz
  rcases hz with rfl | rfl
  · exact hexd_rg _ (by omega) (by omega)
  · exact hexd_rg _ (by omega) (by omega)

theorem strCells_nums (ys : List Int) (h : ∀ z ∈ ys, 0 ≤ z ∧ z ≤ 255) : Lib.strCells (strOfNums ys) = ys.map (Value.int .u8) := by
  unfold Lib.strCells
  rw [strOfNums_data, List.map_map]
  apply List.map_congr_left
  intro z hz
  have := h z hz
  simp only [Function.comp_apply, Value.int.injEq, true_and]
  rw [UInt8.toNat_ofNat']
  omega

/-- append of a string onto bytes of the call's own. -/
theorem wpList_appS {w : World} {ops : Array Oper} {rest : List Oper} {o : Oper} {a : Act} {Q : Exit → Act → World → Prop} (hgd : o.guard = none) (s x : Operand)
    (ho : o.op = .call { callee := .builtin .append, args := #[s, x], argTypes := #[22, 9] }) (base : Nat) (v : Value) (zs : List Int) (hs : a.eval s = v) (hown : Own w base v zs)
    (ys : List Int) (hx : a.eval x = .string (strOfNums ys)) (hr : ∀ z ∈ ys, 0 ≤ z ∧ z ≤ 255) (hlen : zs.length + ys.length ≤ 4000000) (hbase : base ≤ w.heap.size)
    (h : ∀ v' w', Own w' base v' (zs ++ ys) → w.grownBy w' v.ownBlock → wpList Try.prog ops Q rest (a.put o.dst v') w') : wpList Try.prog ops Q (o :: rest) a w := by
  obtain ⟨i0, hi, hz0, hz1, hz2⟩ := info_parts Try.info5
  refine Lib.wpList_append_own_string _ hgd s x 22 9 ho base 5 i0 Try.underlying22 Try.underlying9 hi hz0 hz1 hz2 v zs.length (zs.map (Value.int .u8)) hs hown _ hx (by rw [strOfNums_size]; unfold maxLen; omega) (by rw [strOfNums_size]; omega) hbase ?_
  intro v' w' h1 h2 _
  rw [strCells_nums ys hr, strOfNums_size] at h1
  exact h v' w' (by simpa [Own] using h1) h2

theorem step_appS {ops : Array Oper} {o : Oper} {a : Act} {w : World} {K : Act → World → Prop} {Q : Exit → Act → World → Prop} {E : Prop} (hgd : o.guard = none) (s x : Operand)
    (ho : o.op = .call { callee := .builtin .append, args := #[s, x], argTypes := #[22, 9] }) (base : Nat) (v : Value) (zs : List Int) (hs : a.eval s = v) (hown : Own w base v zs)
    (ys : List Int) (hx : a.eval x = .string (strOfNums ys)) (hr : ∀ z ∈ ys, 0 ≤ z ∧ z ≤ 255) (hlen : zs.length + ys.length ≤ 4000000) (hbase : base ≤ w.heap.size)
    (h : ∀ v' w', Own w' base v' (zs ++ ys) → w.grownBy w' v.ownBlock → K (a.put o.dst v') w') : if Region.wanted o (yielded ops a.tmps) = true then Oper.wp Try.prog o a w K Q else E := by
  obtain ⟨i0, hi, hz0, hz1, hz2⟩ := info_parts Try.info5
  have hw : Region.wanted o (yielded ops a.tmps) = true := by simp [Region.wanted, hgd]
  rw [if_pos hw]
  obtain ⟨v', w', hr', h2, h3, _⟩ := Lib.run_append_own_string (P := Try.prog) w base 22 9 o.type 5 i0 Try.underlying22 Try.underlying9 hi hz0 hz1 hz2 v zs.length (zs.map (Value.int .u8)) hown (strOfNums ys) (by rw [strOfNums_size]; unfold maxLen; omega) (by rw [strOfNums_size]; omega) hbase
  rw [strCells_nums ys hr, strOfNums_size] at h2
  unfold Oper.wp execOp
  simp only [ho, resolve, invoke, builtin, Sem.run_bind, Sem.run_pure, Result.andThen_ok, List.map_toArray, List.map_cons, List.map_nil, hs, hx, hr']
  exact h _ _ (by simpa [Own] using h2) h3

set_option maxRecDepth 20000 in
set_option maxHeartbeats 4000000 in
theorem specPutAscii_any (un : Int) (a : Option Addr) (l c : Nat) (zs : List Int) (w : World) (hn : l = zs.length) (hs : Sl w a zs) (hr : ∀ z ∈ zs, 0 ≤ z ∧ z ≤ 255) (hl : zs.length ≤ 2000000) :
    Calls Try.prog 18 #[.int .i64 un, .slice a l c] w fun e w' => NwT w w' e (puA un zs) := by
  have hl2 : l ≤ 2000000 := by omega
  by_cases t_u1 : 0 ≤ un
  case neg =>
    rw [puA_no (by omega)]
    clear hn hs hr hl
    go_enter Try.func18, Try.ntmps18
    go_wp2_with (first | (go_at_call 51; go_in) | (go_at_call 55; go_in))
    go_ret
    exact nwt_lit _
  by_cases t_u2 : un ≤ 255
  case neg =>
    rw [puA_no (by omega)]
    clear hn hs hr hl
    go_enter Try.func18, Try.ntmps18
    go_wp2_with (first | (go_at_call 51; go_in) | (go_at_call 55; go_in))
    go_ret
    exact nwt_lit _
  by_cases t_l1 : 1 ≤ (l : Int)
  case neg =>
    rw [puA_no (by omega)]
    obtain rfl : l = 0 := by omega
    clear hn hs hr hl
    go_enter Try.func18, Try.ntmps18
    go_wp2_with (first | (go_at_call 51; go_in) | (go_at_call 55; go_in))
    go_ret
    exact nwt_lit _
  by_cases t_l2 : (l : Int) ≤ 253
  case neg =>
    rw [puA_no (by omega)]
    clear hn hs hr hl
    go_enter Try.func18, Try.ntmps18
    go_wp2_with (first | (go_at_call 51; go_in) | (go_at_call 55; go_in))
    go_ret
    exact nwt_lit _
  rw [puA_yes (by omega)]
  generalize hfr : asL (lrL (un :: zs)) = fr
  have HFR : Hid (asL (lrL (un :: zs)) = fr) := hfr
  clear hfr
  obtain ⟨ad, rfl⟩ := sl_some hs (by omega)
  have B0 := bel_alloc w (.cells #[.int .u8 (un)] 5)
  have o0 := own_lit1 w (un) w.heap.size (Nat.le_refl _)
  have HS : Hid (Sl (w.alloc (.cells #[.int .u8 (un)] 5)) (some ad) zs) := hs.below B0
  have HN : Hid (l = zs.length) := hn
  have HLn : Hid ([un].length + zs.length ≤ 4000000) := by show [un].length + zs.length ≤ 4000000; simp; omega
  have HR : Hid (∀ z ∈ un :: zs, 0 ≤ z ∧ z ≤ 255) := by
    show ∀ z ∈ un :: zs, 0 ≤ z ∧ z ≤ 255
    intro z hz
    rcases List.mem_cons.1 hz with rfl | h
    · omega
    · exact hr z h
  have HLz : Hid (zs.length ≤ 253) := by show zs.length ≤ 253; omega
  clear hn hs hr hl
  go_enter Try.func18, Try.ntmps18
  go_wp2_with (first | (at_builtin; refine wpList_app rfl _ _ rfl w.heap.size (.slice (some ⟨w.heap.size, 0, none⟩) 1 1) [un] rfl o0 ad l c zs rfl HN.out HS.out HLn.out B0.size ?_; intro v1 w1 o1 g1; have B1 : Below w.heap.size w w1 := bel_grown B0 o0 g1 (Nat.le_refl _) B0.size; obtain ⟨g, c1, hv, _, _⟩ := own_some o1 (by simp); subst hv; have o2 : Own w1 w.heap.size (.slice (some ⟨g, 0, none⟩) (un :: zs).length c1) (un :: zs) := o1; clear o1 g1 o0 B0) | (first | (go_at_call 51; go_in) | (go_at_call 55; go_in)))
  refine (specLrc_any _ _ _ (un :: zs) _ (by simp) o2.sl.2 HR.out (by have := HLz.out; simp; omega)).mono ?_
  rintro e w2 ⟨rfl, e2⟩
  subst e2
  have hx := lres_bd (un :: zs)
  have HM : Hid (lrL (un :: zs) = (un :: zs) ++ [lres (un :: zs)]) := rfl
  have HRL : Hid (∀ z ∈ lrL (un :: zs), 0 ≤ z ∧ z ≤ 255) := lrL_rg HR.out
  have HLL : Hid ((lrL (un :: zs)).length = zs.length + 2) := by show _ = _; rw [lrL_len]; rfl
  generalize lres (un :: zs) = x at *
  generalize lrL (un :: zs) = bs at *
  have o3 := o2.below (bel_alloc w2 (.cells #[.int .u8 x] 5))
  have B2 := bel_next B1 (bel_alloc w2 (.cells #[.int .u8 x] 5))
  have HL2 : Hid ((un :: zs).length + [x].length ≤ 4000000) := by show (un :: zs).length + [x].length ≤ 4000000; have := HLz.out; simp; omega
  clear o2 B1
  go_wp2_with (at_builtin; refine wpList_app rfl _ _ rfl w.heap.size (.slice (some ⟨g, 0, none⟩) _ c1) (un :: zs) rfl o3 ⟨w2.heap.size, 0, none⟩ 1 1 [x] rfl rfl (sl_lit1 w2 _ rfl) HL2.out B2.size ?_; intro v4 w4 o4 g4; have B4 : Below w.heap.size w w4 := bel_grown B2 o3 g4 (Nat.le_refl _) B2.size; rw [← HM.out] at o4; obtain ⟨g5, c5, hv, _, _⟩ := own_some o4 (by rw [HLL.out]; omega); subst hv; clear g4 o3 B2 HM)
  have B5 := bel_next B4 (bel_alloc w4 (.cells #[.int .u8 58] 5))
  have o5 := o4.below (bel_alloc w4 (.cells #[.int .u8 58] 5))
  have q5 := own_lit1 w4 58 w4.heap.size (Nat.le_refl _)
  clear o4
  refine (specHex_any _ _ _ bs _ rfl o5.sl.2 HRL.out (by have := HLL.out; have := HLz.out; omega)).mono ?_
  rintro e w6 ⟨rfl, b6⟩
  have B6 := bel_next B5 b6
  have q6 := (q5.below b6).monoT B4.size
  have HX : Hid (∀ z ∈ hexs bs bs.length, 0 ≤ z ∧ z ≤ 255) := fun z hz => by have := hexs_rg HRL.out bs.length z hz; omega
  have HA : Hid (fr = [58] ++ hexs bs bs.length ++ [13, 10]) := by show fr = _; rw [← HFR.out]; rfl
  have HXL : Hid ([(58 : Int)].length + (hexs bs bs.length).length ≤ 4000000) := by show [(58 : Int)].length + (hexs bs bs.length).length ≤ 4000000; rw [hexs_length _ _ (Nat.le_refl _)]; have := HLL.out; have := HLz.out; simp; omega
  have HXL8 : Hid ((hexs bs bs.length).length ≤ 3000000) := by show (hexs bs bs.length).length ≤ 3000000; rw [hexs_length _ _ (Nat.le_refl _)]; have := HLL.out; have := HLz.out; omega
  have HXM : Hid (0 < fr.length) := by show 0 < fr.length; rw [← HFR.out, asL_len]; omega
  clear HFR
  clear o5 q5 b6 B5 B4
  generalize hexs bs bs.length = hx at *
  go_wp2_with (first | (at_builtin; refine wpList_appS rfl _ _ rfl w.heap.size (.slice (some ⟨w4.heap.size, 0, none⟩) 1 1) [58] rfl q6 hx rfl HX.out HXL.out B6.size ?_; intro v7 w7 o7 g7; have B7 : Below w.heap.size w w7 := bel_grown B6 q6 g7 (Nat.le_refl _) B6.size; clear g7 q6 B6 HXL HX; obtain ⟨g7, c7, hv, _, _⟩ := own_some o7 (by simp); subst hv; have B8 := bel_next B7 (bel_alloc w7 (.cells #[.int .u8 13, .int .u8 10] 5)); have o8 := o7.below (bel_alloc w7 (.cells #[.int .u8 13, .int .u8 10] 5)); clear o7 B7) | (at_builtin; refine wpList_app rfl _ _ rfl w.heap.size (.slice (some ⟨g7, 0, none⟩) _ c7) ([58] ++ hx) rfl o8 ⟨w7.heap.size, 0, none⟩ 2 2 [13, 10] rfl rfl (sl_lit2 w7 _ _ rfl) (by have := HXL8.out; simp; omega) B8.size ?_; intro v9 w9 o9 g9; have B9 : Below w.heap.size w w9 := bel_grown B8 o8 g9 (Nat.le_refl _) B8.size; rw [← HA.out] at o9; obtain ⟨g9', c9, hv, _, _⟩ := own_some o9 HXM.out; subst hv; have R : NwT w w9 (.returned (.slice (some ⟨g9', 0, none⟩) fr.length c9)) fr := ⟨_, c9, _, rfl, rfl, o9, B9⟩; clear o9 g9 o8 B8))
  go_ret
  exact R

set_option maxRecDepth 20000 in
set_option maxHeartbeats 4000000 in
theorem implPutAscii_any (un : Int) (a : Option Addr) (l c : Nat) (zs : List Int) (w : World) (hn : l = zs.length) (hs : Sl w a zs) (hr : ∀ z ∈ zs, 0 ≤ z ∧ z ≤ 255) (hl : zs.length ≤ 2000000) :
    Calls Try.prog 11 #[.int .i64 un, .slice a l c] w fun e w' => NwT w w' e (puA un zs) := by
  have hl2 : l ≤ 2000000 := by omega
  by_cases t_u1 : 0 ≤ un
  case neg =>
    rw [puA_no (by omega)]
    clear hn hs hr hl
    go_enter Try.func11, Try.ntmps11
    go_wp2_with (first | (go_at_call 38; go_in) | (go_at_call 39; go_in))
    go_ret
    exact nwt_nil _
  by_cases t_u2 : un ≤ 255
  case neg =>
    rw [puA_no (by omega)]
    clear hn hs hr hl
    go_enter Try.func11, Try.ntmps11
    go_wp2_with (first | (go_at_call 38; go_in) | (go_at_call 39; go_in))
    go_ret
    exact nwt_nil _
  by_cases t_l1 : 1 ≤ (l : Int)
  case neg =>
    rw [puA_no (by omega)]
    obtain rfl : l = 0 := by omega
    clear hn hs hr hl
    go_enter Try.func11, Try.ntmps11
    go_wp2_with (first | (go_at_call 38; go_in) | (go_at_call 39; go_in))
    go_ret
    exact nwt_nil _
  by_cases t_l2 : (l : Int) ≤ 253
  case neg =>
    rw [puA_no (by omega)]
    clear hn hs hr hl
    go_enter Try.func11, Try.ntmps11
    go_wp2_with (first | (go_at_call 38; go_in) | (go_at_call 39; go_in))
    go_ret
    exact nwt_nil _
  rw [puA_yes (by omega)]
  generalize hfr : asL (lrL (un :: zs)) = fr
  have HFR : Hid (asL (lrL (un :: zs)) = fr) := hfr
  clear hfr
  obtain ⟨ad, rfl⟩ := sl_some hs (by omega)
  have B0 := bel_alloc w (.cells #[.int .u8 (un)] 5)
  have o0 := own_lit1 w (un) w.heap.size (Nat.le_refl _)
  have HS : Hid (Sl (w.alloc (.cells #[.int .u8 (un)] 5)) (some ad) zs) := hs.below B0
  have HN : Hid (l = zs.length) := hn
  have HLn : Hid ([un].length + zs.length ≤ 4000000) := by show [un].length + zs.length ≤ 4000000; simp; omega
  have HR : Hid (∀ z ∈ un :: zs, 0 ≤ z ∧ z ≤ 255) := by
    show ∀ z ∈ un :: zs, 0 ≤ z ∧ z ≤ 255
    intro z hz
    rcases List.mem_cons.1 hz with rfl | h
    · omega
    · exact hr z h
  have HLz : Hid (zs.length ≤ 253) := by show zs.length ≤ 253; omega
  clear hn hs hr hl
  go_enter Try.func11, Try.ntmps11
  go_wp2_with (first | (at_builtin; refine wpList_app rfl _ _ rfl w.heap.size (.slice (some ⟨w.heap.size, 0, none⟩) 1 1) [un] rfl o0 ad l c zs rfl HN.out HS.out HLn.out B0.size ?_; intro v1 w1 o1 g1; have B1 : Below w.heap.size w w1 := bel_grown B0 o0 g1 (Nat.le_refl _) B0.size; obtain ⟨g, c1, hv, _, _⟩ := own_some o1 (by simp); subst hv; have o2 : Own w1 w.heap.size (.slice (some ⟨g, 0, none⟩) (un :: zs).length c1) (un :: zs) := o1; clear o1 g1 o0 B0) | (first | (go_at_call 38; go_in) | (go_at_call 39; go_in)))
  refine (implLrc_any _ _ _ (un :: zs) _ (by simp) o2.sl.2 HR.out (by have := HLz.out; simp; omega)).mono ?_
  rintro e w2 ⟨rfl, e2⟩
  subst e2
  have hx := lres_bd (un :: zs)
  have HM : Hid (lrL (un :: zs) = (un :: zs) ++ [lres (un :: zs)]) := rfl
  have HRL : Hid (∀ z ∈ lrL (un :: zs), 0 ≤ z ∧ z ≤ 255) := lrL_rg HR.out
  have HLL : Hid ((lrL (un :: zs)).length = zs.length + 2) := by show _ = _; rw [lrL_len]; rfl
  generalize lres (un :: zs) = x at *
  generalize lrL (un :: zs) = bs at *
  have o3 := o2.below (bel_alloc w2 (.cells #[.int .u8 x] 5))
  have B2 := bel_next B1 (bel_alloc w2 (.cells #[.int .u8 x] 5))
  have HL2 : Hid ((un :: zs).length + [x].length ≤ 4000000) := by show (un :: zs).length + [x].length ≤ 4000000; have := HLz.out; simp; omega
  clear o2 B1
  go_wp2_with (at_builtin; refine wpList_app rfl _ _ rfl w.heap.size (.slice (some ⟨g, 0, none⟩) _ c1) (un :: zs) rfl o3 ⟨w2.heap.size, 0, none⟩ 1 1 [x] rfl rfl (sl_lit1 w2 _ rfl) HL2.out B2.size ?_; intro v4 w4 o4 g4; have B4 : Below w.heap.size w w4 := bel_grown B2 o3 g4 (Nat.le_refl _) B2.size; rw [← HM.out] at o4; obtain ⟨g5, c5, hv, _, _⟩ := own_some o4 (by rw [HLL.out]; omega); subst hv; clear g4 o3 B2 HM)
  have B5 := bel_next B4 (bel_alloc w4 (.cells #[.int .u8 58] 5))
  have o5 := o4.below (bel_alloc w4 (.cells #[.int .u8 58] 5))
  have q5 := own_lit1 w4 58 w4.heap.size (Nat.le_refl _)
  clear o4
  refine (implHex_any _ _ _ bs _ rfl o5.sl.2 HRL.out (by have := HLL.out; have := HLz.out; omega)).mono ?_
  rintro e w6 ⟨rfl, b6⟩
  have B6 := bel_next B5 b6
  have q6 := (q5.below b6).monoT B4.size
  have HX : Hid (∀ z ∈ hexs bs bs.length, 0 ≤ z ∧ z ≤ 255) := fun z hz => by have := hexs_rg HRL.out bs.length z hz; omega
  have HA : Hid (fr = [58] ++ hexs bs bs.length ++ [13, 10]) := by show fr = _; rw [← HFR.out]; rfl
  have HXL : Hid ([(58 : Int)].length + (hexs bs bs.length).length ≤ 4000000) := by show [(58 : Int)].length + (hexs bs bs.length).length ≤ 4000000; rw [hexs_length _ _ (Nat.le_refl _)]; have := HLL.out; have := HLz.out; simp; omega
  have HXL8 : Hid ((hexs bs bs.length).length ≤ 3000000) := by show (hexs bs bs.length).length ≤ 3000000; rw [hexs_length _ _ (Nat.le_refl _)]; have := HLL.out; have := HLz.out; omega
  have HXM : Hid (0 < fr.length) := by show 0 < fr.length; rw [← HFR.out, asL_len]; omega
  clear HFR
  clear o5 q5 b6 B5 B4
  generalize hexs bs bs.length = hx at *
  go_wp2_with (first | (at_builtin; refine wpList_appS rfl _ _ rfl w.heap.size (.slice (some ⟨w4.heap.size, 0, none⟩) 1 1) [58] rfl q6 hx rfl HX.out HXL.out B6.size ?_; intro v7 w7 o7 g7; have B7 : Below w.heap.size w w7 := bel_grown B6 q6 g7 (Nat.le_refl _) B6.size; clear g7 q6 B6 HXL HX; obtain ⟨g7, c7, hv, _, _⟩ := own_some o7 (by simp); subst hv; have B8 := bel_next B7 (bel_alloc w7 (.cells #[.int .u8 13, .int .u8 10] 5)); have o8 := o7.below (bel_alloc w7 (.cells #[.int .u8 13, .int .u8 10] 5)); clear o7 B7) | (at_builtin; refine wpList_app rfl _ _ rfl w.heap.size (.slice (some ⟨g7, 0, none⟩) _ c7) ([58] ++ hx) rfl o8 ⟨w7.heap.size, 0, none⟩ 2 2 [13, 10] rfl rfl (sl_lit2 w7 _ _ rfl) (by have := HXL8.out; simp; omega) B8.size ?_; intro v9 w9 o9 g9; have B9 : Below w.heap.size w w9 := bel_grown B8 o8 g9 (Nat.le_refl _) B8.size; rw [← HA.out] at o9; obtain ⟨g9', c9, hv, _, _⟩ := own_some o9 HXM.out; subst hv; have R : NwT w w9 (.returned (.slice (some ⟨g9', 0, none⟩) fr.length c9)) fr := ⟨_, c9, _, rfl, rfl, o9, B9⟩; clear o9 g9 o8 B8))
  go_ret
  exact R

end Go.Proofs.Ytmcednhinafpeaa
