/- Texts that the proof needs, joined: G6 G7 MarkP Bx1 IsB Bx3 RgI RgV RgW RgX RgY RgL RgM RgB RgE RgG Box StR Cpy El0 Cl1 Cl2 Mid Mid2 Tr0 RgZ. -/
import Derived.Test.YtohikbpolofklaaGreatDoorV10
import Derived.Test.YtohikbpolofklaaGreatDoorV1
import Derived.LaidEql
import Derived.Stop.Asserts
import Derived.RowKitTokens
import Derived.Test.YtohikbpolofklaaGreatDoorV6
import Derived.RegionTactic
import Derived.Below
import Derived.Lib.SmallJoins
import Derived.Laws.MakeOwn
import Derived.WideMake
import Derived.Carry
import Derived.Laws.CopyOwn
import Derived.Deep.RegionHeld3
import Derived.Deep.MidRow
namespace Go.Proofs.YtohikbpolofklaaGreatDoor
open Go.RowKit
set_option linter.unusedVariables false
set_option linter.unusedSimpArgs false
theorem spz_same {k : Int} {zs : List Int} {w w' : World} {e : Ending} (hc : ¬ (zs.length = 0 ∨ kindB (zs.getD 0 0) = false)) (hk : zs.getD 0 0 = k) (e1 : sW k zs = gW k zs) (e2 : sB k zs = gB k zs) (h : SPz k zs w w' e) : GPz zs w w' e := by
  have e3 : sOk k zs = gOk k zs := by unfold sOk gOk; rw [e1, e2]
  unfold SPz at h
  by_cases hy : sOk k zs = true
  · rw [if_pos hy, e1, e2] at h
    exact gpz_yes hc hk (e3 ▸ hy) h
  · rw [if_neg hy] at h
    exact gpz_no hc hk (e3 ▸ hy) h
theorem spz_none {k : Int} {zs : List Int} {w w' : World} {e : Ending} (hc : ¬ (zs.length = 0 ∨ kindB (zs.getD 0 0) = false)) (hk : zs.getD 0 0 = k) (e1 : ¬ sOk k zs = true) (e2 : ¬ gOk k zs = true) (h : SPz k zs w w' e) : GPz zs w w' e := by
  unfold SPz at h
  rw [if_neg e1] at h
  exact gpz_no hc hk e2 h
theorem ok_put {k : Int} {zs : List Int} (h : gOk k zs = true) : putL k (wAt zs 1) (gN k zs) (gA k zs) (gW k zs) (gB k zs) = zs := by
  unfold gOk at h
  simp at h
  exact h.2
theorem ok_puts {k : Int} {zs : List Int} (h : sOk k zs = true) : okR k (wAt zs 1) (gN k zs) (gA k zs) (sW k zs) (sW k zs).length (sB k zs).length = true ∧ putL k (wAt zs 1) (gN k zs) (gA k zs) (sW k zs) (sB k zs) = zs := by
  unfold sOk at h
  simp at h
  exact h
theorem spz_6 {zs : List Int} {w w' : World} {e : Ending} (hc : ¬ (zs.length = 0 ∨ kindB (zs.getD 0 0) = false)) (hk : zs.getD 0 0 = 6) (h : SPz 6 zs w w' e) : GPz zs w w' e := by
  by_cases hl : zs.length = 5
  · refine spz_same hc hk ?_ rfl h
    show wsF zs 3 = [wAt zs 3]
    unfold wsF
    rw [hl]
    rfl
  · refine spz_none hc hk (fun hy => hl ?_) (fun hy => hl ?_) h
    · obtain ⟨h1, h2⟩ := ok_puts hy
      rw [okI_6 _ _ _ _ _ _ rfl] at h1
      simp at h1
      rw [← h2]
      show (6 :: wbs (wAt zs 1 :: sW 6 zs)).length = 5
      simp [wbs, wbs_length]
      omega
    · rw [← ok_put hy]
      rfl
theorem spz_22 {zs : List Int} {w w' : World} {e : Ending} (hc : ¬ (zs.length = 0 ∨ kindB (zs.getD 0 0) = false)) (hk : zs.getD 0 0 = 22) (h : SPz 22 zs w w' e) : GPz zs w w' e := by
  by_cases hl : zs.length = 7
  · refine spz_same hc hk ?_ rfl h
    show wsF zs 3 = [wAt zs 3, wAt zs 5]
    unfold wsF
    rw [hl]
    rfl
  · refine spz_none hc hk (fun hy => hl ?_) (fun hy => hl ?_) h
    · obtain ⟨h1, h2⟩ := ok_puts hy
      rw [okI_22 _ _ _ _ _ _ rfl] at h1
      simp at h1
      rw [← h2]
      show (22 :: wbs (wAt zs 1 :: sW 22 zs)).length = 7
      simp [wbs, wbs_length]
      omega
    · rw [← ok_put hy]
      rfl
theorem put5_true {zs : List Int} {pl : Int} (h : 5 :: wbs [pl, 65280] = zs) : wAt zs 3 = 65280 := by
  subst h
  rfl
theorem put5_false {zs : List Int} {pl : Int} (h : 5 :: wbs [pl, 0] = zs) : wAt zs 3 = 0 := by
  subst h
  rfl
theorem spz_5 {zs : List Int} {w w' : World} {e : Ending} (hc : ¬ (zs.length = 0 ∨ kindB (zs.getD 0 0) = false)) (hk : zs.getD 0 0 = 5) (h : SPz 5 zs w w' e) : GPz zs w w' e := by
  by_cases h0 : wAt zs 3 = 0
  · refine spz_same hc hk rfl ?_ h
    show [wAt zs 3 != 0] = [wAt zs 3 == 65280]
    rw [h0]
    rfl
  · by_cases h1 : wAt zs 3 = 65280
    · refine spz_same hc hk rfl ?_ h
      show [wAt zs 3 != 0] = [wAt zs 3 == 65280]
      rw [h1]
      rfl
    · refine spz_none hc hk (fun hy => h1 ?_) (fun hy => h0 ?_) h
      · have h2 := (ok_puts hy).2
        have e1 : (wAt zs 3 != 0) = true := by simp [h0]
        have h3 : 5 :: wbs [wAt zs 1, bif (wAt zs 3 != 0) then 65280 else 0] = zs := h2
        rw [e1] at h3
        exact put5_true h3
      · have h2 := ok_put hy
        have e1 : (wAt zs 3 == 65280) = false := by simp [h1]
        have h3 : 5 :: wbs [wAt zs 1, bif (wAt zs 3 == 65280) then 65280 else 0] = zs := h2
        rw [e1] at h3
        exact put5_false h3
set_option maxHeartbeats 4000000 in
theorem sget_none (a : Option Addr) (n cap : Nat) (zs : List Int) (w : World) (hn : n = zs.length) (hs : Sl w a zs) (hr : ∀ z ∈ zs, 0 ≤ z ∧ z ≤ 255) (hl : n ≤ 2000000) (hk : zs.length = 0) :
    Calls Tryz.prog 7 #[.slice a n cap] w fun e w' => GP w w' e 0 0 0 0 [] [] 1 := by
  have B0 := bel_alloc w (.cells #[.int .i64 0, .int .i64 0, .int .i64 0, .slice none 0 0, .slice none 0 0, .int .i64 0] 30)
  have hz : (n : Int) = 0 := by omega
  clear hn hs hr
  go_enter Tryz.func7, Tryz.ntmps7
  go_wp2
  refine bodyPost_ret (v := .tuple #[rq 0 0 0 0 none none 0 0 0 0, .int .i64 1]) (by simp [results, Tryz.results7, go_sem]) rfl ?_
  exact gp_zero (by first | exact B0 | exact bel_set6 B0 (Nat.le_refl _))
set_option maxRecDepth 20000 in
set_option maxHeartbeats 4000000 in
theorem sget_kind (a : Option Addr) (n cap : Nat) (zs : List Int) (w : World) (hn : n = zs.length) (hs : Sl w a zs) (hr : ∀ z ∈ zs, 0 ≤ z ∧ z ≤ 255) (hl : n ≤ 2000000) (hk0 : 0 < zs.length) (hk : kindB (zs.getD 0 0) = false) :
    Calls Tryz.prog 7 #[.slice a n cap] w fun e w' => GP w w' e 0 0 0 0 [] [] 1 := by
  obtain ⟨W0, hW0⟩ : ∃ W0, W0 = w.alloc (.cells #[.int .i64 0, .int .i64 0, .int .i64 0, .slice none 0 0, .slice none 0 0, .int .i64 0] 30) := ⟨_, rfl⟩
  have HW : Hid (W0 = _) := hW0
  have B0 : Below w.heap.size w W0 := by rw [hW0]; exact bel_alloc _ _
  have X0 : Blk W0 w.heap.size 30 #[.int .i64 0, .int .i64 0, .int .i64 0, .slice none 0 0, .slice none 0 0, .int .i64 0] := by rw [hW0]; exact Blk.new _ _ _
  obtain ⟨bk, off, ea, _, hc⟩ := cell_at (hs.below B0) (show 0 < zs.length by omega)
  have hc0 : W0.cell? ⟨bk, off, none⟩ = some (.int .u8 (zs.getD 0 0)) := by simpa using hc
  have rg := get_rg hr 0
  have hz : ¬ (n : Int) = 0 := by omega
  have hz0 : (0 : Int) < (n : Int) := by omega
  subst ea
  clear hn hs hr hc hW0 hk0
  generalize zs.getD 0 0 = z0 at *
  obtain ⟨x0, x1, x2, x3, x4, x5⟩ := X0.six
  have fr := X0.fro
  go_enter Tryz.func7, Tryz.ntmps7
  go_upto_region 1 with fail
  rw [← HW.out]
  go_wp2_with fail
  refine (l3Kind_any z0 _ _ hk).mono ?_
  rintro e wx ⟨rfl, rfl⟩
  go_wp2
  refine bodyPost_ret (v := .tuple #[rq 0 0 0 0 none none 0 0 0 0, .int .i64 1]) (by simp [results, Tryz.results7, go_sem, x0, x1, x2, x3, x4, x5]) rfl ?_
  exact gp_zero (bel_set6 B0 (Nat.le_refl _))
theorem specGet_q (a : Option Addr) (n cap : Nat) (zs : List Int) (w : World) (hn : n = zs.length) (hs : Sl w a zs) (hr : ∀ z ∈ zs, 0 ≤ z ∧ z ≤ 255) (hl : n ≤ 2000000) (hcap : n ≤ cap) :
    Calls Tryz.prog 7 #[.slice a n cap] w fun e w' => GPz zs w w' e := by
  by_cases h0 : zs.length = 0
  · exact (sget_none a n cap zs w hn hs hr hl h0).mono fun e w' h => gpz_none (.inl h0) h
  · cases hk : kindB (zs.getD 0 0)
    · exact (sget_kind a n cap zs w hn hs hr hl (by omega) hk).mono fun e w' h => gpz_none (.inr hk) h
    · have hcnd : ¬ (zs.length = 0 ∨ kindB (zs.getD 0 0) = false) := by
        rintro (h | h)
        · exact h0 h
        · rw [hk] at h; cases h
      have hk2 := of_decide_eq_true hk
      rcases hk2 with h | h | h | h | h | h | h | h | h | h
      · exact (specGet_1 a n cap zs w hn hs hr hl (by omega) hcap h).mono fun e w' q => spz_same hcnd h rfl rfl q
      · exact (specGet_2 a n cap zs w hn hs hr hl (by omega) hcap h).mono fun e w' q => spz_same hcnd h rfl rfl q
      · exact (specGet_3 a n cap zs w hn hs hr hl (by omega) hcap h).mono fun e w' q => spz_same hcnd h rfl rfl q
      · exact (specGet_4 a n cap zs w hn hs hr hl (by omega) hcap h).mono fun e w' q => spz_same hcnd h rfl rfl q
      · exact (specGet_5 a n cap zs w hn hs hr hl (by omega) hcap h).mono fun e w' q => spz_5 hcnd h q
      · exact (specGet_6 a n cap zs w hn hs hr hl (by omega) hcap h).mono fun e w' q => spz_6 hcnd h q
      · by_cases h6 : 6 < n
        · exact (specGet_15 a n cap zs w hn hs hr hl (by omega) hcap h h6).mono fun e w' q => spz_same hcnd h rfl rfl q
        · exact (specGet_15s a n cap zs w hn hs hr hl (by omega) hcap h h6).mono fun e w' q => spz_same hcnd h rfl rfl q
      · exact (specGet_16 a n cap zs w hn hs hr hl (by omega) hcap h).mono fun e w' q => spz_same hcnd h rfl rfl q
      · exact (specGet_22 a n cap zs w hn hs hr hl (by omega) hcap h).mono fun e w' q => spz_22 hcnd h q
      · exact (specGet_23 a n cap zs w hn hs hr hl (by omega) hcap h).mono fun e w' q => spz_same hcnd h rfl rfl q
end Go.Proofs.YtohikbpolofklaaGreatDoor
namespace Go.Proofs.YtohikbpolofklaaGreatDoor
open Go.RowKit
set_option linter.unusedVariables false
set_option linter.unusedSimpArgs false
theorem gW_le (k : Int) (zs : List Int) (hl : zs.length ≤ 1048576) : (gW k zs).length ≤ 2000000 := by
  unfold gW
  split
  · simp
  · split
    · simp
    · split
      · rw [wsF_length]; omega
      · split
        · rw [wsF_length]; omega
        · simp
theorem gB_le (k : Int) (zs : List Int) (hr : ∀ z ∈ zs, 0 ≤ z ∧ z ≤ 255) : (gB k zs).length ≤ 2000000 := by
  unfold gB
  split
  · simp
  · split
    · have h := outU_le (zs.drop 6) (wAt zs 3) (by have := wAt_bd hr 3; omega)
      omega
    · simp
end Go.Proofs.YtohikbpolofklaaGreatDoor
namespace Go.Proofs.YtohikbpolofklaaGreatDoor
open Go.RowKit
set_option linter.unusedVariables false
end Go.Proofs.YtohikbpolofklaaGreatDoor
namespace Go.Proofs.YtohikbpolofklaaGreatDoor
open Go.RowKit
set_option linter.unusedVariables false
set_option linter.unusedSimpArgs false
abbrev bxc (nm un : Int) (a : Option Addr) (l c : Nat) : Array Value := #[.int .i64 nm, .int .i64 un, .slice a l c]
theorem Blk.tri {w : World} {g : Nat} {t : TypeId} {v0 v1 v2 : Value} (h : Blk w g t #[v0, v1, v2]) : w.cell? ⟨g, 0, none⟩ = some v0 ∧ w.cell? ⟨g, 1, none⟩ = some v1 ∧ w.cell? ⟨g, 2, none⟩ = some v2 :=
  ⟨h.cell 0 rfl, h.cell 1 rfl, h.cell 2 rfl⟩
end Go.Proofs.YtohikbpolofklaaGreatDoor
namespace Go.Proofs.YtohikbpolofklaaGreatDoor
open Go.RowKit Go.Extern.Stop Go.Stop Go.Extern
set_option linter.unusedVariables false
theorem is_typeOf (v : Value) (w : World) : (Extern.ReflectliteType.typeOf #[.iface 142 v]).run Tryz.prog w = .ok (.iface 127 (.agg #[.pointer (some ⟨2, 142, none⟩)])) w := by kernel_rfl
theorem is_comparable (w : World) : ((Extern.ReflectliteType.method fun t => do Go.Extern.Rtype.noPackHeld "Comparable" t; pure (.bool (← typeInfo t).comparable)) #[.agg #[.pointer (some ⟨2, 142, none⟩)]]).run Tryz.prog w = .ok (.bool true) w := by kernel_rfl
theorem is_mcomp (v : Value) (w : World) : (Go.method 280 127 v "Comparable").run Tryz.prog w = .ok (114, v) w := by kernel_rfl
theorem is_comp : (Tryz.prog.info? 142).map (·.comparable) = some true := by kernel_rfl
theorem is_size : (Tryz.prog.info? 168).map (·.size) = some 1 := by kernel_rfl
theorem is_noIsE (v : Value) (xT : TypeId) (w : World) : (Instr.typeAssert (.iface 142 v) xT 129 true).run Tryz.prog w = .ok (.tuple #[.nilIface, .bool false]) w := run_typeAssert_lacksB Tryz.underlying129 (by kernel_rfl) (by kernel_rfl) v xT w
theorem is_noUnE (v : Value) (xT : TypeId) (w : World) : (Instr.typeAssert (.iface 142 v) xT 132 true).run Tryz.prog w = .ok (.tuple #[.nilIface, .bool false]) w := run_typeAssert_lacksB Tryz.underlying132 (by kernel_rfl) (by kernel_rfl) v xT w
theorem is_noUsE (v : Value) (xT : TypeId) (w : World) : (Instr.typeAssert (.iface 142 v) xT 134 true).run Tryz.prog w = .ok (.tuple #[.nilIface, .bool false]) w := run_typeAssert_lacksB Tryz.underlying134 (by kernel_rfl) (by kernel_rfl) v xT w
theorem is_noIsN (v : Value) (xT : TypeId) (w : World) : (Instr.typeAssert (.iface 75 v) xT 129 true).run Tryz.prog w = .ok (.tuple #[.nilIface, .bool false]) w := run_typeAssert_lacksB Tryz.underlying129 (by kernel_rfl) (by kernel_rfl) v xT w
theorem is_hasUnN (v : Value) (xT : TypeId) (w : World) : (Instr.typeAssert (.iface 75 v) xT 132 true).run Tryz.prog w = .ok (.tuple #[.iface 75 v, .bool true]) w := run_typeAssert_hasB Tryz.underlying132 (by kernel_rfl) v xT w
theorem is_mUn (v : Value) (w : World) : (Go.method 280 75 v "Unwrap").run Tryz.prog w = .ok (100, v) w := by kernel_rfl
theorem unwrap_any (b : Int) (e : Value) (w : World) : Calls Tryz.prog 100 #[.agg #[.int .u8 b, e]] w fun r w' => r = .returned e ∧ Below w.heap.size w w' := by
  have B0 := bel_alloc w (.cells #[.int .u8 b, e] 75)
  have y := (Blk.new w #[.int .u8 b, e] 75).cell 1 rfl
  go_enter Tryz.func100, Tryz.ntmps100
  go_wp2
  go_ret
  exact ⟨rfl, B0⟩
theorem erris_same (b : Int) (a : Addr) (w : World) :
    Calls Tryz.prog 65 #[.iface 75 (.agg #[.int .u8 b, .iface 142 (.pointer (some a))]), .iface 142 (.pointer (some a)), .bool true] w fun r w' => r = .returned (.bool true) ∧ Below w.heap.size w w' := by
  obtain ⟨i, hi, hcmp⟩ := Option.map_eq_some_iff.1 is_comp
  obtain ⟨j, hj, hjs⟩ := Option.map_eq_some_iff.1 is_size
  have nE := is_noIsE
  have uE := is_noUnE
  have vE := is_noUsE
  have nW := is_noIsN
  have uW := is_hasUnN
  have mU := is_mUn
  have hty := run_eql_iface_types (P := Tryz.prog) 75 142 (.agg #[.int .u8 b, .iface 142 (.pointer (some a))]) (.pointer (some a)) Tryz.underlying47 (by decide) w
  go_enter Tryz.func65, Tryz.ntmps65
  go_wp2
  refine wp_loop_rounds 2 ?_
  rw [rounds_succ]
  go_wp2_with fail
  refine (unwrap_any b _ _).mono ?_
  rintro r w1 ⟨rfl, B1⟩
  have heq := run_eql_iface_ptr_same (P := Tryz.prog) w1 a Tryz.underlying47 Tryz.underlying142 hi hcmp hj
  go_wp2_with fail
  rw [rounds_succ]
  go_wp2_with fail
  go_ret
  exact ⟨rfl, B1⟩
theorem erris_other (b : Int) (a : Addr) (z : Addr) (ca cz : Array Value) (ta tz : TypeId) (w : World) (hne : a ≠ z) (ha : w.heap[a.block]? = some (.cells ca ta (0, 0))) (hz : w.heap[z.block]? = some (.cells cz tz (0, 0))) :
    Calls Tryz.prog 65 #[.iface 75 (.agg #[.int .u8 b, .iface 142 (.pointer (some a))]), .iface 142 (.pointer (some z)), .bool true] w fun r w' => r = .returned (.bool false) ∧ Below w.heap.size w w' := by
  obtain ⟨i, hi, hcmp⟩ := Option.map_eq_some_iff.1 is_comp
  obtain ⟨j, hj, hjs⟩ := Option.map_eq_some_iff.1 is_size
  have nE := is_noIsE
  have uE := is_noUnE
  have vE := is_noUsE
  have nW := is_noIsN
  have uW := is_hasUnN
  have mU := is_mUn
  have hty := run_eql_iface_types (P := Tryz.prog) 75 142 (.agg #[.int .u8 b, .iface 142 (.pointer (some a))]) (.pointer (some z)) Tryz.underlying47 (by decide) w
  go_enter Tryz.func65, Tryz.ntmps65
  go_wp2
  refine wp_loop_rounds 2 ?_
  rw [rounds_succ]
  go_wp2_with fail
  refine (unwrap_any b _ _).mono ?_
  rintro r w1 ⟨rfl, B1⟩
  have ha1 : w1.heap[a.block]? = some (.cells ca ta (0, 0)) := (B1.block _ (Array.getElem?_eq_some_iff.1 ha).1).trans ha
  have hz1 : w1.heap[z.block]? = some (.cells cz tz (0, 0)) := (B1.block _ (Array.getElem?_eq_some_iff.1 hz).1).trans hz
  have heq := run_eql_iface_ptr_other (P := Tryz.prog) w1 Tryz.underlying47 Tryz.underlying142 hi hcmp hj (by rw [hjs]; decide) hne ha1 hz1
  clear ha hz ha1 hz1
  go_wp2_with fail
  rw [rounds_succ]
  go_wp2_with fail
  go_ret
  exact ⟨rfl, B1⟩
theorem is_nil (v : Value) (w : World) :
    Calls Tryz.prog 38 #[.nilIface, .iface 142 v] w fun r w' => r = .returned (.bool false) ∧ w' = w := by
  have hn := run_eql_iface_nil_left (P := Tryz.prog) w 142 v Tryz.underlying47
  go_enter Tryz.func38, Tryz.ntmps38
  go_wp2
  go_ret
  exact ⟨rfl, rfl⟩
set_option maxRecDepth 20000 in
set_option maxHeartbeats 1000000 in
theorem is_wrap_same (b : Int) (a : Addr) (w : World) :
    Calls Tryz.prog 38 #[.iface 75 (.agg #[.int .u8 b, .iface 142 (.pointer (some a))]), .iface 142 (.pointer (some a))] w fun r w' => r = .returned (.bool true) ∧ Below w.heap.size w w' := by
  have h8 := @run_callFunc_extern Tryz.prog 64 _ Extern.ReflectliteType.typeOf Tryz.func64 (by kernel_rfl) (by kernel_rfl) (by kernel_rfl) (by kernel_rfl)
  have h32 := @run_callFunc_extern Tryz.prog 114 _ (Extern.ReflectliteType.method fun t => do Go.Extern.Rtype.noPackHeld "Comparable" t; pure (.bool (← typeInfo t).comparable)) Tryz.func114 (by kernel_rfl) (by kernel_rfl) (by kernel_rfl) (by kernel_rfl)
  have tT := is_typeOf
  have cT := is_comparable
  obtain ⟨fc, hfc⟩ : ∃ fc, fc = (Extern.ReflectliteType.method fun t => do Go.Extern.Rtype.noPackHeld "Comparable" t; pure (.bool (← typeInfo t).comparable)) := ⟨_, rfl⟩
  rw [← hfc] at h32 cT
  clear hfc
  have mR := is_mcomp
  go_enter Tryz.func38, Tryz.ntmps38
  go_wp2_with (go_at_call 65; refine (erris_same b a _).mono ?_; rintro r w1 ⟨rfl, B1⟩)
  go_ret
  exact ⟨rfl, B1⟩
set_option maxRecDepth 20000 in
set_option maxHeartbeats 1000000 in
theorem is_wrap_other (b : Int) (a : Addr) (z : Addr) (ca cz : Array Value) (ta tz : TypeId) (w : World) (hne : a ≠ z) (ha : w.heap[a.block]? = some (.cells ca ta (0, 0))) (hz : w.heap[z.block]? = some (.cells cz tz (0, 0))) :
    Calls Tryz.prog 38 #[.iface 75 (.agg #[.int .u8 b, .iface 142 (.pointer (some a))]), .iface 142 (.pointer (some z))] w fun r w' => r = .returned (.bool false) ∧ Below w.heap.size w w' := by
  have h8 := @run_callFunc_extern Tryz.prog 64 _ Extern.ReflectliteType.typeOf Tryz.func64 (by kernel_rfl) (by kernel_rfl) (by kernel_rfl) (by kernel_rfl)
  have h32 := @run_callFunc_extern Tryz.prog 114 _ (Extern.ReflectliteType.method fun t => do Go.Extern.Rtype.noPackHeld "Comparable" t; pure (.bool (← typeInfo t).comparable)) Tryz.func114 (by kernel_rfl) (by kernel_rfl) (by kernel_rfl) (by kernel_rfl)
  have tT := is_typeOf
  have cT := is_comparable
  obtain ⟨fc, hfc⟩ : ∃ fc, fc = (Extern.ReflectliteType.method fun t => do Go.Extern.Rtype.noPackHeld "Comparable" t; pure (.bool (← typeInfo t).comparable)) := ⟨_, rfl⟩
  rw [← hfc] at h32 cT
  clear hfc
  have mR := is_mcomp
  go_enter Tryz.func38, Tryz.ntmps38
  go_wp2_with (go_at_call 65; refine (erris_other b a z ca cz ta tz _ hne ha hz).mono ?_; rintro r w1 ⟨rfl, B1⟩)
  go_ret
  exact ⟨rfl, B1⟩
end Go.Proofs.YtohikbpolofklaaGreatDoor
namespace Go.Proofs.YtohikbpolofklaaGreatDoor
open Go.RowKit
set_option linter.unusedVariables false
set_option linter.unusedSimpArgs false
def EnB (a0 a1 : Addr) (w : World) : Prop :=
  (w.cell? ⟨0, 0, none⟩ = some (.iface 142 (.pointer (some a0))) ∧ w.cell? ⟨1, 0, none⟩ = some (.iface 142 (.pointer (some a1)))) ∧ a0 ≠ a1 ∧ (∃ c t, w.heap[a0.block]? = some (.cells c t (0, 0))) ∧ (∃ c t, w.heap[a1.block]? = some (.cells c t (0, 0)))
theorem cell_lt9 {w : World} {p : Addr} {v : Value} (h : w.cell? p = some v) : p.block < w.heap.size := by
  rcases Nat.lt_or_ge p.block w.heap.size with h1 | h0
  · exact h1
  · simp [World.cell?, Array.getElem?_eq_none h0] at h
theorem EnB.below {a0 a1 : Addr} {w w' : World} (h : EnB a0 a1 w) (hb : Below w.heap.size w w') : EnB a0 a1 w' := by
  obtain ⟨⟨h0, h1⟩, hn, ⟨c, t, h2⟩, d, s, h3⟩ := h
  exact ⟨⟨(hb.cell (cell_lt9 h0)).trans h0, (hb.cell (cell_lt9 h1)).trans h1⟩, hn, ⟨c, t, (hb.block _ (Array.getElem?_eq_some_iff.1 h2).1).trans h2⟩, d, s, (hb.block _ (Array.getElem?_eq_some_iff.1 h3).1).trans h3⟩
def erV (f : Int) (a0 a1 : Addr) (code : Int) : Value :=
  if code = 1 then .iface 75 (.agg #[.int .u8 f, .iface 142 (.pointer (some a0))])
  else if code = 3 then .iface 75 (.agg #[.int .u8 f, .iface 142 (.pointer (some a1))]) else .nilIface
def faL (zs : List Int) (code : Int) : List Int := if code = 0 then [] else [bits .or .u8 (zs.getD 0 0) 128, code]
def unB (un code : Int) : Int := if code = 0 then un else 0
def CoB (kd pl nn wa : Int) (ws : List Int) (bs : List Bool) (code : Int) : Prop :=
  code = 0 ∨ ((code = 1 ∨ code = 3) ∧ kd = 0 ∧ pl = 0 ∧ nn = 0 ∧ wa = 0 ∧ ws = [] ∧ bs = [])
def BaP (un kd pl nn wa : Int) (ws : List Int) (bs : List Bool) (F : List Int) (w w' : World) (e : Ending) : Prop :=
  ∃ a1 a2 l1 l2 c1 c2 af nf cf, e = .returned (.tuple #[.int .i64 un, rq kd pl nn wa a1 a2 l1 l2 c1 c2, .slice af nf cf]) ∧ l1 = ws.length ∧ l2 = bs.length ∧ nf = F.length ∧ OwnI w' w.heap.size (.slice a1 l1 c1) ws ∧ OwnB w' w.heap.size (.slice a2 l2 c2) bs ∧ Own w' w.heap.size (.slice af nf cf) F ∧ Below w.heap.size w w'
theorem firstOf_any (a : Option Addr) (n cap : Nat) (zs : List Int) (w : World) (hn : n = zs.length) (hs : Sl w a zs) (hl : n ≤ 1048576) :
    Calls Tryz.prog 17 #[.slice a n cap] w fun e w' => e = .returned (.int .u8 (zs.getD 0 0)) ∧ w' = w := by
  subst hn
  by_cases h0 : zs.length = 0
  · have e : zs = [] := List.eq_nil_of_length_eq_zero h0
    subst e
    clear hs hl h0
    go_enter Tryz.func17, Tryz.ntmps17
    go_wp2
    go_ret
    exact ⟨rfl, rfl⟩
  · obtain ⟨b, off, rfl, _, hc⟩ := cell_at hs (show 0 < zs.length by omega)
    have hc' : w.cell? ⟨b, off, none⟩ = some (.int .u8 (zs.getD 0 0)) := hc
    have h1 : ¬ ((zs.length : Int) = 0) := by omega
    have h2 : (0 : Int) < (zs.length : Int) := by omega
    clear hs hc
    go_enter Tryz.func17, Tryz.ntmps17
    go_wp2
    go_ret
    exact ⟨rfl, rfl⟩
set_option maxRecDepth 20000 in
set_option maxHeartbeats 2000000 in
theorem faultFor_any (f : Int) (a0 a1 : Addr) (code : Int) (w : World) (hE : EnB a0 a1 w) (hc : code = 0 ∨ code = 1 ∨ code = 3) :
    Calls Tryz.prog 16 #[erV f a0 a1 code] w fun e w' => e = .returned (.int .i64 code) ∧ Below w.heap.size w w' := by
  obtain ⟨⟨h0, h1⟩, hn, ⟨c, t, h2⟩, d, s, h3⟩ := hE
  obtain rfl | rfl | rfl := hc
  · show Calls _ _ #[.nilIface] _ _
    clear hn h2 h3
    go_enter Tryz.func16, Tryz.ntmps16
    go_wp2_with fail
    refine (is_nil _ _).mono ?_
    rintro e w1 ⟨rfl, rfl⟩
    go_wp2_with fail
    refine (is_nil _ _).mono ?_
    rintro e w1 ⟨rfl, rfl⟩
    go_wp2
    go_ret
    exact ⟨rfl, Below.refl _ _⟩
  · show Calls _ _ #[.iface _ (.agg #[.int .u8 f, .iface _ (.pointer (some a0))])] _ _
    clear hn h2 h3
    go_enter Tryz.func16, Tryz.ntmps16
    go_wp2_with fail
    refine (is_wrap_same f a0 _).mono ?_
    rintro e w1 ⟨rfl, b1⟩
    go_wp2
    go_ret
    exact ⟨rfl, b1⟩
  · show Calls _ _ #[.iface _ (.agg #[.int .u8 f, .iface _ (.pointer (some a1))])] _ _
    have HH : Hid (a1 ≠ a0 ∧ w.heap[a1.block]? = some (.cells d s (0, 0)) ∧ w.heap[a0.block]? = some (.cells c t (0, 0)) ∧ w.cell? ⟨1, 0, none⟩ = some (.iface 142 (.pointer (some a1)))) := ⟨hn.symm, h3, h2, h1⟩
    clear hn h2 h3 h1
    go_enter Tryz.func16, Tryz.ntmps16
    go_wp2_with fail
    refine (is_wrap_other f a1 a0 d c s t _ HH.out.1 HH.out.2.1 HH.out.2.2.1).mono ?_
    rintro e w1 ⟨rfl, b1⟩
    have h1 : w1.cell? ⟨1, 0, none⟩ = some (.iface 142 (.pointer (some a1))) := (b1.cell (cell_lt9 HH.out.2.2.2)).trans HH.out.2.2.2
    clear h0
    go_wp2_with fail
    refine (is_wrap_same f a1 _).mono ?_
    rintro e w2 ⟨rfl, b2⟩
    have b3 := bel_next b1 b2
    go_wp2
    go_ret
    exact ⟨rfl, b3⟩
theorem own_b2 (w : World) (x y : Int) (B : Nat) (hB : B ≤ w.heap.size) : Own (w.alloc (.cells #[.int .u8 x, .int .u8 y] 5)) B (.slice (some ⟨w.heap.size, 0, none⟩) 2 2) [x, y] := by
  refine ⟨by simp, .inr ⟨w.heap.size, 2, #[.int .u8 x, .int .u8 y], rfl, hB, ?_, by simp, by unfold maxLen; omega, by simp, by simp⟩⟩
  show (w.heap.push (.cells #[.int .u8 x, .int .u8 y] 5 (0, 0)))[w.heap.size]? = _
  simp
theorem own_bn (w : World) (B : Nat) : Own w B (.slice none 0 0) [] := World.ownsRow_nil w B _ _
end Go.Proofs.YtohikbpolofklaaGreatDoor
namespace Go.Proofs.YtohikbpolofklaaGreatDoor
open Go.RowKit
theorem getD_eq {l : Array Bool} {i : Nat} (h : i < l.size) (x y : Bool) : l.getD i x = l.getD i y := by
  simp [Array.getD, h]
theorem count_set (l : List Bool) (i : Nat) (h : l[i]? = some false) : (l.set i true).count false + 1 = l.count false := by
  induction l generalizing i with
  | nil => simp at h
  | cons x r ih =>
    cases i with
    | zero => simp at h; subst h; simp
    | succ i => simp at h; have := ih i h; cases x <;> simp <;> omega
theorem ready_mem {md : Region.Mode} {ops : Array Oper} {l : Array Bool} {i : Nat} (h : i ∈ Region.ready md ops l) :
    i < ops.size ∧ l.getD i true = false ∧ ∀ o, ops[i]? = some o → ∀ e ∈ o.after, Region.binds md e = true → l.getD e.on false = true := by
  unfold Region.ready at h
  rw [List.mem_filter] at h
  obtain ⟨h1, h2⟩ := h
  simp only [Bool.and_eq_true, Bool.not_eq_true'] at h2
  refine ⟨List.mem_range.1 h1, h2.1, fun o ho e he hb => ?_⟩
  have h3 := h2.2
  rw [ho] at h3
  simp only [Option.map_some, Option.getD_some, Array.all_eq_true_iff_forall_mem] at h3
  have h4 := h3 e he
  simpa [hb] using h4
theorem ready_of {md : Region.Mode} {ops : Array Oper} {l : Array Bool} {i : Nat} {o : Oper} (hi : i < ops.size) (ho : ops[i]? = some o) (hl : l.getD i true = false) (hd : ∀ e ∈ o.after, Region.binds md e = true → l.getD e.on false = true) : i ∈ Region.ready md ops l := by
  unfold Region.ready
  rw [List.mem_filter]
  refine ⟨List.mem_range.2 hi, ?_⟩
  simp only [Bool.and_eq_true, Bool.not_eq_true']
  refine ⟨hl, ?_⟩
  rw [ho]
  simp only [Option.map_some, Option.getD_some, Array.all_eq_true_iff_forall_mem]
  intro e he
  cases hb : Region.binds md e
  · rfl
  · simpa using hd e he hb
def ordB (md : Region.Mode) (ops : Array Oper) : Bool := (List.range ops.size).all fun i => ((ops[i]?).map (·.after.all fun e => !Region.binds md e || decide (e.on < i))).getD true
theorem ordB_of {md : Region.Mode} {ops : Array Oper} (h : ordB md ops = true) : ∀ i o, ops[i]? = some o → ∀ e ∈ o.after, Region.binds md e = true → e.on < i := by
  intro i o ho e he hb
  unfold ordB at h
  rw [List.all_eq_true] at h
  have hi : i < ops.size := (Array.getElem?_eq_some_iff.1 ho).1
  have h1 := h i (List.mem_range.2 hi)
  rw [ho] at h1
  simp only [Option.map_some, Option.getD_some, Array.all_eq_true_iff_forall_mem] at h1
  have h2 := h1 e he
  simpa [hb] using h2
theorem wpAny_inv {P : Program} {ops : Array Oper} {Q : Exit → Act → World → Prop} {md : Region.Mode} (Inv : Array Bool → Act → World → Prop)
    (hordB : ordB md ops = true)
    (hend : ∀ l a w, Inv l a w → (∀ i, i < ops.size → l.getD i true = true) → Q .normal a w)
    (hstep : ∀ l a w i o, Inv l a w → ops[i]? = some o → l.getD i true = false → (∀ e ∈ o.after, Region.binds md e = true → l.getD e.on false = true) →
      ∀ K : Act → World → Prop, (∀ a w, Inv (l.setIfInBounds i true) a w → K a w) → if Region.wanted o (yielded ops a.tmps) = true then Oper.wp P o a w K Q else K (a.put o.dst undef) w) :
    ∀ (fuel : Nat) (l : Array Bool) (a : Act) (w : World), l.size = ops.size → l.toList.count false ≤ fuel → Inv l a w → wpAny P md ops Q fuel l a w := by
  have hord := ordB_of hordB
  have hall : ∀ l : Array Bool, l.size = ops.size → Region.ready md ops l = [] → ∀ i, i < ops.size → l.getD i true = true := by
    intro l hs hr i
    induction i using Nat.strongRecOn with
    | ind i ih =>
      intro hi
      cases hl : l.getD i true
      · obtain ⟨o, ho⟩ : ∃ o, ops[i]? = some o := ⟨ops[i], by simp [hi]⟩
        have : i ∈ Region.ready md ops l := ready_of hi ho hl (fun e he hb => by
          have h1 := hord i o ho e he hb
          rw [getD_eq (by omega) false true]
          exact ih e.on h1 (by omega))
        rw [hr] at this
        simp at this
      · rfl
  intro fuel
  induction fuel with
  | zero =>
    intro l a w hs hc hI
    have hr : Region.ready md ops l = [] := by
      apply List.eq_nil_iff_forall_not_mem.2
      intro i hi
      obtain ⟨h1, h2, _⟩ := ready_mem hi
      have h3 : l.toList[i]? = some false := by
        have h4 : i < l.size := by omega
        rw [Array.getElem?_toList]
        simp [Array.getD, h4] at h2
        simp [h4, h2]
      have := count_set l.toList i h3
      omega
    exact ⟨hr, hend l a w hI (hall l hs hr)⟩
  | succ fuel ih =>
    intro l a w hs hc hI
    refine ⟨fun hr => hend l a w hI (hall l hs hr), fun i hi => ?_⟩
    obtain ⟨h1, h2, h3⟩ := ready_mem hi
    obtain ⟨o, ho⟩ : ∃ o, ops[i]? = some o := ⟨ops[i], by simp [h1]⟩
    refine wpOp_step ho (fun K' hK' => hstep l a w i o hI ho h2 (h3 o ho) K' (fun a' w' hI' => hK' a' w' (ih _ a' w' (by simpa using hs) ?_ hI')))
    have h4 : l.toList[i]? = some false := by
      have h5 : i < l.size := by omega
      rw [Array.getElem?_toList]
      simp [Array.getD, h5] at h2
      simp [h5, h2]
    have := count_set l.toList i h4
    rw [Array.toList_setIfInBounds]
    omega
end Go.Proofs.YtohikbpolofklaaGreatDoor
namespace Go.Proofs.YtohikbpolofklaaGreatDoor
open Go.RowKit
def dstOf (ops : Array Oper) (i : Nat) : Option Tmp := (ops[i]?).bind (·.dst)
def dstB (ops : Array Oper) (n : Nat) : Bool :=
  (List.range ops.size).all fun i => match dstOf ops i with
    | some d => decide (d < n) && (List.range ops.size).all fun j => decide (j = i) || decide (dstOf ops j ≠ some d)
    | none => false
def isDst (ops : Array Oper) (s : Nat) : Bool := (List.range ops.size).any fun i => decide (dstOf ops i = some s)
def putsL (a : Act) : Nat → List Oper → (Nat → Value) → Act
  | _, [], _ => a
  | i, o :: os, vs => putsL (a.put o.dst (vs i)) (i + 1) os vs
def wantV (ops : Array Oper) (o : Oper) (ρ : Operand → Value) : Bool :=
  match o.guard with
  | none => true
  | some (j, want) => match dstOf ops j with
    | some d => (match ρ (.tmp d) with | .bool b => b == want | _ => false)
    | none => false
def StpV (P : Program) (ops : Array Oper) (Φ : Nat → Value → World → Prop) (R : World → Prop) (i : Nat) (o : Oper) (ρ : Operand → Value) (u : World) : Prop :=
  (wantV ops o ρ = true ∧ ((∃ v u', (execOp ρ o).run P u = .ok (.value v) u' ∧ Φ i v u' ∧ R u' ∧ Below u.heap.size u u') ∨ (∃ f args, (execOp ρ o).run P u = .ok (.enter f args) u ∧ Calls P f args u fun e u' => ∃ v, e = .returned v ∧ Φ i v u' ∧ R u' ∧ Below u.heap.size u u')))
  ∨ (wantV ops o ρ = false ∧ Φ i undef u)
structure InvV (ops : Array Oper) (Φ : Nat → Value → World → Prop) (R : World → Prop) (a0 : Act) (l : Array Bool) (a : Act) (u : World) : Prop where
  r : R u
  ls : l.size = ops.size
  df : a.defers = a0.defers
  sz : a.tmps.size = a0.tmps.size
  old : ∀ s, (∀ i d, dstOf ops i = some d → l.getD i false = true → d ≠ s) → a.tmps.getD s undef = a0.tmps.getD s undef
  val : ∀ i d, dstOf ops i = some d → l.getD i false = true → Φ i (a.tmps.getD d undef) u
theorem dstB_of {ops : Array Oper} {n : Nat} (h : dstB ops n = true) {i : Nat} (hi : i < ops.size) : ∃ d, dstOf ops i = some d ∧ d < n ∧ ∀ j, j < ops.size → dstOf ops j = some d → j = i := by
  unfold dstB at h
  rw [List.all_eq_true] at h
  have h1 := h i (List.mem_range.2 hi)
  cases hd : dstOf ops i with
  | none => rw [hd] at h1; cases h1
  | some d =>
    rw [hd] at h1
    simp only [Bool.and_eq_true, decide_eq_true_eq, List.all_eq_true, Bool.or_eq_true] at h1
    refine ⟨d, rfl, h1.1, fun j hj e => ?_⟩
    rcases h1.2 j (List.mem_range.2 hj) with h2 | h2
    · exact h2
    · exact absurd e h2
theorem getD_set {l : Array Bool} {i j : Nat} (hi : i < l.size) : (l.setIfInBounds i true).getD j false = if j = i then true else l.getD j false := by
  simp only [Array.getD_eq_getD_getElem?, Array.getElem?_setIfInBounds]
  by_cases e : j = i
  · subst e; simp [hi]
  · rw [if_neg (Ne.symm e), if_neg e]
theorem getD_put {a : Act} {d s : Nat} {v : Value} (hd : d < a.tmps.size) : (a.put (some d) v).tmps.getD s undef = if s = d then v else a.tmps.getD s undef := by
  show (a.tmps.setIfInBounds d v).getD s undef = _
  simp only [Array.getD_eq_getD_getElem?, Array.getElem?_setIfInBounds]
  by_cases e : s = d
  · subst e; simp [hd]
  · rw [if_neg (Ne.symm e), if_neg e]
theorem InvV.next {ops : Array Oper} {Φ : Nat → Value → World → Prop} {R : World → Prop} {a0 : Act} {l : Array Bool} {a : Act} {u u' : World} (h : InvV ops Φ R a0 l a u) (hB : dstB ops a0.tmps.size = true)
    (hmono : ∀ i v u u', Φ i v u → Below u.heap.size u u' → Φ i v u') {i : Nat} {o : Oper} (ho : ops[i]? = some o) {v : Value} (hv : Φ i v u') (hr : R u') (hb : Below u.heap.size u u') :
    InvV ops Φ R a0 (l.setIfInBounds i true) (a.put o.dst v) u' := by
  have hi : i < ops.size := (Array.getElem?_eq_some_iff.1 ho).1
  obtain ⟨d, hd, hlt, hun⟩ := dstB_of hB hi
  have hod : o.dst = some d := by simpa [dstOf, ho] using hd
  rw [hod]
  have hlt' : d < a.tmps.size := by rw [h.sz]; exact hlt
  have hil : i < l.size := by rw [h.ls]; exact hi
  refine ⟨hr, by simpa using h.ls, h.df, by simpa [Act.put] using h.sz, fun s hs => ?_, fun j e hj hl => ?_⟩
  · have hne : d ≠ s := hs i d hd (by rw [getD_set hil, if_pos rfl])
    rw [getD_put hlt', if_neg (Ne.symm hne)]
    exact h.old s (fun j e hj hl => hs j e hj (by rw [getD_set hil]; split; rfl; exact hl))
  · have hjs : j < ops.size := by
      cases hoj : ops[j]? with
      | none => rw [dstOf, hoj] at hj; cases hj
      | some o' => exact (Array.getElem?_eq_some_iff.1 hoj).1
    rw [getD_put hlt']
    by_cases e1 : e = d
    · subst e1
      obtain rfl := hun j hjs hj
      rw [if_pos rfl]
      exact hv
    · rw [if_neg e1]
      have e2 : j ≠ i := fun e2 => by subst e2; rw [hd] at hj; exact e1 (Option.some.inj hj).symm
      rw [getD_set hil, if_neg e2] at hl
      exact hmono _ _ _ _ (h.val j e hj hl) hb
theorem putsL_eq {a : Act} : ∀ (os : List Oper) (k : Nat) (a' : Act) (vs : Nat → Value), a'.defers = a.defers → a'.tmps.size = a.tmps.size → (∀ (j : Nat) (o : Oper) (d : Nat), os[j]? = some o → o.dst = some d → vs (k + j) = a.tmps.getD d undef) →
    (∀ s, a'.tmps.getD s undef = a.tmps.getD s undef ∨ ∃ (j : Nat) (o : Oper), os[j]? = some o ∧ o.dst = some s) → (∀ (j : Nat) (o : Oper), os[j]? = some o → ∃ d, o.dst = some d ∧ d < a.tmps.size) → putsL a' k os vs = a
  | [], k, a', vs, h1, h2, _, h4, _ => by
    have e : a'.tmps = a.tmps := by
      apply Array.ext h2
      intro i hi1 hi2
      rcases h4 i with h | ⟨j, o, h, _⟩
      · simpa [Array.getD, hi1, hi2] using h
      · simp at h
    cases a'; cases a
    simp only at e h1
    subst e h1
    rfl
  | o :: os, k, a', vs, h1, h2, h3, h4, h5 => by
    obtain ⟨d, hd, hlt⟩ := h5 0 o rfl
    show putsL (a'.put o.dst (vs k)) (k + 1) os vs = a
    rw [hd]
    refine putsL_eq os (k + 1) _ vs h1 (by simpa [Act.put] using h2) (fun j o' d' ho hd' => by rw [show k + 1 + j = k + (j + 1) by omega]; exact h3 (j + 1) o' d' (by simpa using ho) hd') (fun s => ?_) (fun j o' ho => h5 (j + 1) o' (by simpa using ho))
    rw [getD_put (by rw [h2]; exact hlt)]
    by_cases e : s = d
    · subst e
      rw [if_pos rfl]
      exact .inl (by simpa using h3 0 o s rfl hd)
    · rw [if_neg e]
      rcases h4 s with h | ⟨j, o', ho, hd'⟩
      · exact .inl h
      · cases j with
        | zero => simp at ho; subst ho; rw [hd] at hd'; exact absurd (Option.some.inj hd').symm e
        | succ j => exact .inr ⟨j, o', by simpa using ho, hd'⟩
theorem wanted_eq {ops : Array Oper} {a : Act} {o : Oper} (h : ∀ j d, dstOf ops j = some d → d < a.tmps.size) : Region.wanted o (yielded ops a.tmps) = wantV ops o a.eval := by
  unfold Region.wanted wantV
  cases o.guard with
  | none => rfl
  | some p =>
    obtain ⟨j, want⟩ := p
    have hy : yielded ops a.tmps j = match dstOf ops j with
        | some d => (match a.eval (.tmp d) with | .bool b => some b | _ => none)
        | none => none := by
      unfold yielded dstOf
      cases hd : (ops[j]?).bind (·.dst) with
      | none => rfl
      | some d =>
        have hlt := h j d hd
        have e : (some d).bind (fun t => a.tmps[t]?) = some (a.eval (.tmp d)) := by
          show a.tmps[d]? = some (a.tmps.getD d undef)
          simp [Array.getD, hlt]
        rw [e]
        simp only
        generalize a.eval (.tmp d) = x
        cases x <;> rfl
    show (yielded ops a.tmps j == some want) = (match dstOf ops j with
      | some d => (match a.eval (.tmp d) with | .bool b => b == want | _ => false)
      | none => false)
    rw [hy]
    cases dstOf ops j with
    | none => rfl
    | some d =>
      simp only
      generalize a.eval (.tmp d) = x
      cases x <;> simp
theorem wpAny_vals {P : Program} {ops : Array Oper} {Q : Exit → Act → World → Prop} {md : Region.Mode} {a0 : Act} {w0 : World} (R : World → Prop) (Φ : Nat → Value → World → Prop)
    (hordB : ordB md ops = true) (hB : dstB ops a0.tmps.size = true) (hmono : ∀ i v u u', Φ i v u → Below u.heap.size u u' → Φ i v u') (h0 : R w0)
    (hend : ∀ (vs : Nat → Value) u, R u → (∀ i, i < ops.size → Φ i (vs i) u) → Q .normal (putsL a0 0 ops.toList vs) u)
    (hstep : ∀ u i o (ρ : Operand → Value), R u → ops[i]? = some o → (∀ s, isDst ops s = false → ρ (.tmp s) = a0.eval (.tmp s)) → (∀ v, ρ (.const v) = v) → (∀ f, ρ (.func f) = .func (.func f) #[] #[]) →
      (∀ e ∈ o.after, Region.binds md e = true → ∀ d, dstOf ops e.on = some d → Φ e.on (ρ (.tmp d)) u) → StpV P ops Φ R i o ρ u)
    (fuel : Nat) (l : Array Bool) (hs : l.size = ops.size) (hc : l.toList.count false ≤ fuel) (hl : ∀ i, l.getD i false = false) : wpAny P md ops Q fuel l a0 w0 := by
  refine wpAny_inv (InvV ops Φ R a0) hordB ?_ ?_ fuel l a0 w0 hs hc ?_
  · intro l a u h hall
    have hall' : ∀ i, i < ops.size → l.getD i false = true := fun i hi => by rw [getD_eq (by rw [h.ls]; exact hi) false true]; exact hall i hi
    have e : putsL a0 0 ops.toList (fun i => a.tmps.getD ((dstOf ops i).getD 0) undef) = a := by
      refine putsL_eq ops.toList 0 a0 _ h.df.symm h.sz.symm (fun j o d ho hd => ?_) (fun s => ?_) (fun j o ho => ?_)
      · rw [Nat.zero_add]
        have : dstOf ops j = some d := by rw [Array.getElem?_toList] at ho; simp [dstOf, ho, hd]
        show a.tmps.getD ((dstOf ops j).getD 0) undef = _
        rw [this]; rfl
      · by_cases hx : ∃ j d, dstOf ops j = some d ∧ l.getD j false = true ∧ d = s
        · obtain ⟨j, d, hd, _, rfl⟩ := hx
          right
          unfold dstOf at hd
          cases ho : ops[j]? with
          | none => rw [ho] at hd; cases hd
          | some o => rw [ho] at hd; exact ⟨j, o, by rw [Array.getElem?_toList]; exact ho, hd⟩
        · left
          exact (h.old s (fun i d hd hl e => hx ⟨i, d, hd, hl, e⟩)).symm
      · rw [Array.getElem?_toList] at ho
        have hi : j < ops.size := (Array.getElem?_eq_some_iff.1 ho).1
        obtain ⟨d, hd, hlt, _⟩ := dstB_of hB hi
        exact ⟨d, by simpa [dstOf, ho] using hd, by rw [h.sz]; exact hlt⟩
    rw [← e]
    refine hend _ u h.r (fun i hi => ?_)
    obtain ⟨d, hd, _, _⟩ := dstB_of hB hi
    show Φ i (a.tmps.getD ((dstOf ops i).getD 0) undef) u
    rw [hd]
    exact h.val i d hd (hall' i hi)
  · intro l a u i o h ho hli hdep K hK
    have hi : i < ops.size := (Array.getElem?_eq_some_iff.1 ho).1
    have hin : ∀ j d, dstOf ops j = some d → j < ops.size := fun j d hj => by
      unfold dstOf at hj
      cases hoj : ops[j]? with
      | none => rw [hoj] at hj; cases hj
      | some o' => exact (Array.getElem?_eq_some_iff.1 hoj).1
    have hw : Region.wanted o (yielded ops a.tmps) = wantV ops o a.eval := wanted_eq (fun j d hj => by
      obtain ⟨d', hd', hlt, _⟩ := dstB_of hB (hin j d hj)
      rw [hj] at hd'
      rw [h.sz, Option.some.inj hd']; exact hlt)
    have hst := hstep u i o a.eval h.r ho (fun s hns => by
      refine h.old s (fun j d hj _ e => ?_)
      subst e
      have : isDst ops d = true := by
        unfold isDst
        rw [List.any_eq_true]
        exact ⟨j, List.mem_range.2 (hin j d hj), by simp [hj]⟩
      rw [this] at hns; cases hns) (fun _ => rfl) (fun _ => rfl) (fun e he hb d hd => h.val e.on d hd (hdep e he hb))
    rcases hst with ⟨hwt, ⟨v, u', hrun, hv, hr, hbl⟩ | ⟨f, args, hrun, hcall⟩⟩ | ⟨hwf, hv⟩
    · rw [if_pos (by rw [hw]; exact hwt)]
      unfold Oper.wp
      rw [hrun]
      exact hK _ _ (h.next hB hmono ho hv hr hbl)
    · rw [if_pos (by rw [hw]; exact hwt)]
      unfold Oper.wp
      rw [hrun, Oper.upon_enter]
      refine hcall.mono ?_
      rintro e u' ⟨v, rfl, hv, hr, hbl⟩
      exact hK _ _ (h.next hB hmono ho hv hr hbl)
    · rw [if_neg (by rw [hw, hwf]; decide)]
      exact hK _ _ (h.next hB hmono ho hv h.r (Below.refl _ _))
  · exact ⟨h0, hs, rfl, rfl, fun _ _ => rfl, fun i d _ hl' => by rw [hl i] at hl'; cases hl'⟩
end Go.Proofs.YtohikbpolofklaaGreatDoor
namespace Go.Proofs.YtohikbpolofklaaGreatDoor
open Go.RowKit
theorem run_load_op {P : Program} {ρ : Operand → Value} {o : Oper} {u : World} {t : TypeId} {p : Operand} {ptr v : Value} (ho : o.op = .load t p) (hp : ρ p = ptr) (hr : (Instr.loadAt t ptr).run P u = .ok v u) : (execOp ρ o).run P u = .ok (.value v) u := by
  unfold execOp
  simp only [ho, hp]
  rw [Sem.run_bind, hr]
  rfl
theorem run_call_op {P : Program} {ρ : Operand → Value} {o : Oper} {u : World} {f : FuncId} {xs : Array Operand} {ts : Array TypeId} {args : Array Value} (ho : o.op = .call ⟨.value (.func f), xs, ts⟩) (hf : ρ (.func f) = .func (.func f) #[] #[]) (hx : xs.map ρ = args)
    (hc : (callFunc f args).run P u = .ok (.enter f args) u) : (execOp ρ o).run P u = .ok (.enter f args) u := by
  unfold execOp
  simp only [ho, resolve, hf, hx]
  show (callFunc f ((#[] ++ args) ++ #[])).run P u = _
  simpa using hc
theorem run_pick_op {P : Program} {ρ : Operand → Value} {o : Oper} {u : World} {c x y : Operand} {b : Bool} (ho : o.op = .pick c x y) (hc : ρ c = .bool b) : (execOp ρ o).run P u = .ok (.value (if b = true then ρ x else ρ y)) u := by
  unfold execOp
  simp only [ho, hc]
  rfl
theorem run_bin_op {P : Program} {ρ : Operand → Value} {o : Oper} {u : World} {op : BinOp} {t t' : TypeId} {x y : Operand} {a b v : Value} (ho : o.op = .binOp op t x y t') (ha : ρ x = a) (hb : ρ y = b) (hr : (do eqGuard op t x y a b; binOp op t a b : Sem Value).run P u = .ok v u) : (execOp ρ o).run P u = .ok (.value v) u := by
  unfold execOp
  simp only [ho, ha, hb]
  rw [Sem.run_bind, hr]
  rfl
end Go.Proofs.YtohikbpolofklaaGreatDoor
namespace Go.Proofs.YtohikbpolofklaaGreatDoor
open Go.RowKit
def dstC (ops : Array Oper) (n : Nat) : Bool :=
  (List.range ops.size).all fun i => match dstOf ops i with
    | some d => decide (d < n) && (List.range ops.size).all fun j => decide (j = i) || decide (dstOf ops j ≠ some d)
    | none => true
def updB (l : Nat → Bool) (i : Nat) : Nat → Bool := fun j => if j = i then true else l j
def StpW (P : Program) (ops : Array Oper) (Φ : Nat → Value → World → Prop) (R : World → Prop) (M : World → World → Prop) (i : Nat) (o : Oper) (ρ : Operand → Value) (u : World) : Prop :=
  (wantV ops o ρ = true ∧ ((∃ v u', (execOp ρ o).run P u = .ok (.value v) u' ∧ Φ i v u' ∧ R u' ∧ M u u') ∨ (∃ f args, (execOp ρ o).run P u = .ok (.enter f args) u ∧ Calls P f args u fun e u' => ∃ v, e = .returned v ∧ Φ i v u' ∧ R u' ∧ M u u') ∨ (o.dst = none ∧ ∃ u', (execOp ρ o).run P u = .ok .skip u' ∧ R u' ∧ M u u')))
  ∨ (wantV ops o ρ = false ∧ Φ i undef u ∧ R u)
structure InvW (md : Region.Mode) (ops : Array Oper) (Φ : Nat → Value → World → Prop) (R : (Nat → Bool) → World → Prop) (a0 : Act) (l : Array Bool) (a : Act) (u : World) : Prop where
  r : R (fun i => l.getD i false) u
  ls : l.size = ops.size
  df : a.defers = a0.defers
  sz : a.tmps.size = a0.tmps.size
  old : ∀ s, (∀ i d, dstOf ops i = some d → l.getD i false = true → d ≠ s) → a.tmps.getD s undef = a0.tmps.getD s undef
  val : ∀ i d, dstOf ops i = some d → l.getD i false = true → Φ i (a.tmps.getD d undef) u
  cl : ∀ i o, ops[i]? = some o → l.getD i false = true → ∀ e ∈ o.after, Region.binds md e = true → l.getD e.on false = true
theorem dstC_of {ops : Array Oper} {n : Nat} (h : dstC ops n = true) {i : Nat} (hi : i < ops.size) {d : Nat} (hd : dstOf ops i = some d) : d < n ∧ ∀ j, j < ops.size → dstOf ops j = some d → j = i := by
  unfold dstC at h
  rw [List.all_eq_true] at h
  have h1 := h i (List.mem_range.2 hi)
  rw [hd] at h1
  simp only [Bool.and_eq_true, decide_eq_true_eq, List.all_eq_true, Bool.or_eq_true] at h1
  refine ⟨h1.1, fun j hj e => ?_⟩
  rcases h1.2 j (List.mem_range.2 hj) with h2 | h2
  · exact h2
  · exact absurd e h2
theorem dstOf_lt {ops : Array Oper} {j d : Nat} (hj : dstOf ops j = some d) : j < ops.size := by
  unfold dstOf at hj
  cases hoj : ops[j]? with
  | none => rw [hoj] at hj; cases hj
  | some o' => exact (Array.getElem?_eq_some_iff.1 hoj).1
theorem getD_upd {l : Array Bool} {i : Nat} (hi : i < l.size) : (fun j => (l.setIfInBounds i true).getD j false) = updB (fun j => l.getD j false) i := by
  funext j
  exact getD_set hi
theorem InvW.next {md : Region.Mode} {ops : Array Oper} {Φ : Nat → Value → World → Prop} {R : (Nat → Bool) → World → Prop} {M : World → World → Prop} {a0 : Act} {l : Array Bool} {a : Act} {u u' : World} (h : InvW md ops Φ R a0 l a u) (hB : dstC ops a0.tmps.size = true)
    (hmono : ∀ i v u u', Φ i v u → M u u' → Φ i v u') {i : Nat} {o : Oper} (ho : ops[i]? = some o) (hdep : ∀ e ∈ o.after, Region.binds md e = true → l.getD e.on false = true) {v : Value} (hv : ∀ d, o.dst = some d → Φ i v u') (hr : R (updB (fun j => l.getD j false) i) u') (hb : M u u') :
    InvW md ops Φ R a0 (l.setIfInBounds i true) (a.put o.dst v) u' := by
  have hi : i < ops.size := (Array.getElem?_eq_some_iff.1 ho).1
  have hil : i < l.size := by rw [h.ls]; exact hi
  have hcl : ∀ j oj, ops[j]? = some oj → (l.setIfInBounds i true).getD j false = true → ∀ e ∈ oj.after, Region.binds md e = true → (l.setIfInBounds i true).getD e.on false = true := by
    intro j oj hoj hlj e he hbd
    rw [getD_set hil]
    split
    · rfl
    · rw [getD_set hil] at hlj
      by_cases e1 : j = i
      · subst e1
        rw [ho] at hoj
        cases hoj
        exact hdep e he hbd
      · rw [if_neg e1] at hlj
        exact h.cl j oj hoj hlj e he hbd
  have hr' : R (fun j => (l.setIfInBounds i true).getD j false) u' := by rw [getD_upd hil]; exact hr
  cases hod : o.dst with
  | none =>
    have hd : dstOf ops i = none := by simp [dstOf, ho, hod]
    refine ⟨hr', by simpa using h.ls, h.df, h.sz, fun s hs => ?_, fun j e hj hl => ?_, hcl⟩
    · exact h.old s (fun j e hj hl => hs j e hj (by rw [getD_set hil]; split; rfl; exact hl))
    · have e2 : j ≠ i := fun e2 => by subst e2; rw [hd] at hj; cases hj
      rw [getD_set hil, if_neg e2] at hl
      exact hmono _ _ _ _ (h.val j e hj hl) hb
  | some d =>
    have hd : dstOf ops i = some d := by simp [dstOf, ho, hod]
    obtain ⟨hlt, hun⟩ := dstC_of hB hi hd
    have hlt' : d < a.tmps.size := by rw [h.sz]; exact hlt
    refine ⟨hr', by simpa using h.ls, h.df, by simpa [Act.put] using h.sz, fun s hs => ?_, fun j e hj hl => ?_, hcl⟩
    · have hne : d ≠ s := hs i d hd (by rw [getD_set hil, if_pos rfl])
      rw [getD_put hlt', if_neg (Ne.symm hne)]
      exact h.old s (fun j e hj hl => hs j e hj (by rw [getD_set hil]; split; rfl; exact hl))
    · rw [getD_put hlt']
      by_cases e1 : e = d
      · subst e1
        obtain rfl := hun j (dstOf_lt hj) hj
        rw [if_pos rfl]
        exact hv _ hod
      · rw [if_neg e1]
        have e2 : j ≠ i := fun e2 => by subst e2; rw [hd] at hj; exact e1 (Option.some.inj hj).symm
        rw [getD_set hil, if_neg e2] at hl
        exact hmono _ _ _ _ (h.val j e hj hl) hb
theorem putsL_eqW {a : Act} : ∀ (os : List Oper) (k : Nat) (a' : Act) (vs : Nat → Value), a'.defers = a.defers → a'.tmps.size = a.tmps.size → (∀ (j : Nat) (o : Oper) (d : Nat), os[j]? = some o → o.dst = some d → vs (k + j) = a.tmps.getD d undef) →
    (∀ s, a'.tmps.getD s undef = a.tmps.getD s undef ∨ ∃ (j : Nat) (o : Oper), os[j]? = some o ∧ o.dst = some s) → (∀ (j : Nat) (o : Oper) (d : Nat), os[j]? = some o → o.dst = some d → d < a.tmps.size) → putsL a' k os vs = a
  | [], k, a', vs, h1, h2, _, h4, _ => by
    have e : a'.tmps = a.tmps := by
      apply Array.ext h2
      intro i hi1 hi2
      rcases h4 i with h | ⟨j, o, h, _⟩
      · simpa [Array.getD, hi1, hi2] using h
      · simp at h
    cases a'; cases a
    simp only at e h1
    subst e h1
    rfl
  | o :: os, k, a', vs, h1, h2, h3, h4, h5 => by
    show putsL (a'.put o.dst (vs k)) (k + 1) os vs = a
    have h3' : ∀ (j : Nat) (o : Oper) (d : Nat), os[j]? = some o → o.dst = some d → vs (k + 1 + j) = a.tmps.getD d undef := fun j o' d' ho hd' => by rw [show k + 1 + j = k + (j + 1) by omega]; exact h3 (j + 1) o' d' (by simpa using ho) hd'
    have h5' : ∀ (j : Nat) (o : Oper) (d : Nat), os[j]? = some o → o.dst = some d → d < a.tmps.size := fun j o' d' ho hd' => h5 (j + 1) o' d' (by simpa using ho) hd'
    cases hd : o.dst with
    | none =>
      refine putsL_eqW os (k + 1) _ vs h1 h2 h3' (fun s => ?_) h5'
      rcases h4 s with h | ⟨j, o', ho, hd'⟩
      · exact .inl h
      · cases j with
        | zero => simp at ho; subst ho; rw [hd] at hd'; cases hd'
        | succ j => exact .inr ⟨j, o', by simpa using ho, hd'⟩
    | some d =>
      have hlt := h5 0 o d rfl hd
      refine putsL_eqW os (k + 1) _ vs h1 (by simpa [Act.put] using h2) h3' (fun s => ?_) h5'
      rw [getD_put (by rw [h2]; exact hlt)]
      by_cases e : s = d
      · subst e
        rw [if_pos rfl]
        exact .inl (by simpa using h3 0 o s rfl hd)
      · rw [if_neg e]
        rcases h4 s with h | ⟨j, o', ho, hd'⟩
        · exact .inl h
        · cases j with
          | zero => simp at ho; subst ho; rw [hd] at hd'; exact absurd (Option.some.inj hd').symm e
          | succ j => exact .inr ⟨j, o', by simpa using ho, hd'⟩
theorem run_index_op {P : Program} {ρ : Operand → Value} {o : Oper} {u : World} {t : TypeId} {x y : Operand} {a b v : Value} (ho : o.op = .indexAddr t x y) (ha : ρ x = a) (hb : ρ y = b) (hr : (Instr.indexAt t a b).run P u = .ok v u) : (execOp ρ o).run P u = .ok (.value v) u := by
  unfold execOp
  simp only [ho, ha, hb]
  rw [Sem.run_bind, hr]
  rfl
theorem run_store_op {P : Program} {ρ : Operand → Value} {o : Oper} {u u' : World} {t : TypeId} {x y : Operand} {a b : Value} (ho : o.op = .store t x y) (ha : ρ x = a) (hb : ρ y = b) (hr : (Instr.storeAt t a b).run P u = .ok () u') : (execOp ρ o).run P u = .ok .skip u' := by
  unfold execOp
  simp only [ho, ha, hb]
  rw [Sem.run_bind, hr]
  rfl
theorem run_field_op {P : Program} {ρ : Operand → Value} {o : Oper} {u : World} {s : TypeId} {x : Operand} {f : Nat} {a v : Value} (ho : o.op = .fieldAddr s x f) (ha : ρ x = a) (hr : (Instr.fieldAt s a f).run P u = .ok v u) : (execOp ρ o).run P u = .ok (.value v) u := by
  unfold execOp
  simp only [ho, ha]
  rw [Sem.run_bind, hr]
  rfl
theorem run_un_op {P : Program} {ρ : Operand → Value} {o : Oper} {u : World} {op : UnOp} {t : TypeId} {x : Operand} {a v : Value} (ho : o.op = .unOp op t x) (ha : ρ x = a) (hr : (Op.unary op a).run P u = .ok v u) : (execOp ρ o).run P u = .ok (.value v) u := by
  unfold execOp
  simp only [ho, ha]
  rw [Sem.run_bind, hr]
  rfl
end Go.Proofs.YtohikbpolofklaaGreatDoor
namespace Go.Proofs.YtohikbpolofklaaGreatDoor
open Go.RowKit
def updS (σ : Nat → Value) (od : Option Nat) (v : Value) : Nat → Value := match od with
  | some d => fun s => if s = d then v else σ s
  | none => σ
def StpY (P : Program) (ops : Array Oper) (Φ : Nat → Value → World → Prop) (R : Value → World → Prop) (M : World → World → Prop) (i : Nat) (o : Oper) (ρ : Operand → Value) (u : World) : Prop :=
  (wantV ops o ρ = true ∧ ((∃ v u', (execOp ρ o).run P u = .ok (.value v) u' ∧ Φ i v u' ∧ R v u' ∧ M u u') ∨ (∃ f args, (execOp ρ o).run P u = .ok (.enter f args) u ∧ Calls P f args u fun e u' => ∃ v, e = .returned v ∧ Φ i v u' ∧ R v u' ∧ M u u') ∨ (o.dst = none ∧ ∃ u', (execOp ρ o).run P u = .ok .skip u' ∧ R undef u' ∧ M u u')))
  ∨ (wantV ops o ρ = false ∧ Φ i undef u ∧ R undef u)
structure InvY (md : Region.Mode) (ops : Array Oper) (Φ : Nat → Value → World → Prop) (R : (Nat → Bool) → (Nat → Value) → World → Prop) (a0 : Act) (l : Array Bool) (a : Act) (u : World) : Prop where
  r : R (fun i => l.getD i false) (fun s => a.tmps.getD s undef) u
  ls : l.size = ops.size
  df : a.defers = a0.defers
  sz : a.tmps.size = a0.tmps.size
  old : ∀ s, (∀ i d, dstOf ops i = some d → l.getD i false = true → d ≠ s) → a.tmps.getD s undef = a0.tmps.getD s undef
  val : ∀ i d, dstOf ops i = some d → l.getD i false = true → Φ i (a.tmps.getD d undef) u
  cl : ∀ i o, ops[i]? = some o → l.getD i false = true → ∀ e ∈ o.after, Region.binds md e = true → l.getD e.on false = true
theorem InvY.next {md : Region.Mode} {ops : Array Oper} {Φ : Nat → Value → World → Prop} {R : (Nat → Bool) → (Nat → Value) → World → Prop} {M : World → World → Prop} {a0 : Act} {l : Array Bool} {a : Act} {u u' : World} (h : InvY md ops Φ R a0 l a u) (hB : dstC ops a0.tmps.size = true)
    (hmono : ∀ i v u u', Φ i v u → M u u' → Φ i v u') {i : Nat} {o : Oper} (ho : ops[i]? = some o) (hdep : ∀ e ∈ o.after, Region.binds md e = true → l.getD e.on false = true) {v : Value} (hv : ∀ d, o.dst = some d → Φ i v u') (hr : R (updB (fun j => l.getD j false) i) (updS (fun s => a.tmps.getD s undef) o.dst v) u') (hb : M u u') :
    InvY md ops Φ R a0 (l.setIfInBounds i true) (a.put o.dst v) u' := by
  have hi : i < ops.size := (Array.getElem?_eq_some_iff.1 ho).1
  have hil : i < l.size := by rw [h.ls]; exact hi
  have hcl : ∀ j oj, ops[j]? = some oj → (l.setIfInBounds i true).getD j false = true → ∀ e ∈ oj.after, Region.binds md e = true → (l.setIfInBounds i true).getD e.on false = true := by
    intro j oj hoj hlj e he hbd
    rw [getD_set hil]
    split
    · rfl
    · rw [getD_set hil] at hlj
      by_cases e1 : j = i
      · subst e1
        rw [ho] at hoj
        cases hoj
        exact hdep e he hbd
      · rw [if_neg e1] at hlj
        exact h.cl j oj hoj hlj e he hbd
  rw [← getD_upd hil] at hr
  cases hod : o.dst with
  | none =>
    have hd : dstOf ops i = none := by simp [dstOf, ho, hod]
    rw [hod] at hr
    refine ⟨hr, by simpa using h.ls, h.df, h.sz, fun s hs => ?_, fun j e hj hl => ?_, hcl⟩
    · exact h.old s (fun j e hj hl => hs j e hj (by rw [getD_set hil]; split; rfl; exact hl))
    · have e2 : j ≠ i := fun e2 => by subst e2; rw [hd] at hj; cases hj
      rw [getD_set hil, if_neg e2] at hl
      exact hmono _ _ _ _ (h.val j e hj hl) hb
  | some d =>
    have hd : dstOf ops i = some d := by simp [dstOf, ho, hod]
    obtain ⟨hlt, hun⟩ := dstC_of hB hi hd
    have hlt' : d < a.tmps.size := by rw [h.sz]; exact hlt
    rw [hod] at hr
    have hr' : R (fun j => (l.setIfInBounds i true).getD j false) (fun s => (a.put (some d) v).tmps.getD s undef) u' := by
      have e9 : (fun s => (a.put (some d) v).tmps.getD s undef) = updS (fun s => a.tmps.getD s undef) (some d) v := by funext s; exact getD_put hlt'
      rw [e9]; exact hr
    refine ⟨hr', by simpa using h.ls, h.df, by simpa [Act.put] using h.sz, fun s hs => ?_, fun j e hj hl => ?_, hcl⟩
    · have hne : d ≠ s := hs i d hd (by rw [getD_set hil, if_pos rfl])
      rw [getD_put hlt', if_neg (Ne.symm hne)]
      exact h.old s (fun j e hj hl => hs j e hj (by rw [getD_set hil]; split; rfl; exact hl))
    · rw [getD_put hlt']
      by_cases e1 : e = d
      · subst e1
        obtain rfl := hun j (dstOf_lt hj) hj
        rw [if_pos rfl]
        exact hv _ hod
      · rw [if_neg e1]
        have e2 : j ≠ i := fun e2 => by subst e2; rw [hd] at hj; exact e1 (Option.some.inj hj).symm
        rw [getD_set hil, if_neg e2] at hl
        exact hmono _ _ _ _ (h.val j e hj hl) hb
theorem wpAny_valy {P : Program} {ops : Array Oper} {Q : Exit → Act → World → Prop} {md : Region.Mode} {a0 : Act} {w0 : World} (R : (Nat → Bool) → (Nat → Value) → World → Prop) (M : World → World → Prop) (Φ : Nat → Value → World → Prop)
    (hordB : ordB md ops = true) (hB : dstC ops a0.tmps.size = true) (hmono : ∀ i v u u', Φ i v u → M u u' → Φ i v u') (hM : ∀ u, M u u) (h0 : R (fun _ => false) (fun s => a0.tmps.getD s undef) w0)
    (hend : ∀ (vs : Nat → Value) (σ : Nat → Value) u, R (fun i => decide (i < ops.size)) σ u → (∀ i d, dstOf ops i = some d → vs i = σ d) → (∀ i d, dstOf ops i = some d → Φ i (vs i) u) → Q .normal (putsL a0 0 ops.toList vs) u)
    (hstep : ∀ u i o (ρ : Operand → Value) (l : Nat → Bool), R l (fun s => ρ (.tmp s)) u → ops[i]? = some o → l i = false → (∀ j oj, ops[j]? = some oj → l j = true → ∀ e ∈ oj.after, Region.binds md e = true → l e.on = true) →
      (∀ s, isDst ops s = false → ρ (.tmp s) = a0.eval (.tmp s)) → (∀ v, ρ (.const v) = v) → (∀ f, ρ (.func f) = .func (.func f) #[] #[]) →
      (∀ e ∈ o.after, Region.binds md e = true → l e.on = true) → (∀ j d, dstOf ops j = some d → l j = true → Φ j (ρ (.tmp d)) u) → StpY P ops Φ (fun v u' => R (updB l i) (updS (fun s => ρ (.tmp s)) o.dst v) u') M i o ρ u)
    (fuel : Nat) (l : Array Bool) (hs : l.size = ops.size) (hc : l.toList.count false ≤ fuel) (hl : ∀ i, l.getD i false = false) : wpAny P md ops Q fuel l a0 w0 := by
  refine wpAny_inv (InvY md ops Φ R a0) hordB ?_ ?_ fuel l a0 w0 hs hc ?_
  · intro l a u h hall
    have hall' : ∀ i, i < ops.size → l.getD i false = true := fun i hi => by rw [getD_eq (by rw [h.ls]; exact hi) false true]; exact hall i hi
    have e : putsL a0 0 ops.toList (fun i => a.tmps.getD ((dstOf ops i).getD 0) undef) = a := by
      refine putsL_eqW ops.toList 0 a0 _ h.df.symm h.sz.symm (fun j o d ho hd => ?_) (fun s => ?_) (fun j o d ho hd => ?_)
      · rw [Nat.zero_add]
        have : dstOf ops j = some d := by rw [Array.getElem?_toList] at ho; simp [dstOf, ho, hd]
        show a.tmps.getD ((dstOf ops j).getD 0) undef = _
        rw [this]; rfl
      · by_cases hx : ∃ j d, dstOf ops j = some d ∧ l.getD j false = true ∧ d = s
        · obtain ⟨j, d, hd, _, rfl⟩ := hx
          right
          unfold dstOf at hd
          cases ho : ops[j]? with
          | none => rw [ho] at hd; cases hd
          | some o => rw [ho] at hd; exact ⟨j, o, by rw [Array.getElem?_toList]; exact ho, hd⟩
        · left
          exact (h.old s (fun i d hd hl e => hx ⟨i, d, hd, hl, e⟩)).symm
      · rw [Array.getElem?_toList] at ho
        have hi : j < ops.size := (Array.getElem?_eq_some_iff.1 ho).1
        have hd' : dstOf ops j = some d := by simp [dstOf, ho, hd]
        rw [h.sz]
        exact (dstC_of hB hi hd').1
    rw [← e]
    refine hend _ (fun s => a.tmps.getD s undef) u ?_ (fun i d hd => by show a.tmps.getD ((dstOf ops i).getD 0) undef = _; rw [hd]; rfl) (fun i d hd => ?_)
    · have e2 : (fun i => l.getD i false) = (fun i => decide (i < ops.size)) := by
        funext i
        by_cases hi : i < ops.size
        · rw [hall' i hi]; simp [hi]
        · have : ¬ i < l.size := by rw [h.ls]; exact hi
          simp [Array.getD, hi, this]
      rw [← e2]
      exact h.r
    · show Φ i (a.tmps.getD ((dstOf ops i).getD 0) undef) u
      rw [hd]
      exact h.val i d hd (hall' i (dstOf_lt hd))
  · intro l a u i o h ho hli hdep K hK
    have hi : i < ops.size := (Array.getElem?_eq_some_iff.1 ho).1
    have hw : Region.wanted o (yielded ops a.tmps) = wantV ops o a.eval := wanted_eq (fun j d hj => by
      rw [h.sz]; exact (dstC_of hB (dstOf_lt hj) hj).1)
    have hst := hstep u i o a.eval (fun j => l.getD j false) h.r ho (by show l.getD i false = false; rw [getD_eq (by rw [h.ls]; exact hi) false true]; exact hli) (fun j oj hoj hlj e he hb => h.cl j oj hoj hlj e he hb) (fun s hns => by
      refine h.old s (fun j d hj _ e => ?_)
      subst e
      have : isDst ops d = true := by
        unfold isDst
        rw [List.any_eq_true]
        exact ⟨j, List.mem_range.2 (dstOf_lt hj), by simp [hj]⟩
      rw [this] at hns; cases hns) (fun _ => rfl) (fun _ => rfl) hdep (fun j d hd hlj => h.val j d hd hlj)
    rcases hst with ⟨hwt, ⟨v, u', hrun, hv, hr, hbl⟩ | ⟨f, args, hrun, hcall⟩ | ⟨hno, u', hrun, hr, hbl⟩⟩ | ⟨hwf, hv, hr⟩
    · rw [if_pos (by rw [hw]; exact hwt)]
      unfold Oper.wp
      rw [hrun]
      exact hK _ _ (h.next hB hmono ho hdep (fun _ _ => hv) hr hbl)
    · rw [if_pos (by rw [hw]; exact hwt)]
      unfold Oper.wp
      rw [hrun, Oper.upon_enter]
      refine hcall.mono ?_
      rintro e u' ⟨v, rfl, hv, hr, hbl⟩
      exact hK _ _ (h.next hB hmono ho hdep (fun _ _ => hv) hr hbl)
    · rw [if_pos (by rw [hw]; exact hwt)]
      unfold Oper.wp
      rw [hrun, Oper.upon_skip]
      exact hK _ _ (h.next hB hmono ho hdep (fun d hd => by rw [hno] at hd; cases hd) hr hbl)
    · rw [if_neg (by rw [hw, hwf]; decide)]
      exact hK _ _ (h.next hB hmono ho hdep (fun _ _ => hv) hr (hM u))
  · refine ⟨?_, hs, rfl, rfl, fun _ _ => rfl, fun i d _ hl' => (by rw [hl i] at hl'; cases hl'), fun i o _ hl' => (by rw [hl i] at hl'; cases hl')⟩
    rw [show (fun i => l.getD i false) = (fun _ => false) from funext hl]
    exact h0
end Go.Proofs.YtohikbpolofklaaGreatDoor
namespace Go.Proofs.YtohikbpolofklaaGreatDoor
open Go.RowKit
set_option linter.unusedVariables false
def StpB (P : Program) (ops : Array Oper) (Φ : Nat → Value → World → Prop) (i : Nat) (o : Oper) (ρ : Operand → Value) (u : World) : Prop :=
  (wantV ops o ρ = true ∧ ((∃ v u', (execOp ρ o).run P u = .ok (.value v) u' ∧ Φ i v u' ∧ Below u.heap.size u u') ∨ (∃ f args, (execOp ρ o).run P u = .ok (.enter f args) u ∧ Calls P f args u fun e u' => ∃ v, e = .returned v ∧ Φ i v u' ∧ Below u.heap.size u u')))
  ∨ (wantV ops o ρ = false ∧ Φ i undef u)
def lastB (md : Region.Mode) (ops : Array Oper) (N : Nat) : Bool :=
  match ops[N]? with
  | some o => o.dst.isNone && (List.range N).all (fun i => (dstOf ops i).isSome && o.after.toList.any (fun e => e.on == i && Region.binds md e))
  | none => false
theorem wpAny_st {P : Program} {ops : Array Oper} {Q : Exit → Act → World → Prop} {md : Region.Mode} {a0 : Act} {w0 : World} (N : Nat) (Rb : World → Prop) (E : (Nat → Value) → World → Prop) (Φ : Nat → Value → World → Prop)
    (hordB : ordB md ops = true) (hB : dstC ops a0.tmps.size = true) (hN : ops.size = N + 1) (hL : lastB md ops N = true)
    (hRb : ∀ u u', Rb u → Below u.heap.size u u' → Rb u') (hmono : ∀ i v u u', Φ i v u → Below u.heap.size u u' → Φ i v u') (h0 : Rb w0)
    (hend : ∀ (vs : Nat → Value) (σ : Nat → Value) u, E σ u → (∀ i d, dstOf ops i = some d → vs i = σ d) → Q .normal (putsL a0 0 ops.toList vs) u)
    (hstep : ∀ u i o (ρ : Operand → Value), i < N → Rb u → ops[i]? = some o → (∀ s, isDst ops s = false → ρ (.tmp s) = a0.eval (.tmp s)) → (∀ v, ρ (.const v) = v) → (∀ f, ρ (.func f) = .func (.func f) #[] #[]) →
      (∀ e ∈ o.after, Region.binds md e = true → ∀ d, dstOf ops e.on = some d → Φ e.on (ρ (.tmp d)) u) → StpB P ops Φ i o ρ u)
    (hlast : ∀ u o (ρ : Operand → Value), Rb u → ops[N]? = some o → (∀ s, isDst ops s = false → ρ (.tmp s) = a0.eval (.tmp s)) → (∀ v, ρ (.const v) = v) →
      (∀ j d, j < N → dstOf ops j = some d → Φ j (ρ (.tmp d)) u) → wantV ops o ρ = true ∧ ∃ u', (execOp ρ o).run P u = .ok .skip u' ∧ E (fun s => ρ (.tmp s)) u')
    (fuel : Nat) (l : Array Bool) (hs : l.size = ops.size) (hc : l.toList.count false ≤ fuel) (hl : ∀ i, l.getD i false = false) : wpAny P md ops Q fuel l a0 w0 := by
  obtain ⟨oN, hoN, hdN, hall⟩ : ∃ o, ops[N]? = some o ∧ o.dst = none ∧ ∀ i, i < N → (dstOf ops i).isSome = true ∧ ∃ e ∈ o.after, e.on = i ∧ Region.binds md e = true := by
    unfold lastB at hL
    split at hL
    · rename_i o ho
      simp only [Bool.and_eq_true, List.all_eq_true, List.mem_range] at hL
      refine ⟨o, ho, by simpa using hL.1, fun i hi => ?_⟩
      obtain ⟨q1, q2⟩ := hL.2 i hi
      rw [List.any_eq_true] at q2
      obtain ⟨e, he, q3⟩ := q2
      simp only [Bool.and_eq_true, beq_iff_eq] at q3
      exact ⟨q1, e, Array.mem_toList_iff.1 he, q3.1, q3.2⟩
    · cases hL
  refine wpAny_valy (fun l σ u => (l N = true → E σ u) ∧ (l N = false → Rb u ∧ ∀ j d, dstOf ops j = some d → l j = true → Φ j (σ d) u)) (fun _ _ => True) (fun _ _ _ => True) hordB hB (fun _ _ _ _ h _ => h) (fun _ => trivial) ⟨fun h => (by cases h), fun _ => ⟨h0, fun _ _ _ h => (by cases h)⟩⟩ (fun vs σ u hR hvs _ => hend vs σ u (hR.1 (by simp [hN])) hvs) ?_ fuel l hs hc hl
  intro u i o ρ l hR ho hli hcl hρ hcn hf hdep hv
  have hi : i < N + 1 := by rw [← hN]; exact (Array.getElem?_eq_some_iff.1 ho).1
  by_cases e : i = N
  · subst e
    rw [hoN] at ho
    cases ho
    obtain ⟨hb, hΦ⟩ := hR.2 hli
    obtain ⟨hw, u', hrun, hE⟩ := hlast u oN ρ hb hoN hρ hcn (fun j d hj hd => by
      obtain ⟨_, e, he, q1, q2⟩ := hall j hj
      exact hΦ j d hd (by rw [← q1]; exact hdep e he q2))
    refine .inl ⟨hw, .inr (.inr ⟨hdN, u', hrun, ⟨fun _ => ?_, fun h => ?_⟩, trivial⟩)⟩
    · rw [hdN]; exact hE
    · have : updB l i i = true := by unfold updB; rw [if_pos rfl]
      rw [this] at h; cases h
  · have hiN : i < N := by omega
    have hlN : l N = false := by
      cases h9 : l N with
      | false => rfl
      | true =>
        obtain ⟨_, e9, he, q1, q2⟩ := hall i hiN
        have := hcl N oN hoN h9 e9 he q2
        rw [q1, hli] at this
        cases this
    obtain ⟨hb, hΦ⟩ := hR.2 hlN
    have hup : updB l i N = false := by unfold updB; rw [if_neg (fun q => e q.symm)]; exact hlN
    obtain ⟨d, hd⟩ := Option.isSome_iff_exists.1 (hall i hiN).1
    have hod : o.dst = some d := by simpa [dstOf, ho] using hd
    have key : ∀ v u', Φ i v u' → Below u.heap.size u u' → (updB l i N = true → E (updS (fun s => ρ (.tmp s)) o.dst v) u') ∧ (updB l i N = false → Rb u' ∧ ∀ j d, dstOf ops j = some d → updB l i j = true → Φ j (updS (fun s => ρ (.tmp s)) o.dst v d) u') := by
      intro v u' h1 h2
      refine ⟨fun h => (by rw [hup] at h; cases h), fun _ => ⟨hRb u u' hb h2, fun j d' hj hl' => ?_⟩⟩
      by_cases ej : j = i
      · subst ej
        rw [hd] at hj
        cases hj
        rw [hod]
        show Φ j (if d = d then v else _) u'
        rw [if_pos rfl]
        exact h1
      · have hlj : l j = true := by unfold updB at hl'; rw [if_neg ej] at hl'; exact hl'
        have hne : d' ≠ d := fun q => ej ((dstC_of hB (show i < ops.size by omega) hd).2 j (dstOf_lt hj) (by rw [← q]; exact hj))
        rw [hod]
        show Φ j (if d' = d then v else ρ (.tmp d')) u'
        rw [if_neg hne]
        exact hmono _ _ _ _ (hΦ j d' hj hlj) h2
    rcases hstep u i o ρ hiN hb ho hρ hcn hf (fun e9 he hbd d9 hd9 => hΦ e9.on d9 hd9 (hdep e9 he hbd)) with ⟨hw, h9⟩ | ⟨hw, h9⟩
    · refine .inl ⟨hw, ?_⟩
      rcases h9 with ⟨v, u', hr, h1, h2⟩ | ⟨f, args, hr, hcall⟩
      · exact .inl ⟨v, u', hr, trivial, key v u' h1 h2, trivial⟩
      · refine .inr (.inl ⟨f, args, hr, hcall.mono ?_⟩)
        rintro e9 u' ⟨v, he, h1, h2⟩
        exact ⟨v, he, trivial, key v u' h1 h2, trivial⟩
    · exact .inr ⟨hw, trivial, key undef u h9 (Below.refl _ _)⟩
end Go.Proofs.YtohikbpolofklaaGreatDoor
namespace Go.Proofs.YtohikbpolofklaaGreatDoor
open Go.RowKit
set_option linter.unusedVariables false
def reachB (md : Region.Mode) (ops : Array Oper) : Nat → Nat → Nat → Bool
  | 0, i, j => i == j
  | k + 1, i, j => i == j || match ops[i]? with
    | some o => o.after.toList.any (fun e => Region.binds md e && reachB md ops k e.on j)
    | none => false
def tailB (md : Region.Mode) (ops : Array Oper) (N : Nat) : Bool :=
  (List.range N).all (fun i => (dstOf ops i).isSome) && (List.range ops.size).all (fun i => decide (i < N) || (List.range i).all (fun j => reachB md ops ops.size i j))
def noDst (ops : Array Oper) (N s : Nat) : Bool := (List.range N).all (fun j => dstOf ops j != some s)
def StpT (P : Program) (ops : Array Oper) (E : (Nat → Value) → World → Prop) (o : Oper) (ρ : Operand → Value) (u : World) : Prop :=
  wantV ops o ρ = true ∧ ((∃ v u', (execOp ρ o).run P u = .ok (.value v) u' ∧ E (updS (fun s => ρ (.tmp s)) o.dst v) u') ∨ (∃ f args, (execOp ρ o).run P u = .ok (.enter f args) u ∧ Calls P f args u fun e u' => ∃ v, e = .returned v ∧ E (updS (fun s => ρ (.tmp s)) o.dst v) u') ∨ (o.dst = none ∧ ∃ u', (execOp ρ o).run P u = .ok .skip u' ∧ E (fun s => ρ (.tmp s)) u'))
end Go.Proofs.YtohikbpolofklaaGreatDoor
namespace Go.Proofs.YtohikbpolofklaaGreatDoor
open Go.RowKit
set_option linter.unusedVariables false
end Go.Proofs.YtohikbpolofklaaGreatDoor
namespace Go.Proofs.YtohikbpolofklaaGreatDoor
open Go.RowKit
set_option linter.unusedVariables false
def floatB (md : Region.Mode) (ops : Array Oper) (S : Nat) (fl : Nat → Bool) : Bool :=
  (dstOf ops S).isNone && (List.range ops.size).all (fun i => i == S || ((dstOf ops i).isSome && (fl i || reachB md ops ops.size S i)))
end Go.Proofs.YtohikbpolofklaaGreatDoor
namespace Go.Proofs.YtohikbpolofklaaGreatDoor
open Go.RowKit
set_option linter.unusedVariables false
theorem wpAny_valg {P : Program} {ops : Array Oper} {Q : Exit → Act → World → Prop} {md : Region.Mode} {a0 : Act} {w0 : World} (R : (Nat → Bool) → World → Prop) (M : World → World → Prop) (Φ : Nat → Value → World → Prop)
    (hordB : ordB md ops = true) (hB : dstC ops a0.tmps.size = true) (hmono : ∀ i v u u', Φ i v u → M u u' → Φ i v u') (hM : ∀ u, M u u) (h0 : R (fun _ => false) w0)
    (hend : ∀ (vs : Nat → Value) u, R (fun i => decide (i < ops.size)) u → (∀ i d, dstOf ops i = some d → Φ i (vs i) u) → Q .normal (putsL a0 0 ops.toList vs) u)
    (hstep : ∀ u i o (ρ : Operand → Value) (l : Nat → Bool), R l u → ops[i]? = some o → l i = false → (∀ j oj, ops[j]? = some oj → l j = true → ∀ e ∈ oj.after, Region.binds md e = true → l e.on = true) →
      (∀ s, isDst ops s = false → ρ (.tmp s) = a0.eval (.tmp s)) → (∀ v, ρ (.const v) = v) → (∀ f, ρ (.func f) = .func (.func f) #[] #[]) → (∀ g, ρ (.global g) = .pointer (some ⟨g, 0, none⟩)) →
      (∀ e ∈ o.after, Region.binds md e = true → l e.on = true) → (∀ j d, dstOf ops j = some d → l j = true → Φ j (ρ (.tmp d)) u) → StpW P ops Φ (R (updB l i)) M i o ρ u)
    (fuel : Nat) (l : Array Bool) (hs : l.size = ops.size) (hc : l.toList.count false ≤ fuel) (hl : ∀ i, l.getD i false = false) : wpAny P md ops Q fuel l a0 w0 := by
  refine wpAny_inv (InvW md ops Φ R a0) hordB ?_ ?_ fuel l a0 w0 hs hc ?_
  · intro l a u h hall
    have hall' : ∀ i, i < ops.size → l.getD i false = true := fun i hi => by rw [getD_eq (by rw [h.ls]; exact hi) false true]; exact hall i hi
    have e : putsL a0 0 ops.toList (fun i => a.tmps.getD ((dstOf ops i).getD 0) undef) = a := by
      refine putsL_eqW ops.toList 0 a0 _ h.df.symm h.sz.symm (fun j o d ho hd => ?_) (fun s => ?_) (fun j o d ho hd => ?_)
      · rw [Nat.zero_add]
        have : dstOf ops j = some d := by rw [Array.getElem?_toList] at ho; simp [dstOf, ho, hd]
        show a.tmps.getD ((dstOf ops j).getD 0) undef = _
        rw [this]; rfl
      · by_cases hx : ∃ j d, dstOf ops j = some d ∧ l.getD j false = true ∧ d = s
        · obtain ⟨j, d, hd, _, rfl⟩ := hx
          right
          unfold dstOf at hd
          cases ho : ops[j]? with
          | none => rw [ho] at hd; cases hd
          | some o => rw [ho] at hd; exact ⟨j, o, by rw [Array.getElem?_toList]; exact ho, hd⟩
        · left
          exact (h.old s (fun i d hd hl e => hx ⟨i, d, hd, hl, e⟩)).symm
      · rw [Array.getElem?_toList] at ho
        have hi : j < ops.size := (Array.getElem?_eq_some_iff.1 ho).1
        have hd' : dstOf ops j = some d := by simp [dstOf, ho, hd]
        rw [h.sz]
        exact (dstC_of hB hi hd').1
    rw [← e]
    refine hend _ u ?_ (fun i d hd => ?_)
    · have e2 : (fun i => l.getD i false) = (fun i => decide (i < ops.size)) := by
        funext i
        by_cases hi : i < ops.size
        · rw [hall' i hi]; simp [hi]
        · have : ¬ i < l.size := by rw [h.ls]; exact hi
          simp [Array.getD, hi, this]
      rw [← e2]
      exact h.r
    · show Φ i (a.tmps.getD ((dstOf ops i).getD 0) undef) u
      rw [hd]
      exact h.val i d hd (hall' i (dstOf_lt hd))
  · intro l a u i o h ho hli hdep K hK
    have hi : i < ops.size := (Array.getElem?_eq_some_iff.1 ho).1
    have hw : Region.wanted o (yielded ops a.tmps) = wantV ops o a.eval := wanted_eq (fun j d hj => by
      rw [h.sz]; exact (dstC_of hB (dstOf_lt hj) hj).1)
    have hst := hstep u i o a.eval (fun j => l.getD j false) h.r ho (by show l.getD i false = false; rw [getD_eq (by rw [h.ls]; exact hi) false true]; exact hli) (fun j oj hoj hlj e he hb => h.cl j oj hoj hlj e he hb) (fun s hns => by
      refine h.old s (fun j d hj _ e => ?_)
      subst e
      have : isDst ops d = true := by
        unfold isDst
        rw [List.any_eq_true]
        exact ⟨j, List.mem_range.2 (dstOf_lt hj), by simp [hj]⟩
      rw [this] at hns; cases hns) (fun _ => rfl) (fun _ => rfl) (fun _ => rfl) hdep (fun j d hd hlj => h.val j d hd hlj)
    rcases hst with ⟨hwt, ⟨v, u', hrun, hv, hr, hbl⟩ | ⟨f, args, hrun, hcall⟩ | ⟨hno, u', hrun, hr, hbl⟩⟩ | ⟨hwf, hv, hr⟩
    · rw [if_pos (by rw [hw]; exact hwt)]
      unfold Oper.wp
      rw [hrun]
      exact hK _ _ (h.next hB hmono ho hdep (fun _ _ => hv) hr hbl)
    · rw [if_pos (by rw [hw]; exact hwt)]
      unfold Oper.wp
      rw [hrun, Oper.upon_enter]
      refine hcall.mono ?_
      rintro e u' ⟨v, rfl, hv, hr, hbl⟩
      exact hK _ _ (h.next hB hmono ho hdep (fun _ _ => hv) hr hbl)
    · rw [if_pos (by rw [hw]; exact hwt)]
      unfold Oper.wp
      rw [hrun, Oper.upon_skip]
      exact hK _ _ (h.next hB hmono ho hdep (fun d hd => by rw [hno] at hd; cases hd) hr hbl)
    · rw [if_neg (by rw [hw, hwf]; decide)]
      exact hK _ _ (h.next hB hmono ho hdep (fun _ _ => hv) hr (hM u))
  · refine ⟨?_, hs, rfl, rfl, fun _ _ => rfl, fun i d _ hl' => (by rw [hl i] at hl'; cases hl'), fun i o _ hl' => (by rw [hl i] at hl'; cases hl')⟩
    rw [show (fun i => l.getD i false) = (fun _ => false) from funext hl]
    exact h0
end Go.Proofs.YtohikbpolofklaaGreatDoor
namespace Go.Proofs.YtohikbpolofklaaGreatDoor
open Go.RowKit
def Box (w : World) (g : Nat) (t : TypeId) (v : Value) : Prop := w.heap[g]? = some (.cells #[v] t (0, 0))
end Go.Proofs.YtohikbpolofklaaGreatDoor
namespace Go.Proofs.YtohikbpolofklaaGreatDoor
open Go.RowKit Go.Joins
set_option linter.unusedVariables false
def CsAt (w : World) (g o : Nat) (vs : List Value) : Prop := ∀ j, j < vs.length → w.cell? ⟨g, o + j, none⟩ = vs[j]?
def RowS (w : World) (g : Nat) (t : TypeId) (s n : Nat) (F : Nat → List Value) : Prop :=
  ∃ cs, w.heap[g]? = some (.cells cs t (0, 0)) ∧ cs.size = n * s ∧ ∀ k, k < n → ∀ j, j < s → cs[k * s + j]? = (F k)[j]?
def setL (w : World) (g : Nat) : Nat → List Value → World
  | _, [] => w
  | o, v :: vs => setL (w.setCell ⟨g, o, none⟩ v) g (o + 1) vs
theorem setL_below {B g : Nat} {w0 : World} (hg : B ≤ g) : ∀ (vs : List Value) (w : World) (o : Nat), Below B w0 w → Below B w0 (setL w g o vs)
  | [], _, _, h => h
  | v :: vs, w, o, h => setL_below hg vs (w.setCell ⟨g, o, none⟩ v) (o + 1) (h.setCell hg v)
def SlS (w : World) (a : Option Addr) (s n : Nat) (F : Nat → List Value) : Prop :=
  n = 0 ∨ ∃ b off, a = some ⟨b, off, none⟩ ∧ b < w.heap.size ∧ ∀ k, k < n → ∀ j, j < s → w.cell? ⟨b, off + k * s + j, none⟩ = (F k)[j]?
end Go.Proofs.YtohikbpolofklaaGreatDoor
namespace Go.Proofs.YtohikbpolofklaaGreatDoor
open Go.RowKit
set_option linter.unusedVariables false
set_option linter.unusedSimpArgs false
end Go.Proofs.YtohikbpolofklaaGreatDoor
namespace Go.Proofs.YtohikbpolofklaaGreatDoor
open Go.RowKit Go.Joins
set_option linter.unusedVariables false
set_option linter.unusedSimpArgs false
structure El where
  pre : List Value
  ws : List Int
  bs : List Bool
  post : List Value
instance : Inhabited El := ⟨⟨[], [], [], []⟩⟩
abbrev els (E : El) (a1 a2 : Option Addr) (c1 c2 : Nat) : List Value := E.pre ++ (.slice a1 E.ws.length c1 :: .slice a2 E.bs.length c2 :: E.post)
theorem setL_gw {g : Nat} : ∀ (vs : List Value) (w : World) (o : Nat), w.grownBy (setL w g o vs) (some g)
  | [], w, o => World.grownBy.refl w _
  | v :: vs, w, o => by
    have h1 := grown_setj w g o v
    have h2 := setL_gw (g := g) vs (w.setCell ⟨g, o, none⟩ v) (o + 1)
    exact ⟨h2.os.trans h1.os, h2.tape.trans h1.tape, h2.output.trans h1.output, Nat.le_trans h1.size h2.size, fun k hk hne => by rw [show setL w g o (v :: vs) = setL (w.setCell ⟨g, o, none⟩ v) g (o + 1) vs from rfl, h2.block k (Nat.lt_of_lt_of_le hk h1.size) hne, h1.block k hk hne]⟩
def RowO (w : World) (g : Nat) (t : TypeId) (s o n : Nat) (F : Nat → List Value) : Prop :=
  ∃ cs, w.heap[g]? = some (.cells cs t (0, 0)) ∧ o + n * s ≤ cs.size ∧ ∀ k, k < n → ∀ j, j < s → cs[o + k * s + j]? = (F k)[j]?
section
variable {w w' : World} {g : Nat} {t : TypeId} {s o n : Nat} {F G : Nat → List Value}
end
def OwnO (w : World) (base : Nat) (t : TypeId) (s : Nat) (v : Value) (n : Nat) (F : Nat → List Value) : Prop :=
  (n = 0 ∧ ∃ a c, v = .slice a 0 c) ∨ ∃ g o c, v = .slice (some ⟨g, o, none⟩) n c ∧ base ≤ g ∧ RowO w g t s o n F
section
variable {w w' : World} {base : Nat} {t : TypeId} {s : Nat} {v : Value} {n : Nat} {F : Nat → List Value}
end
def ElAt (w : World) (lo hi : Nat) (vs : List Value) (E : El) : Prop :=
  ∃ a1 a2 c1 c2, vs = els E a1 a2 c1 c2 ∧ OwnI w lo (.slice a1 E.ws.length c1) E.ws ∧ OwnB w lo (.slice a2 E.bs.length c2) E.bs ∧
    (∀ k, (Value.slice a1 E.ws.length c1).ownBlock = some k → k < hi) ∧ (∀ k, (Value.slice a2 E.bs.length c2).ownBlock = some k → k < hi)
section
variable {w w' : World} {lo hi : Nat} {vs : List Value} {E : El}
end
def InE (w : World) (base : Nat) (β : Nat → Nat) (F : Nat → List Value) (G : Nat → El) (z : Nat) : Prop :=
  base ≤ β 0 ∧ (∀ k, β k ≤ β (k + 1)) ∧ ∀ k, k < z → ElAt w (β k) (β (k + 1)) (F k) (G k)
section
variable {w w' : World} {base gx z : Nat} {β : Nat → Nat} {F F' : Nat → List Value} {G H : Nat → El}
end
def OwnL (w : World) (base : Nat) (t : TypeId) (s : Nat) (v : Value) (n : Nat) (G : Nat → El) : Prop :=
  ∃ (F : Nat → List Value) (β : Nat → Nat), OwnO w base t s v n F ∧ InE w base β F G n
def TopL (w : World) (base hi : Nat) (t : TypeId) (s : Nat) (v : Value) (n : Nat) (G : Nat → El) : Prop :=
  ∃ (F : Nat → List Value) (β : Nat → Nat), OwnO w base t s v n F ∧ InE w base β F G n ∧ β n ≤ hi ∧ ∀ g o m c, v = .slice (some ⟨g, o, none⟩) m c → 0 < n → g < hi
def SlL (w : World) (a : Option Addr) (s n : Nat) (G : Nat → El) : Prop :=
  ∃ F : Nat → List Value, SlS w a s n F ∧ ∀ k, k < n → ∃ a1 a2 c1 c2, F k = els (G k) a1 a2 c1 c2 ∧ SlI w a1 (G k).ws ∧ SlB w a2 (G k).bs
section
variable {w w' : World} {base : Nat} {t : TypeId} {s n : Nat} {v : Value} {G H : Nat → El} {a : Option Addr}
end
end Go.Proofs.YtohikbpolofklaaGreatDoor
namespace Go.Proofs.YtohikbpolofklaaGreatDoor
open Go.RowKit Go.Joins
set_option linter.unusedVariables false
set_option linter.unusedSimpArgs false
structure Ca where
  id : Int
  pa : Int
  un : Int
  kd : Int
  pl : Int
  n : Int
  wa : Int
  ws : List Int
  bs : List Bool
def caE (C : Ca) : El := ⟨[.int .i64 C.id, .int .i64 C.pa, .int .i64 C.un, .int .i64 C.kd, .int .i64 C.pl, .int .i64 C.n], C.ws, C.bs, [.int .i64 C.wa]⟩
abbrev cac (C : Ca) (a1 a2 : Option Addr) (l1 l2 c1 c2 : Nat) : Array Value := #[.int .i64 C.id, .int .i64 C.pa, .int .i64 C.un, .int .i64 C.kd, .int .i64 C.pl, .int .i64 C.n, .slice a1 l1 c1, .slice a2 l2 c2, .int .i64 C.wa]
def ca0 : Ca := ⟨0, 0, 0, 0, 0, 0, 0, [], []⟩
abbrev SlC (w : World) (a : Option Addr) (n : Nat) (f : Nat → Ca) : Prop := SlL w a 9 n (fun k => caE (f k))
def tl (f : Nat → Ca) : Nat → Nat
  | 0 => 0
  | k + 1 => tl f k + ((f k).ws.length + (f k).bs.length)
def lfC (left l1 l2 : Nat) : Int := if l1 + l2 ≤ left then (left : Int) - (l1 : Int) - (l2 : Int) else -1
def lfS (left n : Nat) (f : Nat → Ca) : Int := if n + tl f n ≤ left then (left : Int) - (n : Int) - (tl f n : Int) else -1
def BdC (n : Nat) (f : Nat → Ca) : Prop := n ≤ 2000000 ∧ ∀ k, k < n → (f k).ws.length ≤ 2000000 ∧ (f k).bs.length ≤ 2000000
end Go.Proofs.YtohikbpolofklaaGreatDoor
namespace Go.Proofs.YtohikbpolofklaaGreatDoor
open Go.RowKit Go.Joins
set_option linter.unusedVariables false
set_option linter.unusedSimpArgs false
def wrA (cs : Array Value) : Nat → List Value → Array Value
  | _, [] => cs
  | o, v :: vs => wrA (cs.setIfInBounds o v) (o + 1) vs
theorem Blk.stL {g : Nat} {t : TypeId} : ∀ (vs : List Value) {w : World} {cs : Array Value} (o : Nat), Blk w g t cs → Blk (setL w g o vs) g t (wrA cs o vs)
  | [], w, cs, o, h => h
  | v :: vs, w, cs, o, h => Blk.stL vs (o + 1) (h.set o v)
theorem Blk.stNe {g g' : Nat} {t : TypeId} {cs : Array Value} (hne : g ≠ g') : ∀ (vs : List Value) {w : World} (o : Nat), Blk w g t cs → Blk (setL w g' o vs) g t cs
  | [], w, o, h => h
  | v :: vs, w, o, h => Blk.stNe hne vs (o + 1) (h.setNe hne)
abbrev calL (C : Ca) (a1 a2 : Option Addr) (l1 l2 c1 c2 : Nat) : List Value := [.int .i64 C.id, .int .i64 C.pa, .int .i64 C.un, .int .i64 C.kd, .int .i64 C.pl, .int .i64 C.n, .slice a1 l1 c1, .slice a2 l2 c2, .int .i64 C.wa]
abbrev ca0c : Array Value := #[.int .i64 0, .int .i64 0, .int .i64 0, .int .i64 0, .int .i64 0, .int .i64 0, .slice none 0 0, .slice none 0 0, .int .i64 0]
def MadeL (w : World) (B : Nat) (t : TypeId) (s n : Nat) (G : Nat → El) : Prop := ∃ F β, RowS w B t s n F ∧ InE w B β F G n ∧ β n ≤ w.heap.size
end Go.Proofs.YtohikbpolofklaaGreatDoor
namespace Go.Proofs.YtohikbpolofklaaGreatDoor
open Go.RowKit Go.Joins
set_option linter.unusedVariables false
theorem setCells_L (g : Nat) : ∀ (vs : List Value) (w : World) (o : Nat), w.setCells g o vs = setL w g o vs
  | [], _, _ => rfl
  | v :: vs, w, o => by
    rw [World.setCells, setCells_L g vs]
    rfl
theorem Blk.range {w : World} {g : Nat} {t : TypeId} {cs : Array Value} (h : Blk w g t cs) (o : Nat) (vs : List Value) (hv : ∀ j, j < vs.length → cs[o + j]? = vs[j]?) : w.rangeAt g o vs := fun j v hj => by
  have hlt : j < vs.length := (List.getElem?_eq_some_iff.1 hj).1
  exact h.cell (o + j) (by rw [hv j hlt, hj])
theorem Blk.there {w : World} {g : Nat} {t : TypeId} {cs : Array Value} (h : Blk w g t cs) (o n : Nat) (hn : o + n ≤ cs.size) : w.there g o n := fun j hj => by
  refine ⟨?_, h.fro _⟩
  rw [h.cell (o + j) (Array.getElem?_eq_getElem (show o + j < cs.size by omega))]
  rfl
theorem Blk.all {w : World} {g : Nat} {t : TypeId} {vs : List Value} (h : Blk w g t vs.toArray) : w.rangeAt g 0 vs := h.range 0 vs (fun j hj => by simp)
end Go.Proofs.YtohikbpolofklaaGreatDoor
namespace Go.Proofs.YtohikbpolofklaaGreatDoor
open Go.RowKit Go.Joins
set_option linter.unusedVariables false
set_option linter.unusedSimpArgs false
end Go.Proofs.YtohikbpolofklaaGreatDoor
namespace Go.Proofs.YtohikbpolofklaaGreatDoor
open Go.RowKit Go.Joins
set_option linter.unusedVariables false
set_option linter.unusedSimpArgs false
inductive Tr where
  | leaf (v : Value)
  | list (s n : Nat) (f : Nat → Nat → Tr)
def Rd (w : World) (lo : Nat) : Tr → Value → Prop
  | .leaf u, v => v = u
  | .list s n f, v => ∃ a c, v = .slice a n c ∧ n ≤ c ∧ n ≤ maxLen ∧ (n = 0 ∨ ∃ (g off : Nat) (F : Nat → List Value), a = some ⟨g, off, none⟩ ∧ lo ≤ g ∧ g < w.heap.size ∧
      ∀ k, k < n → (F k).length = s ∧ ∀ j v, (F k)[j]? = some v → w.cell? ⟨g, off + k * s + j, none⟩ = some v ∧ Rd w lo (f k j) v)
def RdL (w : World) (lo : Nat) (ts : Nat → Tr) (vs : List Value) : Prop := ∀ j v, vs[j]? = some v → Rd w lo (ts j) v
/- How great a tree is, as the laws measure it. -/
def sumN : Nat → (Nat → Nat) → Nat
  | 0, _ => 0
  | n + 1, g => sumN n g + g n
def Tr.sz : Tr → Nat
  | .leaf _ => 0
  | .list s n f => n + sumN n (fun k => sumN s (fun j => (f k j).sz))
def szT (s : Nat) (ts : Nat → Tr) : Nat := sumN s (fun j => (ts j).sz)
theorem Tr.sz_list (s n : Nat) (f : Nat → Nat → Tr) : (Tr.list s n f).sz = n + sumN n (fun k => szT s (f k)) := rfl
def lfT (left t : Nat) : Int := if t ≤ left then (left : Int) - (t : Int) else -1
/- Rows of numbers and of bits, as trees. -/
def intsT (ws : List Int) : Tr := .list 1 ws.length (fun k _ => .leaf (.int .i64 (ws.getD k 0)))
def boolsT (bs : List Bool) : Tr := .list 1 bs.length (fun k _ => .leaf (.bool (bs.getD k false)))
def trs (l : List Tr) : Nat → Tr := fun j => l.getD j (.leaf undef)
end Go.Proofs.YtohikbpolofklaaGreatDoor
namespace Go.Proofs.YtohikbpolofklaaGreatDoor
open Go.RowKit Go.Joins
set_option linter.unusedVariables false
set_option linter.unusedSimpArgs false
theorem run_lenz {P : Program} {ρ : Operand → Value} {o : Oper} {u : World} {x : Operand} {t : TypeId} {a : Option Addr} {n c : Nat} {el : TypeId} (hu : P.underlying t = some (.slice el)) (ho : o.op = .call { callee := .builtin .len, args := #[x], argTypes := #[t] }) (hx : ρ x = .slice a n c) : (execOp ρ o).run P u = .ok (.value (.int .i64 (n : Int))) u := by
  unfold execOp
  rw [ho]
  simp [hx, Builtin.len_, run_underlying (P := P) hu, go_sem]
theorem run_bldz {P : Program} {ρ : Operand → Value} {o : Oper} {u u' : World} {t : TypeId} {ps : Array (Nat × Operand)} {qs : Array (Nat × Value)} {v : Value} (ho : o.op = .build t ps) (ha : ps.map (fun (i, x) => (i, ρ x)) = qs) (hr : (Instr.build t qs).run P u = .ok v u') : (execOp ρ o).run P u = .ok (.value v) u' := by
  unfold execOp
  simp only [ho, ha]
  rw [Sem.run_bind, hr]
  rfl
end Go.Proofs.YtohikbpolofklaaGreatDoor
