/- Texts that the proof needs, joined: BoxesL. -/
import Derived.Test.YtohikbpolofklaaGreatDoorV19
import Derived.Test.YtohikbpolofklaaGreatDoorV7
import Derived.Test.YtohikbpolofklaaGreatDoorV11
import Derived.Deep.RegionWith
namespace Go.Proofs.YtohikbpolofklaaGreatDoor
open Go.RowKit
set_option linter.unusedVariables false
set_option linter.unusedSimpArgs false
theorem gpz_code2 (zs : List Int) (hl : zs.length ≤ 1048576) (hr : ∀ z ∈ zs, 0 ≤ z ∧ z ≤ 255) : ∃ kd pl nn wa ws bs code, (∀ w w' e, GPz zs w w' e → GP w w' e kd pl nn wa ws bs code) ∧ CoB kd pl nn wa ws bs code ∧ ws.length ≤ 2000000 ∧ bs.length ≤ 2000000 ∧ (code = 0 → putV (okR kd pl nn wa ws ws.length bs.length) kd pl nn wa ws bs = zs) := by
  by_cases h1 : zs.length = 0 ∨ kindB (zs.getD 0 0) = false
  · refine ⟨0, 0, 0, 0, [], [], 1, fun w w' e h => ?_, .inr ⟨.inl rfl, rfl, rfl, rfl, rfl, rfl, rfl⟩, by simp, by simp, fun h => by cases h⟩
    unfold GPz at h; rw [if_pos h1] at h; exact h
  · by_cases h2 : gOk (zs.getD 0 0) zs = true
    · refine ⟨zs.getD 0 0, wAt zs 1, gN (zs.getD 0 0) zs, gA (zs.getD 0 0) zs, gW (zs.getD 0 0) zs, gB (zs.getD 0 0) zs, 0, fun w w' e h => ?_, .inl rfl, gW_le _ zs hl, gB_le _ zs hr, fun _ => ?_⟩
      · unfold GPz at h; rw [if_neg h1, if_pos h2] at h; exact h
      · unfold gOk at h2
        simp only [Bool.and_eq_true] at h2
        rw [h2.1]
        exact of_decide_eq_true h2.2
    · refine ⟨0, 0, 0, 0, [], [], 3, fun w w' e h => ?_, .inr ⟨.inr rfl, rfl, rfl, rfl, rfl, rfl, rfl⟩, by simp, by simp, fun h => by cases h⟩
      unfold GPz at h; rw [if_neg h1, if_neg h2] at h; exact h
theorem or128 (f : Int) (h0 : 0 ≤ f) (h1 : f ≤ 255) : bits .or .u8 f 128 > 127 := by
  have h : ∀ k : Fin 256, bits .or .u8 ((k.val : Nat) : Int) 128 > 127 := by decide +kernel
  have := h ⟨f.toNat, by omega⟩
  simpa [Int.toNat_of_nonneg h0] using this
theorem putAV_len9 (kd fl pl nn : Int) (ws : List Int) (bs : List Bool) (l1 l2 : Nat) (h1 : l1 = ws.length) (h2 : l2 = bs.length) : (putAV (okA kd fl pl nn ws l1 l2) kd fl pl nn ws bs).length ≤ 300 := by
  cases hb : okA kd fl pl nn ws l1 l2
  · simp [putAV]
  · have hk : kindB kd = true := by unfold okA at hb; simp only [Bool.and_eq_true] at hb; exact hb.1
    by_cases h0 : fl = 0
    · subst h0
      obtain rfl | rfl | rfl | rfl | rfl | rfl | rfl | rfl | rfl | rfl := of_decide_eq_true hk
      all_goals (simp [okA, okAK, kindB, inB, zr4] at hb; simp [putAV, putA, wbs, wbs_length, packL_length]; try omega)
    · simp [putAV, putA, h0]
theorem own_capb {w : World} {base n cap : Nat} {a : Option Addr} {zs : List Int} (h : Own w base (.slice a n cap) zs) : n ≤ cap := by
  obtain ⟨h1, h2⟩ := h
  rcases h2 with ⟨h2, h3⟩ | ⟨g, c, cur, hv, hb, hk, hn, hm, hs, ht⟩
  · simp only [Value.slice.injEq] at h2
    omega
  · simp only [Value.slice.injEq] at hv
    omega
set_option maxRecDepth 20000 in
set_option maxHeartbeats 2000000 in
theorem boxes_law (a0 a1 : Addr) (a : Option Addr) (n cap : Nat) (zs : List Int) (w : World) (hE : EnB a0 a1 w) (hn : n = zs.length) (hs : Sl w a zs) (hr : ∀ z ∈ zs, 0 ≤ z ∧ z ≤ 255) (hl : n ≤ 1048576) :
    Calls Tryz.prog 3 #[.slice a n cap] w fun e w' => e = .returned (.bool true) ∧ Below w.heap.size w w' := by
  have HN : Hid (n = zs.length ∧ zs.length ≤ 1048576 ∧ Sl w a zs ∧ (∀ z ∈ zs, 0 ≤ z ∧ z ≤ 255) ∧ EnB a0 a1 w) := ⟨hn, by omega, hs, hr, hE⟩
  have f0 : ¬ ((1048576 : Int) < (n : Int)) := by omega
  have f0' : ¬ ((n : Int) > 1048576) := by omega
  clear hn hs hr hE
  go_enter Tryz.func3, Tryz.ntmps3
  go_wp2_with (first | (go_at_call 4; go_in) | fail)
  refine (drawBoxAsk_any w a n cap zs HN.out.1 HN.out.2.2.1 HN.out.2.2.2.1 HN.out.2.1).mono ?_
  rintro e z1 ⟨nm, un, ap, lp, cp, ps, rfl, e1, e2, e3, o1, b1⟩
  obtain ⟨kd, pl, nn, wa, ws, bs, code, hform, hco, hlw, hlb, hput⟩ := gpz_code2 ps (by omega) e3
  have HF : Hid ((∀ w w' e, GPz ps w w' e → GP w w' e kd pl nn wa ws bs code) ∧ CoB kd pl nn wa ws bs code ∧ ws.length ≤ 2000000 ∧ bs.length ≤ 2000000 ∧ (code = 0 → putV (okR kd pl nn wa ws ws.length bs.length) kd pl nn wa ws bs = ps)) := ⟨hform, hco, hlw, hlb, hput⟩
  have HP : Hid (lp = ps.length ∧ ps.length ≤ 300 ∧ (∀ z ∈ ps, 0 ≤ z ∧ z ≤ 255) ∧ lp ≤ cp) := ⟨e1, e2, e3, own_capb o1⟩
  clear e1 e2 e3 hform hco hlw hlb hput
  obtain ⟨z2, hz2⟩ : ∃ z2, z2 = z1.alloc (.cells (bxc nm un ap lp cp) 25) := ⟨_, rfl⟩
  obtain ⟨B, hB⟩ : ∃ B, B = z1.heap.size := ⟨_, rfl⟩
  have bz : Below z1.heap.size z1 z2 := by rw [hz2]; exact bel_alloc _ _
  have X2 : Blk z2 B 25 (bxc nm un ap lp cp) := by rw [hz2, hB]; exact Blk.new _ _ _
  have b2 := bel_next b1 bz
  have P2 := o1.below bz
  clear bz b1 o1
  go_upto_region 4 with fail
  rw [← hz2, ← hB]
  clear hz2 hB
  obtain ⟨x0, x1, x2⟩ := X2.tri
  go_wp2_with fail
  refine (implBoxAsk_q nm un ap lp cp ps a0 a1 kd pl nn wa ws bs code _ HP.out.1 P2.sl.2 HP.out.2.2.1 (by have := HP.out; omega) HP.out.2.2.2 (HN.out.2.2.2.2.below b2) HF.out.1 HF.out.2.1).mono ?_
  rintro e z3 ⟨p1, p2, m1, m2, k1, k2, af, nf, cf, rfl, h1, h2, h3, i', j', o', b'⟩
  have HA : Hid (m1 = ws.length ∧ m2 = bs.length ∧ nf = (faL ps code).length) := ⟨h1, h2, h3⟩
  have b3 := bel_next b2 b'
  have X3 := X2.below b'
  have P3 := P2.below b'
  clear h1 h2 h3 b2 X2 P2 b' x0 x1 x2
  obtain ⟨z4, hz4⟩ : ∃ z4, z4 = z3.alloc (.cells #[.int .i64 kd, .int .i64 pl, .int .i64 nn, .slice p1 m1 k1, .slice p2 m2 k2, .int .i64 wa] 30) := ⟨_, rfl⟩
  obtain ⟨V, hV⟩ : ∃ V, V = z3.heap.size := ⟨_, rfl⟩
  have bz : Below z3.heap.size z3 z4 := by rw [hz4]; exact bel_alloc _ _
  have V4 : Blk z4 V 30 #[.int .i64 kd, .int .i64 pl, .int .i64 nn, .slice p1 m1 k1, .slice p2 m2 k2, .int .i64 wa] := by rw [hz4, hV]; exact Blk.new _ _ _
  have b4 := bel_next b3 bz
  have X4 := X3.below bz
  have P4 := P3.below bz
  have I4 := i'.below bz
  have J4 := j'.below bz
  have F4 := o'.below bz
  clear bz b3 X3 P3 i' j' o'
  go_upto_region 5 with fail
  rw [← hz4, ← hV]
  clear hz4 hV
  obtain ⟨x0, x1, x2⟩ := X4.tri
  go_wp2_with fail
  refine (specGet_q ap lp cp ps _ HP.out.1 P4.sl.2 HP.out.2.2.1 (by have := HP.out; omega) HP.out.2.2.2).mono ?_
  rintro e z5 h'
  obtain ⟨t1, t2, n1, n2, r1, r2, rfl, e8, e9, -, -, b'⟩ := HF.out.1 _ _ _ h'
  clear e8 e9
  obtain ⟨z6, hz6⟩ : ∃ z6, z6 = z5.alloc (.cells #[.int .i64 kd, .int .i64 pl, .int .i64 nn, .slice t1 n1 r1, .slice t2 n2 r2, .int .i64 wa] 30) := ⟨_, rfl⟩
  have b6' : Below z4.heap.size z4 z6 := by rw [hz6]; exact bel_next b' (bel_alloc _ _)
  have b6 := bel_next b4 b6'
  have X6 := X4.below b6'
  have V6 := V4.below b6'
  have P6 := P4.below b6'
  have I6 := I4.below b6'
  have J6 := J4.below b6'
  have F6 := F4.below b6'
  clear h' b' b6' b4 X4 V4 P4 I4 J4 F4 x0 x1 x2
  go_upto_region 6 with fail
  rw [← hz6]
  clear hz6
  go_wp2_with fail
  refine (drawBoxTell_any _ a n cap zs HN.out.1 (HN.out.2.2.1.below b6) HN.out.2.2.2.1 HN.out.2.1).mono ?_
  rintro e z7 ⟨xx, ka, fa, pa, na, s1, s2, g1, g2, v1, v2, wr, br, nm', un', ap', lp', cp', rfl, rfl, h1, h2, h3, h4, i', j', b'⟩
  have HR : Hid (g1 = wr.length ∧ g2 = br.length ∧ wr.length ≤ 2000000 ∧ br.length ≤ 2000000) := by show _ ∧ _; omega
  obtain ⟨z8, hz8⟩ : ∃ z8, z8 = (z7.alloc (.cells (bxc nm' un' ap' lp' cp') 25)).alloc (.cells #[.int .i64 ka, .int .i64 fa, .int .i64 pa, .int .i64 na, .slice s1 g1 v1, .slice s2 g2 v2] 36) := ⟨_, rfl⟩
  obtain ⟨Y, hY⟩ : ∃ Y, Y = z7.heap.size + 1 := ⟨_, rfl⟩
  have bz : Below z7.heap.size z7 z8 := by rw [hz8]; exact bel_next (bel_alloc z7 _) (bel_alloc _ _)
  have Y8 : Blk z8 Y 36 #[.int .i64 ka, .int .i64 fa, .int .i64 pa, .int .i64 na, .slice s1 g1 v1, .slice s2 g2 v2] := by
    rw [hz8, hY]; have := Blk.new (z7.alloc (.cells (bxc nm' un' ap' lp' cp') 25)) #[.int .i64 ka, .int .i64 fa, .int .i64 pa, .int .i64 na, .slice s1 g1 v1, .slice s2 g2 v2] 36; simpa using this
  have b8' := bel_next b' bz
  have b8 := bel_next b6 b8'
  have X8 := X6.below b8'
  have V8 := V6.below b8'
  have P8 := P6.below b8'
  have I8 := I6.below b8'
  have J8 := J6.below b8'
  have F8 := F6.below b8'
  have K8 := i'.below bz
  have L8 := j'.below bz
  clear h1 h2 h3 h4 i' j' b' bz b8' b6 X6 V6 P6 I6 J6 F6
  go_upto_region 7 with fail
  rw [← hz8, ← hY]
  clear hz8 hY
  obtain ⟨x0, x1, x2⟩ := X8.tri
  obtain ⟨y0, y1, y2, y3, y4, y5⟩ := Y8.six
  obtain ⟨R, hR⟩ : ∃ R, R = putAV (okA ka fa pa na wr g1 g2) ka fa pa na wr br := ⟨_, rfl⟩
  have HT : Hid (putAV (okA ka fa pa na wr g1 g2) ka fa pa na wr br = R ∧ R.length ≤ 2000000) := ⟨hR.symm, by have := putAV_len9 ka fa pa na wr br g1 g2 HR.out.1 HR.out.2.1; rw [hR]; omega⟩
  clear hR
  go_wp2_with fail
  refine (implBoxTell_q nm un ap lp cp ka fa pa na s1 s2 g1 g2 v1 v2 wr br _ HR.out.1 HR.out.2.1 K8.sl.2 L8.sl.2 HR.out.2.2.1 HR.out.2.2.2 R HT.out.1).mono ?_
  rintro e z9 ⟨ao, co, no, rfl, hno, o', b'⟩
  have HO : Hid (no = R.length) := hno
  obtain ⟨z10, hz10⟩ : ∃ u, u = z9.alloc (.cells (bxc nm un ao no co) 25) := ⟨_, rfl⟩
  obtain ⟨T, hT⟩ : ∃ T, T = z9.heap.size := ⟨_, rfl⟩
  have bz : Below z9.heap.size z9 z10 := by rw [hz10]; exact bel_alloc _ _
  have T10 : Blk z10 T 25 (bxc nm un ao no co) := by rw [hz10, hT]; exact Blk.new _ _ _
  have b10' := bel_next b' bz
  have b10 := bel_next b8 b10'
  have X10 := X8.below b10'
  have V10 := V8.below b10'
  have Y10 := Y8.below b10'
  have P10 := P8.below b10'
  have I10 := I8.below b10'
  have J10 := J8.below b10'
  have F10 := F8.below b10'
  have K10 := K8.below b10'
  have L10 := L8.below b10'
  have O10 := o'.below bz
  clear hno o' b' bz b10' b8 X8 V8 Y8 P8 I8 J8 F8 K8 L8 x0 x1 x2 y0 y1 y2 y3 y4 y5
  go_upto_region 8 with fail
  rw [← hz10, ← hT]
  clear hz10 hT
  obtain ⟨x0, x1, x2⟩ := X10.tri
  obtain ⟨q0, q1, q2⟩ := T10.tri
  obtain ⟨y0, y1, y2, y3, y4, y5⟩ := Y10.six
  try go_simp
  refine wp_region_any (by kernel_rfl) ?_
  refine wpAny_vals (fun u => Below z10.heap.size z10 u) (fun i v u => match i with
    | 0 => v = .pointer (some ⟨T, 0, none⟩)
    | 1 => v = .int .i64 nm
    | 2 => v = .pointer (some ⟨B, 0, none⟩)
    | 3 => v = .int .i64 nm
    | 4 => v = .bool false
    | 5 => v = .bool false
    | 6 => v = .pointer (some ⟨T, 1, none⟩)
    | 7 => v = .int .i64 un
    | 8 => v = .pointer (some ⟨B, 1, none⟩)
    | 9 => v = .int .i64 un
    | 10 => v = .bool false
    | 11 => v = .bool false
    | 12 => v = .bool false
    | 13 => v = .pointer (some ⟨T, 2, none⟩)
    | 14 => v = .slice ao no co
    | 15 => v = rp ka fa pa na s1 s2 g1 g2 v1 v2
    | 16 => ∃ a9 c9 n9, v = .slice a9 n9 c9 ∧ n9 = R.length ∧ Sl u a9 R
    | 17 => v = .bool true
    | 18 => v = .bool false
    | 19 => v = .bool false
    | _ => True) (by kernel_rfl) (by kernel_rfl) ?_ (by first | exact Below.refl _ _ | exact (Below.refl _ _).drew) ?_ ?_ _ _ rfl (by decide) (fun i => by simp [Array.getD]; try (split <;> rfl))
  · intro i v u u' h hb
    match i, h with
    | 0, h => exact h
    | 1, h => exact h
    | 2, h => exact h
    | 3, h => exact h
    | 4, h => exact h
    | 5, h => exact h
    | 6, h => exact h
    | 7, h => exact h
    | 8, h => exact h
    | 9, h => exact h
    | 10, h => exact h
    | 11, h => exact h
    | 12, h => exact h
    | 13, h => exact h
    | 14, h => exact h
    | 15, h => exact h
    | 16, ⟨a9, c9, n9, e, h9, r⟩ => exact ⟨a9, c9, n9, e, h9, r.below hb⟩
    | 17, h => exact h
    | 18, h => exact h
    | 19, h => exact h
    | _ + 20, _ => trivial
  rotate_left
  · intro u i o ρ hR ho hρ hc hf hd
    have hi : i < 20 := by
      have := (Array.getElem?_eq_some_iff.1 ho).1
      simpa using this
    obtain rfl | rfl | rfl | rfl | rfl | rfl | rfl | rfl | rfl | rfl | rfl | rfl | rfl | rfl | rfl | rfl | rfl | rfl | rfl | rfl : i = 0 ∨ i = 1 ∨ i = 2 ∨ i = 3 ∨ i = 4 ∨ i = 5 ∨ i = 6 ∨ i = 7 ∨ i = 8 ∨ i = 9 ∨ i = 10 ∨ i = 11 ∨ i = 12 ∨ i = 13 ∨ i = 14 ∨ i = 15 ∨ i = 16 ∨ i = 17 ∨ i = 18 ∨ i = 19 := by omega
    all_goals (simp only [List.getElem?_toArray, List.getElem?_cons_zero, List.getElem?_cons_succ, Option.some.injEq] at ho; subst ho)
    · exact yr (run_field_op rfl (((hρ 11 (by kernel_rfl)).trans rfl) : ρ (.tmp 11) = .pointer (some ⟨T, 0, none⟩)) (by go_simp)) rfl hR
    · have h1 : ρ (.tmp 36) = .pointer (some ⟨T, 0, none⟩) := dq hd 0 36
      have c9 := (T10.below hR).cell 0 rfl
      exact yr (run_load_op rfl h1 (by go_simp)) rfl hR
    · exact yr (run_field_op rfl (((hρ 3 (by kernel_rfl)).trans rfl) : ρ (.tmp 3) = .pointer (some ⟨B, 0, none⟩)) (by go_simp)) rfl hR
    · have h1 : ρ (.tmp 38) = .pointer (some ⟨B, 0, none⟩) := dq hd 2 38
      have c9 := (X10.below hR).cell 0 rfl
      exact yr (run_load_op rfl h1 (by go_simp)) rfl hR
    · have h1 : ρ (.tmp 37) = .int .i64 nm := dq hd 1 37
      have h2 : ρ (.tmp 39) = .int .i64 nm := dq hd 3 39
      exact yr (run_bin_op rfl h1 h2 (by go_simp)) rfl hR
    · have h1 : ρ (.tmp 40) = .bool false := dq hd 4 40
      exact yr (show _ from (by unfold execOp; simp [h1] : (execOp ρ _).run _ u = .ok (.value (.bool false)) u)) rfl hR
    · exact yq hd 5 41 (run_field_op rfl (((hρ 11 (by kernel_rfl)).trans rfl) : ρ (.tmp 11) = .pointer (some ⟨T, 0, none⟩)) (by go_simp)) rfl hR
    · have h1 : ρ (.tmp 42) = .pointer (some ⟨T, 1, none⟩) := dq hd 6 42
      have c9 := (T10.below hR).cell 1 rfl
      exact yq hd 5 41 (run_load_op rfl h1 (by go_simp)) rfl hR
    · exact yq hd 5 41 (run_field_op rfl (((hρ 3 (by kernel_rfl)).trans rfl) : ρ (.tmp 3) = .pointer (some ⟨B, 0, none⟩)) (by go_simp)) rfl hR
    · have h1 : ρ (.tmp 44) = .pointer (some ⟨B, 1, none⟩) := dq hd 8 44
      have c9 := (X10.below hR).cell 1 rfl
      exact yq hd 5 41 (run_load_op rfl h1 (by go_simp)) rfl hR
    · have h1 : ρ (.tmp 43) = .int .i64 un := dq hd 7 43
      have h2 : ρ (.tmp 45) = .int .i64 un := dq hd 9 45
      exact yq hd 5 41 (run_bin_op rfl h1 h2 (by go_simp)) rfl hR
    · have h1 : ρ (.tmp 41) = .bool false := dq hd 5 41
      have h2 : ρ (.tmp 46) = .bool false := dq hd 10 46
      exact yr (run_pick_op rfl h1) (by simpa using h2) hR
    · have h1 : ρ (.tmp 47) = .bool false := dq hd 11 47
      exact yr (show _ from (by unfold execOp; simp [h1] : (execOp ρ _).run _ u = .ok (.value (.bool false)) u)) rfl hR
    · exact yq hd 12 48 (run_field_op rfl (((hρ 11 (by kernel_rfl)).trans rfl) : ρ (.tmp 11) = .pointer (some ⟨T, 0, none⟩)) (by go_simp)) rfl hR
    · have h1 : ρ (.tmp 49) = .pointer (some ⟨T, 2, none⟩) := dq hd 13 49
      have c9 := (T10.below hR).cell 2 rfl
      exact yq hd 12 48 (run_load_op rfl h1 (by go_simp)) rfl hR
    · have s0 : ρ (.tmp 10) = .pointer (some ⟨Y, 0, none⟩) := ((hρ 10 (by kernel_rfl)).trans rfl)
      exact yq hd 12 48 (run_load_op rfl s0 (run_loadAt_mid u Y 0 36 [.int .i64 ka, .int .i64 fa, .int .i64 pa, .int .i64 na, .slice s1 g1 v1, .slice s2 g2 v2] _ (Blk.all (vs := [.int .i64 ka, .int .i64 fa, .int .i64 pa, .int .i64 na, .slice s1 g1 v1, .slice s2 g2 v2]) (Y10.below hR)) Tryz.underlying36 rfl (by kernel_rfl))) rfl hR
    · have h1 : ρ (.tmp 51) = rp ka fa pa na s1 s2 g1 g2 v1 v2 := dq hd 15 51
      refine .inl ⟨want_of ⟨false, rfl, (gq hd 12 48 : ρ (.tmp 48) = .bool false)⟩ rfl, .inr ⟨_, _, run_call_op rfl (hf _) (args := #[rp ka fa pa na s1 s2 g1 g2 v1 v2]) (by simp [h1]) (by kernel_rfl), ?_⟩⟩
      refine (specPutA_q ka fa pa na s1 s2 g1 g2 v1 v2 wr br _ HR.out.1 HR.out.2.1 (K10.sl.2.below hR) (L10.sl.2.below hR) HR.out.2.2.1 HR.out.2.2.2).mono ?_
      rintro e u' ⟨a9, c9, n9, he, h9, o9, ba'⟩
      rw [HT.out.1] at h9 o9
      exact ⟨_, he, ⟨a9, c9, n9, rfl, h9, o9.sl.2⟩, bel_next hR ba', ba'⟩
    · have h1 : ρ (.tmp 50) = .slice ao no co := dq hd 14 50
      obtain ⟨a9, c9, n9, h2, h9, r9⟩ : ∃ a9 c9 n9, ρ (.tmp 52) = .slice a9 n9 c9 ∧ n9 = R.length ∧ Sl u a9 R := dq hd 16 52
      refine .inl ⟨want_of ⟨false, rfl, (gq hd 12 48 : ρ (.tmp 48) = .bool false)⟩ rfl, .inr ⟨_, _, run_call_op rfl (hf _) (args := #[.slice ao no co, .slice a9 n9 c9]) (by simp [h1, h2]) (by kernel_rfl), ?_⟩⟩
      refine (sameBytes_true _ _ _ _ _ _ R _ HO.out h9 (O10.sl.2.below hR) r9 HT.out.2).mono ?_
      rintro e u' ⟨he, n8, hb8⟩
      have ba' : Below u.heap.size u u' := by rw [hb8]; exact bel_drewN (Below.refl _ _) n8
      exact ⟨_, he, rfl, bel_next hR ba', ba'⟩
    · have h1 : ρ (.tmp 53) = .bool true := dq hd 17 53
      exact yq hd 12 48 (run_un_op rfl h1 (by go_simp)) rfl hR
    · have h1 : ρ (.tmp 48) = .bool false := dq hd 12 48
      have h2 : ρ (.tmp 54) = .bool false := dq hd 18 54
      exact yr (run_pick_op rfl h1) (by simpa using h2) hR
  intro vs z11 hR hall
  have e9 : vs 19 = .bool false := hall 19 (by simp)
  have b' := hR
  clear hall hR
  simp only [putsL]
  rw [e9]
  clear e9
  try go_simp
  have b11 := bel_next b10 b'
  have X11 := X10.below b'
  have V11 := V10.below b'
  have P11 := P10.below b'
  have I11 := I10.below b'
  have J11 := J10.below b'
  have F11 := F10.below b'
  clear b' b10 X10 V10 P10 I10 J10 F10 Y10 T10 K10 L10 O10 x0 x1 x2 q0 q1 q2 y0 y1 y2 y3 y4 y5
  obtain ⟨x0, x1, x2⟩ := X11.tri
  obtain ⟨v0, v1, v2, v3, v4, v5⟩ := V11.six
  obtain rfl | ⟨hc, rfl, rfl, rfl, rfl, rfl, rfl⟩ := HF.out.2.1
  · have hnf : nf = 0 := HA.out.2.2
    subst hnf
    have HQ : Hid (putV (okR kd pl nn wa ws m1 m2) kd pl nn wa ws bs = ps) := by show _ = _; rw [HA.out.1, HA.out.2.1]; exact HF.out.2.2.2.2 rfl
    go_upto_region 11 with fail
    try go_simp
    refine wp_region_any (by kernel_rfl) ?_
    refine wpAny_vals (fun u => Below z11.heap.size z11 u) (fun i v u => match i with
      | 0 => v = .slice af 0 cf
      | 1 => v = .int .i64 0
      | 2 => v = .bool true
      | 3 => v = .bool true
      | 4 => v = .int .i64 (unB un 0)
      | 5 => v = .pointer (some ⟨B, 1, none⟩)
      | 6 => v = .int .i64 un
      | 7 => v = .bool true
      | 8 => v = .bool true
      | 9 => v = .bool true
      | 10 => v = rq kd pl nn wa p1 p2 m1 m2 k1 k2
      | 11 => ∃ a9 c9 n9, v = .slice a9 n9 c9 ∧ n9 = ps.length ∧ Sl u a9 ps
      | 12 => v = .pointer (some ⟨B, 2, none⟩)
      | 13 => v = .slice ap lp cp
      | 14 => v = .bool true
      | 15 => v = .bool true
      | 16 => v = .bool true
      | _ => True) (by kernel_rfl) (by kernel_rfl) ?_ (by first | exact Below.refl _ _ | exact (Below.refl _ _).drew) ?_ ?_ _ _ rfl (by decide) (fun i => by simp [Array.getD]; try (split <;> rfl))
    · intro i v u u' h hb
      match i, h with
      | 0, h => exact h
      | 1, h => exact h
      | 2, h => exact h
      | 3, h => exact h
      | 4, h => exact h
      | 5, h => exact h
      | 6, h => exact h
      | 7, h => exact h
      | 8, h => exact h
      | 9, h => exact h
      | 10, h => exact h
      | 11, ⟨a9, c9, n9, e, h9, r⟩ => exact ⟨a9, c9, n9, e, h9, r.below hb⟩
      | 12, h => exact h
      | 13, h => exact h
      | 14, h => exact h
      | 15, h => exact h
      | 16, h => exact h
      | _ + 17, _ => trivial
    rotate_left
    · intro u i o ρ hR ho hρ hc hf hd
      have hi : i < 17 := by
        have := (Array.getElem?_eq_some_iff.1 ho).1
        simpa using this
      obtain rfl | rfl | rfl | rfl | rfl | rfl | rfl | rfl | rfl | rfl | rfl | rfl | rfl | rfl | rfl | rfl | rfl : i = 0 ∨ i = 1 ∨ i = 2 ∨ i = 3 ∨ i = 4 ∨ i = 5 ∨ i = 6 ∨ i = 7 ∨ i = 8 ∨ i = 9 ∨ i = 10 ∨ i = 11 ∨ i = 12 ∨ i = 13 ∨ i = 14 ∨ i = 15 ∨ i = 16 := by omega
      all_goals (simp only [List.getElem?_toArray, List.getElem?_cons_zero, List.getElem?_cons_succ, Option.some.injEq] at ho; subst ho)
      · have s0 : ρ (.tmp 6) = .slice af 0 cf := ((hρ 6 (by kernel_rfl)).trans rfl)
        exact yr (show _ from (by unfold execOp; simp [s0] : (execOp ρ _).run _ u = .ok (.value (.slice af 0 cf)) u)) rfl hR
      · have h1 : ρ (.tmp 58) = .slice af 0 cf := dq hd 0 58
        exact yr (run_lenz Tryz.underlying22 rfl h1) rfl hR
      · have h1 : ρ (.tmp 59) = .int .i64 0 := dq hd 1 59
        exact yr (run_bin_op rfl h1 (hc _) (by go_simp)) rfl hR
      · have h1 : ρ (.tmp 60) = .bool true := dq hd 2 60
        exact yr (show _ from (by unfold execOp; simp [h1] : (execOp ρ _).run _ u = .ok (.value (.bool true)) u)) rfl hR
      · have s0 : ρ (.tmp 4) = .int .i64 (unB un 0) := ((hρ 4 (by kernel_rfl)).trans rfl)
        exact yq hd 3 61 (show _ from (by unfold execOp; simp [s0] : (execOp ρ _).run _ u = .ok (.value (.int .i64 (unB un 0))) u)) rfl hR
      · exact yq hd 3 61 (run_field_op rfl (((hρ 3 (by kernel_rfl)).trans rfl) : ρ (.tmp 3) = .pointer (some ⟨B, 0, none⟩)) (by go_simp)) rfl hR
      · have h1 : ρ (.tmp 63) = .pointer (some ⟨B, 1, none⟩) := dq hd 5 63
        have c9 := (X11.below hR).cell 1 rfl
        exact yq hd 3 61 (run_load_op rfl h1 (by go_simp)) rfl hR
      · have h1 : ρ (.tmp 62) = .int .i64 un := dq hd 4 62
        have h2 : ρ (.tmp 64) = .int .i64 un := dq hd 6 64
        exact yq hd 3 61 (run_bin_op rfl h1 h2 (by go_simp)) rfl hR
      · have h1 : ρ (.tmp 61) = .bool true := dq hd 3 61
        have h2 : ρ (.tmp 65) = .bool true := dq hd 7 65
        exact yr (run_pick_op rfl h1) (by simpa using h2) hR
      · have h1 : ρ (.tmp 66) = .bool true := dq hd 8 66
        exact yr (show _ from (by unfold execOp; simp [h1] : (execOp ρ _).run _ u = .ok (.value (.bool true)) u)) rfl hR
      · have s0 : ρ (.tmp 5) = .pointer (some ⟨V, 0, none⟩) := ((hρ 5 (by kernel_rfl)).trans rfl)
        exact yq hd 9 67 (run_load_op rfl s0 (run_loadAt_mid u V 0 30 [.int .i64 kd, .int .i64 pl, .int .i64 nn, .slice p1 m1 k1, .slice p2 m2 k2, .int .i64 wa] _ (Blk.all (vs := [.int .i64 kd, .int .i64 pl, .int .i64 nn, .slice p1 m1 k1, .slice p2 m2 k2, .int .i64 wa]) (V11.below hR)) Tryz.underlying30 rfl (by kernel_rfl))) rfl hR
      · have h1 : ρ (.tmp 68) = rq kd pl nn wa p1 p2 m1 m2 k1 k2 := dq hd 10 68
        refine .inl ⟨want_of ⟨true, rfl, (gq hd 9 67 : ρ (.tmp 67) = .bool true)⟩ rfl, .inr ⟨_, _, run_call_op rfl (hf _) (args := #[rq kd pl nn wa p1 p2 m1 m2 k1 k2]) (by simp [h1]) (by kernel_rfl), ?_⟩⟩
        refine (implPut_q kd pl nn wa p1 p2 m1 m2 k1 k2 ws bs _ HA.out.1 HA.out.2.1 (I11.sl.2.below hR) (J11.sl.2.below hR) HF.out.2.2.1 HF.out.2.2.2.1).mono ?_
        rintro e u' ⟨a9, c9, n9, he, h9, o9, ba'⟩
        rw [HQ.out] at h9 o9
        exact ⟨_, he, ⟨a9, c9, n9, rfl, h9, o9.sl.2⟩, bel_next hR ba', ba'⟩
      · exact yq hd 9 67 (run_field_op rfl (((hρ 3 (by kernel_rfl)).trans rfl) : ρ (.tmp 3) = .pointer (some ⟨B, 0, none⟩)) (by go_simp)) rfl hR
      · have h1 : ρ (.tmp 70) = .pointer (some ⟨B, 2, none⟩) := dq hd 12 70
        have c9 := (X11.below hR).cell 2 rfl
        exact yq hd 9 67 (run_load_op rfl h1 (by go_simp)) rfl hR
      · obtain ⟨a9, c9, n9, h1, h9, r9⟩ : ∃ a9 c9 n9, ρ (.tmp 69) = .slice a9 n9 c9 ∧ n9 = ps.length ∧ Sl u a9 ps := dq hd 11 69
        have h2 : ρ (.tmp 71) = .slice ap lp cp := dq hd 13 71
        refine .inl ⟨want_of ⟨true, rfl, (gq hd 9 67 : ρ (.tmp 67) = .bool true)⟩ rfl, .inr ⟨_, _, run_call_op rfl (hf _) (args := #[.slice a9 n9 c9, .slice ap lp cp]) (by simp [h1, h2]) (by kernel_rfl), ?_⟩⟩
        refine (sameBytes_true _ _ _ _ _ _ ps _ h9 HP.out.1 r9 (P11.sl.2.below hR) (by have := HP.out; omega)).mono ?_
        rintro e u' ⟨he, n8, hb8⟩
        have ba' : Below u.heap.size u u' := by rw [hb8]; exact bel_drewN (Below.refl _ _) n8
        exact ⟨_, he, rfl, bel_next hR ba', ba'⟩
      · have h1 : ρ (.tmp 67) = .bool true := dq hd 9 67
        have h2 : ρ (.tmp 72) = .bool true := dq hd 14 72
        exact yr (run_pick_op rfl h1) (by simpa using h2) hR
      · have h1 : ρ (.tmp 73) = .bool true := dq hd 15 73
        exact yr (show _ from (by unfold execOp; simp [h1] : (execOp ρ _).run _ u = .ok (.value (.bool true)) u)) rfl hR
    intro vs z12 hR hall
    have e9 : vs 16 = .bool true := hall 16 (by simp)
    have b' := hR
    clear hall hR
    simp only [putsL]
    rw [e9]
    clear e9
    try go_simp
    have b12 := bel_next b11 b'
    go_wp2
    go_ret
    exact ⟨rfl, b12⟩
  · have rg := get_range HP.out.2.2.1 0
    have o8 := or128 _ rg.1 rg.2
    obtain ⟨f, hf⟩ : ∃ f, f = bits .or .u8 (ps.getD 0 0) 128 := ⟨_, rfl⟩
    obtain rfl | rfl := hc
    · have e9 : faL ps 1 = [f, 1] := by rw [hf]; rfl
      rw [e9] at F11
      have hnf : nf = 2 := by rw [HA.out.2.2, e9]; rfl
      subst hnf
      obtain ⟨gb, off, rfl, _, c0⟩ := cell_at F11.sl.2 (show 0 < ([f, 1] : List Int).length by simp)
      obtain ⟨gb', off', e8, _, c1⟩ := cell_at F11.sl.2 (show 1 < ([f, 1] : List Int).length by simp)
      simp only [Option.some.injEq, Addr.mk.injEq] at e8
      obtain ⟨rfl, rfl, _⟩ := e8
      have c0' : z11.cell? ⟨gb, off, none⟩ = some (.int .u8 f) := c0
      have c1' : z11.cell? ⟨gb, off + 1, none⟩ = some (.int .u8 1) := c1
      rw [← hf] at o8
      clear c0 c1 e9 hf rg
      go_wp2
      go_ret
      exact ⟨rfl, b11⟩
    · have e9 : faL ps 3 = [f, 3] := by rw [hf]; rfl
      rw [e9] at F11
      have hnf : nf = 2 := by rw [HA.out.2.2, e9]; rfl
      subst hnf
      obtain ⟨gb, off, rfl, _, c0⟩ := cell_at F11.sl.2 (show 0 < ([f, 3] : List Int).length by simp)
      obtain ⟨gb', off', e8, _, c1⟩ := cell_at F11.sl.2 (show 1 < ([f, 3] : List Int).length by simp)
      simp only [Option.some.injEq, Addr.mk.injEq] at e8
      obtain ⟨rfl, rfl, _⟩ := e8
      have c0' : z11.cell? ⟨gb, off, none⟩ = some (.int .u8 f) := c0
      have c1' : z11.cell? ⟨gb, off + 1, none⟩ = some (.int .u8 3) := c1
      rw [← hf] at o8
      clear c0 c1 e9 hf rg
      go_wp2
      go_ret
      exact ⟨rfl, b11⟩
end Go.Proofs.YtohikbpolofklaaGreatDoor
