/- Deeds that tell. -/
import Derived.Test.YtcnbbknmofonkaaDev9
import Derived.Test.YtcnbbknmofonkaaPack1
namespace Go.Proofs.Ytcnbbknmofonkaa
open Go.RowKit

set_option linter.unusedVariables false

set_option linter.unusedSimpArgs false

/-- What telling ends with. -/
def TP (w w' : World) (e : Ending) (kd fl pl nn : Int) (ws : List Int) (bs : List Bool) : Prop :=
  ∃ r1 r2 m1 m2 k1 k2, e = .returned (rp kd fl pl nn r1 r2 m1 m2 k1 k2) ∧ OwnI w' w.heap.size (.slice r1 m1 k1) ws ∧ OwnB w' w.heap.size (.slice r2 m2 k2) bs ∧ Below w.heap.size w w'

theorem Blk.belowB {w w' : World} {B g : Nat} {t : TypeId} {cs : Array Value} (h : Blk w g t cs) (hb : Below B w w') (hg : g < B) : Blk w' g t cs := by
  unfold Blk; rw [hb.block g hg]; exact h

theorem slI_sub {w : World} {g k N : Nat} {hs : List Int} (h : SlI w (some ⟨g, 0, none⟩) hs) (hk : k + N ≤ hs.length) : SlI w (some ⟨g, k, none⟩) ((hs.drop k).take N) := by
  by_cases h0 : N = 0
  · subst h0; exact .inl (by simp)
  rcases h with h | ⟨b, off, e, hb, hc⟩
  · rw [h] at hk; simp at hk; omega
  · simp at e
    obtain ⟨rfl, rfl⟩ := e
    refine .inr ⟨g, k, rfl, hb, fun i hi => ?_⟩
    simp at hi
    have := hc (k + i) (by omega)
    rw [Nat.zero_add] at this
    rw [this, List.getD_eq_getElem?_getD, List.getD_eq_getElem?_getD, List.getElem?_take, if_pos (by omega), List.getElem?_drop]

theorem slB_sub {w : World} {g k N : Nat} {hs : List Bool} (h : SlB w (some ⟨g, 0, none⟩) hs) (hk : k + N ≤ hs.length) : SlB w (some ⟨g, k, none⟩) ((hs.drop k).take N) := by
  by_cases h0 : N = 0
  · subst h0; exact .inl (by simp)
  rcases h with h | ⟨b, off, e, hb, hc⟩
  · rw [h] at hk; simp at hk; omega
  · simp at e
    obtain ⟨rfl, rfl⟩ := e
    refine .inr ⟨g, k, rfl, hb, fun i hi => ?_⟩
    simp at hi
    have := hc (k + i) (by omega)
    rw [Nat.zero_add] at this
    rw [this, List.getD_eq_getElem?_getD, List.getD_eq_getElem?_getD, List.getElem?_take, if_pos (by omega), List.getElem?_drop]

set_option maxRecDepth 20000 in
set_option maxHeartbeats 8000000 in
theorem tellRun_any (kd wa : Int) (k N : Nat) (q1 q2 : Option Addr) (m1 m2 k1 k2 : Nat) (g l c : Nat) (hs : List Int) (w : World) (hl : l = hs.length) (hs0 : SlI w (some ⟨g, 0, none⟩) hs) (hc : l ≤ c) (hk : k + N ≤ l) (h3 : l ≤ 2000000) (h65 : k ≤ 65535) (hN : 1 ≤ N) :
    Calls Try.prog 121 #[rq kd (k : Int) (N : Int) wa q1 q2 m1 m2 k1 k2, .slice (some ⟨g, 0, none⟩) l c] w fun e w' => TP w w' e kd 0 0 0 ((hs.drop k).take N) [] := by
  obtain ⟨z, hz⟩ : ∃ z, z = (w.alloc (.cells #[.int .i64 kd, .int .i64 (k : Int), .int .i64 (N : Int), .slice q1 m1 k1, .slice q2 m2 k2, .int .i64 wa] 46)).alloc (.cells #[.int .i64 0, .int .i64 0, .int .i64 0, .int .i64 0, .slice none 0 0, .slice none 0 0] 48) := ⟨_, rfl⟩
  have HZ : Hid (z = _) := hz
  have b0 : Below w.heap.size w z := by rw [hz]; exact bel_next (bel_alloc w _) (bel_alloc _ _)
  have Y0 : Blk z w.heap.size 46 #[.int .i64 kd, .int .i64 (k : Int), .int .i64 (N : Int), .slice q1 m1 k1, .slice q2 m2 k2, .int .i64 wa] := by rw [hz]; exact (Blk.new w _ _).below (bel_alloc _ _)
  have R0 : Blk z (w.heap.size + 1) 48 #[.int .i64 0, .int .i64 0, .int .i64 0, .int .i64 0, .slice none 0 0, .slice none 0 0] := by rw [hz]; have := Blk.new (w.alloc (.cells #[.int .i64 kd, .int .i64 (k : Int), .int .i64 (N : Int), .slice q1 m1 k1, .slice q2 m2 k2, .int .i64 wa] 46)) #[.int .i64 0, .int .i64 0, .int .i64 0, .int .i64 0, .slice none 0 0, .slice none 0 0] 48; simpa using this
  have HQ : Hid (((k : Int) + (N : Int)).toNat - k = ((hs.drop k).take N).length ∧ SlI z (some ⟨g, k, none⟩) ((hs.drop k).take N) ∧ ((hs.drop k).take N).length ≤ 2000000) := by
    exact ⟨by simp; omega, (slI_sub hs0 (by omega)).below b0, by simp; omega⟩
  have hck : ¬ c = k := by omega
  have i0 : (k : Int) ≤ (k : Int) + (N : Int) := by omega
  have i1 : (k : Int) + (N : Int) ≤ (l : Int) := by omega
  have i2 : (k : Int) + (N : Int) ≤ (c : Int) := by omega
  have i3' : (0 : Int) ≤ (k : Int) := by omega
  have i4 : (0 : Int) ≤ (k : Int) + (N : Int) := by omega
  have i5 : IntKind.i64.wrap ((k : Int) + (N : Int)) = (k : Int) + (N : Int) := by rw [IntKind.wrap_i64]; omega
  have i6 : (k : Int) ≤ (c : Int) := by omega
  have dz : Below z.heap.size z z.drew := (Below.refl _ _).drew
  have e1 : (((k : Int) + (N : Int)) - (k : Int)).toNat = N := by omega
  obtain ⟨y0, y1, y2, y3, y4, y5⟩ := Y0.six
  clear hz hl hs0
  go_enter Try.func121, Try.ntmps121
  go_upto_region 1 with fail
  rw [← HZ.out]
  go_region_held3 (fun w' => w'.cell? ⟨w.heap.size, 0, none⟩ = some (.int .i64 kd) ∧ w'.cell? ⟨w.heap.size, 1, none⟩ = some (.int .i64 (k : Int)) ∧ w'.cell? ⟨w.heap.size, 2, none⟩ = some (.int .i64 (N : Int))) (go_keep)
    (first | (go_at_call 82; refine (copyOfI (some ⟨g, k, none⟩) (((k : Int) + (N : Int)).toNat - k) (c - k) _ _ HQ.out.1 (HQ.out.2.1.below (by first | exact Below.refl _ _ | exact dz)) HQ.out.2.2).mono ?_; rintro e w3 ⟨g3, rfl, i3, b'⟩; have B3 : Below z.heap.size z w3 := (by first | exact b' | exact bel_next dz b'); obtain ⟨v0, v1, v2, v3, v4, v5⟩ := (Y0.below B3).six; obtain ⟨r0, r1, r2, r3, r4, r5⟩ := (R0.below B3).six; have f3 := (R0.below B3).fro; have g0 := f3 0; have g1 := f3 1; have g2 := f3 2; have g3' := f3 3; have g4 := f3 4; have g5 := f3 5; clear b'))
  all_goals (
    have HH : Hid (OwnI w3 w.heap.size (.slice (some ⟨g3, 0, none⟩) (((k : Int) + (N : Int)).toNat - k) (((k : Int) + (N : Int)).toNat - k)) ((hs.drop k).take N) ∧ ExB w3 (w.heap.size + 1) 48 ∧ Below w.heap.size w w3) := ⟨OwnI.mono i3 (by exact b0.size), ⟨_, R0.below B3⟩, bel_next b0 B3⟩
    clear i3
    go_wp2
    refine bodyPost_ret (v := rp kd 0 0 0 (some ⟨g3, 0, none⟩) none (((k : Int) + (N : Int)).toNat - k) 0 (((k : Int) + (N : Int)).toNat - k) 0) (by simp [results, Try.results121, go_sem, r0, r1, r2, r3, r4, r5]) rfl ?_
    obtain ⟨o1, o3, o4⟩ := HH.out
    exact ⟨_, _, _, _, _, _, rfl, rowp_set6 o1 o3 (by decide), ownB_nil0 _ _, belp_set6 o4 (by omega)⟩)

theorem madeB_list (w : World) (m : Nat) : madeCells #[Value.bool false] m = (List.replicate m (Value.bool false)).toArray := by
  obtain ⟨c, hc, hsz, hcell⟩ := World.rowIs_made ({ w with heap := #[] } : World) (.bool false) m 4
  have e : some (Obj.cells (madeCells #[Value.bool false] m) 4 (0, 0)) = some (Obj.cells c 4 (0, 0)) := hc
  simp at e
  rw [e]
  apply Array.ext_getElem?
  intro i
  by_cases hi : i < m
  · rw [hcell i hi]; simp [hi]
  · rw [Array.getElem?_eq_none (by omega), Array.getElem?_eq_none (by simp; omega)]

set_option maxRecDepth 20000 in
set_option maxHeartbeats 8000000 in
theorem tellBits_any (kd wa : Int) (k N : Nat) (q1 q2 : Option Addr) (m1 m2 k1 k2 : Nat) (g l c : Nat) (bs : List Bool) (w : World) (hl : l = bs.length) (hs0 : SlB w (some ⟨g, 0, none⟩) bs) (hc : l ≤ c) (hk : k + N ≤ l) (h3 : l ≤ 2000000) (h65 : k ≤ 65535) (hN : 1 ≤ N) :
    Calls Try.prog 120 #[rq kd (k : Int) (N : Int) wa q1 q2 m1 m2 k1 k2, .slice (some ⟨g, 0, none⟩) l c] w fun e w' => TP w w' e kd 0 0 0 [] ((bs.drop k).take N ++ List.replicate (8 * ((N + 7) / 8) - N) false) := by
  obtain ⟨z, hz⟩ : ∃ z, z = (w.alloc (.cells #[.int .i64 kd, .int .i64 (k : Int), .int .i64 (N : Int), .slice q1 m1 k1, .slice q2 m2 k2, .int .i64 wa] 46)).alloc (.cells #[.int .i64 0, .int .i64 0, .int .i64 0, .int .i64 0, .slice none 0 0, .slice none 0 0] 48) := ⟨_, rfl⟩
  have HZ : Hid (z = _) := hz
  have b0 : Below w.heap.size w z := by rw [hz]; exact bel_next (bel_alloc w _) (bel_alloc _ _)
  have Y0 : Blk z w.heap.size 46 #[.int .i64 kd, .int .i64 (k : Int), .int .i64 (N : Int), .slice q1 m1 k1, .slice q2 m2 k2, .int .i64 wa] := by rw [hz]; exact (Blk.new w _ _).below (bel_alloc _ _)
  have R0 : Blk z (w.heap.size + 1) 48 #[.int .i64 0, .int .i64 0, .int .i64 0, .int .i64 0, .slice none 0 0, .slice none 0 0] := by rw [hz]; have := Blk.new (w.alloc (.cells #[.int .i64 kd, .int .i64 (k : Int), .int .i64 (N : Int), .slice q1 m1 k1, .slice q2 m2 k2, .int .i64 wa] 46)) #[.int .i64 0, .int .i64 0, .int .i64 0, .int .i64 0, .slice none 0 0, .slice none 0 0] 48; simpa using this
  obtain ⟨M, hM⟩ : ∃ M, M = 8 * ((N + 7) / 8) := ⟨_, rfl⟩
  have HM : Hid (M = 8 * ((N + 7) / 8) ∧ N ≤ M ∧ M ≤ 2000008) := by show _ ∧ _; omega
  have em : 8 * (((N : Int) + 7) / 8) = (M : Int) := by omega
  have hmk := run_make_row' (P := Try.prog) 22 4 (.bool false) 1 Try.underlying22 Try.info4 rfl .i64 .i64 M (by omega) (by omega)
  obtain ⟨X, hX⟩ : ∃ X, X = ((bs.drop k).take N).map Value.bool := ⟨_, rfl⟩
  have HX : Hid (X = ((bs.drop k).take N).map Value.bool) := hX
  have hXl : Hid (X.length = N) := by show X.length = N; rw [hX]; simp; omega
  have hone : ∀ v ∈ X, v.oneCell' = true := by rw [hX]; exact onesB _
  obtain ⟨z1, hz1⟩ : ∃ q, q = z.alloc (.cells (madeCells #[.bool false] M) 4) := ⟨_, rfl⟩
  have HZ1 : Hid (z1 = _) := hz1
  have b1' : Below z.heap.size z z1 := by rw [hz1]; exact bel_alloc _ _
  have b1 := bel_next b0 b1'
  have Y1 := Y0.below b1'
  have R1 := R0.below b1'
  have HP : Hid (∀ j v, X[j]? = some v → z1.cell? (Addr.add ⟨g, k, none⟩ j) = some v) := by rw [hX]; exact slB_at ((slB_sub hs0 (by omega)).below b1)
  have HZh : Hid (z1.heap[z.heap.size]? = some (.cells (List.replicate M (Value.bool false)).toArray 4 (0, 0))) := by show _ = _; rw [hz1, ← madeB_list w M]; show (z.heap.push _)[z.heap.size]? = _; simp
  obtain ⟨BG, hBG⟩ : ∃ q, q = z.heap.size := ⟨_, rfl⟩
  have HBG : Hid (BG = z.heap.size) := hBG
  rw [← hBG] at HZh
  have HBG2 : Hid (w.heap.size + 1 + 1 ≤ BG) := by show _ ≤ _; rw [hBG, hz]; simp
  have i0 : (k : Int) ≤ (k : Int) + (N : Int) := by omega
  have i1 : (k : Int) + (N : Int) ≤ (l : Int) := by omega
  have i2 : (k : Int) + (N : Int) ≤ (c : Int) := by omega
  have i3' : (0 : Int) ≤ (k : Int) := by omega
  have i4 : (0 : Int) ≤ (k : Int) + (N : Int) := by omega
  have i5 : IntKind.i64.wrap ((k : Int) + (N : Int)) = (k : Int) + (N : Int) := by rw [IntKind.wrap_i64]; omega
  have i6 : (k : Int) ≤ (c : Int) := by omega
  have hck : ¬ c = k := by omega
  have hNb : Hid ((0 : Int) ≤ (N : Int) ∧ (N : Int) ≤ 9223372036854775807 ∧ ((k : Int) + (N : Int)).toNat - k = N) := by show _ ∧ _; omega
  have em2 : IntKind.i64.wrap (8 * (((N : Int) + 7) / 8)) = (M : Int) := by rw [IntKind.wrap_i64]; omega

  obtain ⟨y0, y1, y2, y3, y4, y5⟩ := Y0.six
  obtain ⟨u0, u1, u2, u3, u4, u5⟩ := Y1.six
  have HFIN : Hid (∀ w2 : World, w2.heap[BG]? = some (.cells (splice (List.replicate M (Value.bool false)) 0 X).toArray 4 (0, 0)) → OwnB w2 w.heap.size (.slice (some ⟨BG, 0, none⟩) M M) ((bs.drop k).take N ++ List.replicate (8 * ((N + 7) / 8) - N) false)) := by
    intro w2 h2
    have e : splice (List.replicate M (Value.bool false)) 0 X = ((bs.drop k).take N ++ List.replicate (8 * ((N + 7) / 8) - N) false).map Value.bool := by
      unfold splice
      rw [hXl.out, hX, ← hM]
      simp
    rw [e] at h2
    refine OwnB.ofHeap h2 ?_ ?_ ?_
    · rw [List.length_append, List.length_replicate, List.length_take, List.length_drop, ← hM]; omega
    · have := HBG2.out; omega
    · unfold maxLen; omega
  clear hz hl hs0 hX hz1 hM hBG Y0 R0 b0
  go_enter Try.func120, Try.ntmps120
  go_upto_region 1 with fail
  rw [← HZ.out]
  go_wp2_with fail
  refine (bytesFor_any (N : Int) _ hNb.out.1 hNb.out.2.1).mono ?_
  rintro e wx ⟨rfl, hwx⟩
  obtain rfl : z = wx := hwx.symm
  clear hwx
  go_upto_region 2 with fail
  rw [← HZ1.out]
  simp only [← HBG.out]
  clear hmk em em2
  go_wp2_with ((refine wpList_copy_splice rfl (.tmp 11) (.tmp 20) 22 22 rfl 4 Try.underlying22 szq4 _ _ _ _ _ _ rfl rfl BG 0 (List.replicate M (Value.bool false)) 4 HZh.out X (by rw [hXl.out]; first | exact (Nat.min_eq_left HM.out.2.1).symm | (rw [Nat.add_sub_cancel_left]; exact (Nat.min_eq_left HM.out.2.1).symm) | (rw [hNb.out.2.2]; exact (Nat.min_eq_left HM.out.2.1).symm)) (fun h => ⟨rfl, _, rfl, HP.out⟩) (by rw [hXl.out]; simp; exact HM.out.2.1) hone BG z1 (Below.refl _ _) (Nat.le_refl _) ?_); intro w2 H2 b2; have Y2 := Y1.belowB b2 (by have := HBG2.out; omega); have R2 := R1.belowB b2 (by have := HBG2.out; omega); obtain ⟨v0, v1, v2, v3, v4, v5⟩ := Y2.six; obtain ⟨r0, r1, r2, r3, r4, r5⟩ := R2.six; have f2 := R2.fro; have g0 := f2 0; have g1 := f2 1; have g2 := f2 2; have g3' := f2 3; have g4 := f2 4; have g5 := f2 5; have HH : Hid (OwnB w2 w.heap.size (.slice (some ⟨BG, 0, none⟩) M M) ((bs.drop k).take N ++ List.replicate (8 * ((N + 7) / 8) - N) false) ∧ ExB w2 (w.heap.size + 1) 48 ∧ Below w.heap.size w w2) := ⟨HFIN.out w2 H2.out, ⟨_, R2⟩, b1.trans (b2.mono (by have := HBG2.out; omega))⟩)
  refine bodyPost_ret (v := rp kd 0 0 0 none (some ⟨BG, 0, none⟩) 0 M 0 M) (by simp [results, Try.results120, go_sem, r0, r1, r2, r3, r4, r5]) rfl ?_
  obtain ⟨o1, o3, o4⟩ := HH.out
  exact ⟨_, _, _, _, _, _, rfl, ownI_nil0 _ _, rowp_set6 o1 o3 (by decide), belp_set6 o4 (by omega)⟩

end Go.Proofs.Ytcnbbknmofonkaa
