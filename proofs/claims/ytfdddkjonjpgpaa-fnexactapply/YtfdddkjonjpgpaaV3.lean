/- Texts that the proof needs, joined: Mk2 Steps RgI RgV RgW RgX RgY RgZ Mk3 Dev1. -/
import Derived.Test.YtfdddkjonjpgpaaV2
import Derived.WalkKit
import Derived.Deep.RegionLaw
import Derived.RegionTactic
import Derived.Below
import Derived.Deep.MidRow
import Derived.Test.YtfdddkjonjpgpaaV1
namespace Go.Proofs.Ytfdddkjonjpgpaa
open Go.RowKit Go.Joins
set_option linter.unusedVariables false
set_option linter.unusedSimpArgs false
set_option maxRecDepth 20000 in
set_option maxHeartbeats 8000000 in
theorem markReqS_f (n : Nat) (f : Nat → VQ) (a : Option Addr) (n' c s : Nat) (x : Int) (K : Sk) (w : World) (hx : x = ((s : Nat) : Int)) (h : Fit w (.list 6 n (fun i => trs (qT (f i)))) K (.slice a n' c)) (hok : K.ok) (hB : s + sumN n (fun i => ctVQ (f i)) ≤ 1125899906842624) :
    Calls Try.prog 21 #[.slice a n' c, .int .i64 x] w fun e w' => e = .returned (.int .i64 ((s + sumN n (fun i => ctVQ (f i)) : Nat) : Int)) ∧ Fit w' (.list 6 n (fun i => trs (qT (nmVQ (s + sumN i (fun i => ctVQ (f i))) (f i))))) K (.slice a n' c) ∧ Cg w w' K.bl := by
  subst hx
  obtain ⟨rfl, hc1, hm⟩ := h.len
  unfold maxLen at hm
  have HE : Hid (∀ w', Fit w' (.list 6 n' (fun i => trs (qT (if i < n' then nmVQ (s + sumN i (fun i => ctVQ (f i))) (f i) else f i)))) K (.slice a n' c) → Fit w' (.list 6 n' (fun i => trs (qT (nmVQ (s + sumN i (fun i => ctVQ (f i))) (f i))))) K (.slice a n' c)) := by
    show ∀ w', _
    intro w' h9
    exact h9.congr (fun k j hk hj => by simp only [if_pos hk])
  have h1 : Fit w (.list 6 n' (fun i => trs (qT (if i < 0 then nmVQ (s + sumN i (fun i => ctVQ (f i))) (f i) else f i)))) K (.slice a n' c) := h.congr (fun k j hk hj => by simp)
  clear h
  by_cases h0 : n' = 0
  · subst h0
    have h2 := HE.out w h1
    clear h1
    go_enter Try.func21, Try.ntmps21
    go_wp2
    refine wp_loop_rounds 1 ?_
    rw [rounds_succ]
    go_wp2
    go_ret
    exact ⟨rfl, h2, Cg.refl _ _⟩
  · obtain ⟨g, off, K', rfl, rfl, -, -, -, hg, -⟩ := h1.row (by omega)
    have HH : Hid (Fit w (.list 6 n' (fun i => trs (qT (if i < 0 then nmVQ (s + sumN i (fun i => ctVQ (f i))) (f i) else f i)))) (.row g off 6 n' K') (.slice (some ⟨g, off, none⟩) n' c) ∧ (Sk.row g off 6 n' K').ok ∧ s + sumN n' (fun i => ctVQ (f i)) ≤ 1125899906842624) := ⟨h1, hok, hB⟩
    clear h1 hok hB
    go_enter Try.func21, Try.ntmps21
    go_wp2
    go_loopw [1, 5] (fun kv i wr => ∃ z : Nat, z ≤ n' ∧ i = .int .i64 z ∧ kv = .int .i64 ((s + sumN z (fun i => ctVQ (f i)) : Nat) : Int) ∧ Fit wr (.list 6 n' (fun i => trs (qT (if i < z then nmVQ (s + sumN i (fun i => ctVQ (f i))) (f i) else f i)))) (.row g off 6 n' K') (.slice (some ⟨g, off, none⟩) n' c) ∧ Cg w wr (Sk.row g off 6 n' K').bl) (fun _ i _ => n' - (intOf i).toNat)
    case atStart => exact ⟨0, Nat.zero_le _, rfl, rfl, HH.out.1, Cg.refl _ _⟩
    case round =>
      obtain ⟨z, hz, rfl, rfl, hF, hC⟩ := hrel
      by_cases hlt : z < n'
      · have hi : (z : Int) < (n' : Int) := by omega
        obtain ⟨kk, hkk⟩ : ∃ kk, kk = s + sumN z (fun i => ctVQ (f i)) := ⟨_, rfl⟩
        rw [← hkk]
        have HC : Hid (ctVQ (f z) = 1 + 1 + 1 + (f z).ws.length + (f z).bs.length + 1 ∧ True) := ⟨rfl, trivial⟩
        have HK0 : Hid (kk = s + sumN z (fun i => ctVQ (f i)) ∧ kk + ctVQ (f z) ≤ 1125899906842624 ∧ s + sumN (z + 1) (fun i => ctVQ (f i)) = kk + ctVQ (f z)) := ⟨hkk, by have h7 := sumN_le (g := (fun i => ctVQ (f i))) hlt; have h8 := HH.out.2.2; omega, by rw [hkk]; simp only [sumN]; omega⟩
        obtain ⟨T0, hT0⟩ : ∃ T0 : Nat → Nat → Tr, T0 = (fun i => trs (qT (if i < z then nmVQ (s + sumN i (fun i => ctVQ (f i))) (f i) else f i))) := ⟨_, rfl⟩
        rw [← hT0] at hF
        have F0 := hF.toZ (z := z) (L := [.leaf (.int .i64 (f z).kd), .leaf (.int .i64 (f z).pl), .leaf (.int .i64 (f z).n), intsT (f z).ws, boolsT (f z).bs, .leaf (.int .i64 (f z).wa)]) (fun j hj => by rw [hT0]; simp only [if_neg (Nat.lt_irrefl z)]; rfl)
        have HT : Hid (T0 = (fun i => trs (qT (if i < z then nmVQ (s + sumN i (fun i => ctVQ (f i))) (f i) else f i)))) := hT0
        have G0 : Hid (Fit wr (.list 6 n' (atZ z [.leaf (.int .i64 (f z).kd), .leaf (.int .i64 (f z).pl), .leaf (.int .i64 (f z).n), intsT (f z).ws, boolsT (f z).bs, .leaf (.int .i64 (f z).wa)] T0)) (.row g off 6 n' K') (.slice (some ⟨g, off, none⟩) n' c) ∧ Cg w wr (Sk.row g off 6 n' K').bl) := ⟨F0, hC⟩
        clear hF hC F0 hT0 hkk
        obtain ⟨u0, q0, -⟩ := G0.out.1.cellZ hlt 0 (by decide)
        have e0 : wr.cell? ⟨g, off + z * 6, none⟩ = some u0 := q0
        clear q0
        have f0 := G0.out.1.fro (off + z * 6)
        obtain ⟨u1, q1, -⟩ := G0.out.1.cellZ hlt 1 (by decide)
        have e1 : wr.cell? ⟨g, off + z * 6 + 1, none⟩ = some u1 := q1
        clear q1
        have f1 := G0.out.1.fro (off + z * 6 + 1)
        obtain ⟨u2, q2, -⟩ := G0.out.1.cellZ hlt 2 (by decide)
        have e2 : wr.cell? ⟨g, off + z * 6 + 2, none⟩ = some u2 := q2
        clear q2
        have f2 := G0.out.1.fro (off + z * 6 + 2)
        have v0 : IntKind.i64.wrap ((kk : Int) + 1) = (kk : Int) + 1 := by have := HC.out; have := HK0.out; rw [IntKind.wrap_i64]; omega
        have v1 : IntKind.i64.wrap ((kk : Int) + 1 + 1) = (kk : Int) + 2 := by have := HC.out; have := HK0.out; rw [IntKind.wrap_i64]; omega
        have v2 : IntKind.i64.wrap ((kk : Int) + 2 + 1) = (kk : Int) + 3 := by have := HC.out; have := HK0.out; rw [IntKind.wrap_i64]; omega
        have G1 : Hid (Fit (((wr.setCell ⟨g, off + z * 6, none⟩ (.int .i64 ((kk : Int)))).setCell ⟨g, off + z * 6 + 1, none⟩ (.int .i64 ((kk : Int) + 1))).setCell ⟨g, off + z * 6 + 2, none⟩ (.int .i64 ((kk : Int) + 2))) (.list 6 n' (atZ z [.leaf (.int .i64 ((kk : Nat) : Int)), .leaf (.int .i64 ((kk + 1 : Nat) : Int)), .leaf (.int .i64 ((kk + 1 + 1 : Nat) : Int)), intsT (f z).ws, boolsT (f z).bs, .leaf (.int .i64 (f z).wa)] T0)) (.row g off 6 n' K') (.slice (some ⟨g, off, none⟩) n' c) ∧ Cg w (((wr.setCell ⟨g, off + z * 6, none⟩ (.int .i64 ((kk : Int)))).setCell ⟨g, off + z * 6 + 1, none⟩ (.int .i64 ((kk : Int) + 1))).setCell ⟨g, off + z * 6 + 2, none⟩ (.int .i64 ((kk : Int) + 2))) (Sk.row g off 6 n' K').bl) := ⟨(((G0.out.1.setZ HH.out.2.1 hlt 0 (by decide) (by simp) _ (.int .i64 ((kk : Int))) (.int .i64 ((kk : Nat) : Int)) rfl (congrArg (Value.int .i64) (by have := HC.out; have := HK0.out; omega)) rfl).setZ HH.out.2.1 hlt 1 (by decide) (by simp) _ (.int .i64 ((kk : Int) + 1)) (.int .i64 ((kk + 1 : Nat) : Int)) rfl (congrArg (Value.int .i64) (by have := HC.out; have := HK0.out; omega)) rfl).setZ HH.out.2.1 hlt 2 (by decide) (by simp) _ (.int .i64 ((kk : Int) + 2)) (.int .i64 ((kk + 1 + 1 : Nat) : Int)) rfl (congrArg (Value.int .i64) (by have := HC.out; have := HK0.out; omega)) rfl), (((G0.out.2.set (p := ⟨g, off + z * 6, none⟩) (.inl rfl) (.int .i64 ((kk : Int)))).set (p := ⟨g, off + z * 6 + 1, none⟩) (.inl rfl) (.int .i64 ((kk : Int) + 1))).set (p := ⟨g, off + z * 6 + 2, none⟩) (.inl rfl) (.int .i64 ((kk : Int) + 2)))⟩
        go_upto_region 10 with fail
        obtain ⟨W1, hW1⟩ : ∃ W, W = (((wr.setCell ⟨g, off + z * 6, none⟩ (.int .i64 ((kk : Int)))).setCell ⟨g, off + z * 6 + 1, none⟩ (.int .i64 ((kk : Int) + 1))).setCell ⟨g, off + z * 6 + 2, none⟩ (.int .i64 ((kk : Int) + 2))) := ⟨_, rfl⟩
        rw [← hW1] at G1 ⊢
        clear hW1 e0 f0 e1 f1 e2 f2 v0 v1 v2 G0 u0 u1 u2
        obtain ⟨u3, q3, t3⟩ := G1.out.1.cellZ hlt 3 (by decide)
        have t3' : Fit W1 (intsT (f z).ws) (K' z 3) u3 := t3
        obtain ⟨a3, c3, rfl⟩ := t3'.shape
        have HS3 : Hid (Fit W1 (intsT (f z).ws) (K' z 3) (.slice a3 ((f z).ws.length) c3) ∧ W1.cell? ⟨g, off + z * 6 + 3, none⟩ = some (.slice a3 ((f z).ws.length) c3)) := ⟨t3', q3⟩
        have e3 : W1.cell? ⟨g, off + z * 6 + 3, none⟩ = some (.slice a3 ((f z).ws.length) c3) := q3
        clear t3 t3' q3
        go_wp2_with fail
        refine (markIntS_f (f z).ws a3 _ c3 (kk + 1 + 1 + 1) _ (K' z 3) _ (by have := HC.out; have := HK0.out; omega) HS3.out.1 (HH.out.2.1.1 z 3 hlt (by decide)).1 (by have := HC.out; have := HK0.out; omega)).mono ?_
        rintro e W2 ⟨rfl, m9, cg9⟩
        have G2 : Hid (Fit W2 (.list 6 n' (atZ z [.leaf (.int .i64 ((kk : Nat) : Int)), .leaf (.int .i64 ((kk + 1 : Nat) : Int)), .leaf (.int .i64 ((kk + 1 + 1 : Nat) : Int)), intsT (marksI (kk + 1 + 1 + 1) (f z).ws.length), boolsT (f z).bs, .leaf (.int .i64 (f z).wa)] T0)) (.row g off 6 n' K') (.slice (some ⟨g, off, none⟩) n' c) ∧ Cg w W2 (Sk.row g off 6 n' K').bl) := ⟨G1.out.1.subZ HH.out.2.1 hlt 3 (by decide) (by simp) _ HS3.out.2 _ cg9 m9 rfl, G1.out.2.trans (cg9.mono (fun b hb => Sk.bl_in hlt (by decide) hb))⟩
        obtain ⟨k2, hk2⟩ : ∃ k2 : Nat, k2 = kk + 1 + 1 + 1 + (f z).ws.length := ⟨_, rfl⟩
        rw [← hk2]
        have HK2 : Hid (k2 = kk + 1 + 1 + 1 + (f z).ws.length) := hk2
        clear m9 cg9 hk2 e3 G1 HS3
        obtain ⟨u4, q4, t4⟩ := G2.out.1.cellZ hlt 4 (by decide)
        have t4' : Fit W2 (boolsT (f z).bs) (K' z 4) u4 := t4
        obtain ⟨a4, c4, rfl⟩ := t4'.shape
        have HS4 : Hid (Fit W2 (boolsT (f z).bs) (K' z 4) (.slice a4 ((f z).bs.length) c4) ∧ W2.cell? ⟨g, off + z * 6 + 4, none⟩ = some (.slice a4 ((f z).bs.length) c4)) := ⟨t4', q4⟩
        have e4 : W2.cell? ⟨g, off + z * 6 + 4, none⟩ = some (.slice a4 ((f z).bs.length) c4) := q4
        clear t4 t4' q4
        go_wp2_with fail
        refine (markBoolS_f (f z).bs a4 _ c4 (kk + 1 + 1 + 1 + (f z).ws.length) _ (K' z 4) _ (by have := HC.out; have := HK0.out; have := HK2.out; omega) HS4.out.1 (HH.out.2.1.1 z 4 hlt (by decide)).1 (by have := HC.out; have := HK0.out; have := HK2.out; omega)).mono ?_
        rintro e W3 ⟨rfl, m9, cg9⟩
        have G3 : Hid (Fit W3 (.list 6 n' (atZ z [.leaf (.int .i64 ((kk : Nat) : Int)), .leaf (.int .i64 ((kk + 1 : Nat) : Int)), .leaf (.int .i64 ((kk + 1 + 1 : Nat) : Int)), intsT (marksI (kk + 1 + 1 + 1) (f z).ws.length), boolsT (marksB (kk + 1 + 1 + 1 + (f z).ws.length) (f z).bs.length), .leaf (.int .i64 (f z).wa)] T0)) (.row g off 6 n' K') (.slice (some ⟨g, off, none⟩) n' c) ∧ Cg w W3 (Sk.row g off 6 n' K').bl) := ⟨G2.out.1.subZ HH.out.2.1 hlt 4 (by decide) (by simp) _ HS4.out.2 _ cg9 m9 rfl, G2.out.2.trans (cg9.mono (fun b hb => Sk.bl_in hlt (by decide) hb))⟩
        obtain ⟨k3, hk3⟩ : ∃ k3 : Nat, k3 = kk + 1 + 1 + 1 + (f z).ws.length + (f z).bs.length := ⟨_, rfl⟩
        rw [← hk3]
        have HK3 : Hid (k3 = kk + 1 + 1 + 1 + (f z).ws.length + (f z).bs.length) := hk3
        clear m9 cg9 hk3 e4 G2 HS4
        obtain ⟨u5, q5, -⟩ := G3.out.1.cellZ hlt 5 (by decide)
        have e5 : W3.cell? ⟨g, off + z * 6 + 5, none⟩ = some u5 := q5
        clear q5
        have f5 := G3.out.1.fro (off + z * 6 + 5)
        have v0 : IntKind.i64.wrap ((k3 : Int) + 1) = (k3 : Int) + 1 := by have := HC.out; have := HK0.out; have := HK2.out; have := HK3.out; rw [IntKind.wrap_i64]; omega
        have G4 : Hid (Fit (W3.setCell ⟨g, off + z * 6 + 5, none⟩ (.int .i64 ((k3 : Int)))) (.list 6 n' (atZ z [.leaf (.int .i64 ((kk : Nat) : Int)), .leaf (.int .i64 ((kk + 1 : Nat) : Int)), .leaf (.int .i64 ((kk + 1 + 1 : Nat) : Int)), intsT (marksI (kk + 1 + 1 + 1) (f z).ws.length), boolsT (marksB (kk + 1 + 1 + 1 + (f z).ws.length) (f z).bs.length), .leaf (.int .i64 ((kk + 1 + 1 + 1 + (f z).ws.length + (f z).bs.length : Nat) : Int))] T0)) (.row g off 6 n' K') (.slice (some ⟨g, off, none⟩) n' c) ∧ Cg w (W3.setCell ⟨g, off + z * 6 + 5, none⟩ (.int .i64 ((k3 : Int)))) (Sk.row g off 6 n' K').bl) := ⟨(G3.out.1.setZ HH.out.2.1 hlt 5 (by decide) (by simp) _ (.int .i64 ((k3 : Int))) (.int .i64 ((kk + 1 + 1 + 1 + (f z).ws.length + (f z).bs.length : Nat) : Int)) rfl (congrArg (Value.int .i64) (by have := HC.out; have := HK0.out; have := HK2.out; have := HK3.out; omega)) rfl), (G3.out.2.set (p := ⟨g, off + z * 6 + 5, none⟩) (.inl rfl) (.int .i64 ((k3 : Int))))⟩
        clear G3
        have HZ : Hid (Fit (W3.setCell ⟨g, off + z * 6 + 5, none⟩ (.int .i64 ((k3 : Int)))) (.list 6 n' (fun i => trs (qT (if i < z + 1 then nmVQ (s + sumN i (fun i => ctVQ (f i))) (f i) else f i)))) (.row g off 6 n' K') (.slice (some ⟨g, off, none⟩) n' c) ∧ Cg w (W3.setCell ⟨g, off + z * 6 + 5, none⟩ (.int .i64 ((k3 : Int)))) (Sk.row g off 6 n' K').bl ∧ (k3 : Int) + 1 = ((s + sumN (z + 1) (fun i => ctVQ (f i)) : Nat) : Int)) := ⟨G4.out.1.doneZ (T1 := fun i => trs (qT (if i < z + 1 then nmVQ (s + sumN i (fun i => ctVQ (f i))) (f i) else f i))) (fun i hi => by rw [HT.out]; simp only [if_lt_succ hi]) (fun j hj => by simp only [if_pos (Nat.lt_succ_self z)]; rw [← HK0.out.1]; rfl), G4.out.2, by have := HC.out; have := HK0.out; have := HK2.out; have := HK3.out; omega⟩
        clear G4 HT
        go_wp2
        go_roundw
        case rel => exact ⟨z + 1, by omega, by go_num, congrArg (Value.int .i64) HZ.out.2.2, HZ.out.1, HZ.out.2.1⟩
        case measure => simp [intOf]; omega
      · have hi : ¬ (z : Int) < (n' : Int) := by omega
        have e9 : z = n' := by omega
        subst e9
        have H1 : Hid (_ ∧ _) := ⟨HE.out _ hF, hC⟩
        clear hF hC
        go_wp2
        go_ret
        exact ⟨rfl, H1.out.1, H1.out.2⟩
set_option maxRecDepth 20000 in
set_option maxHeartbeats 8000000 in
theorem markRespS_f (n : Nat) (f : Nat → VA) (a : Option Addr) (n' c s : Nat) (x : Int) (K : Sk) (w : World) (hx : x = ((s : Nat) : Int)) (h : Fit w (.list 6 n (fun i => trs (aT (f i)))) K (.slice a n' c)) (hok : K.ok) (hB : s + sumN n (fun i => ctVA (f i)) ≤ 1125899906842624) :
    Calls Try.prog 22 #[.slice a n' c, .int .i64 x] w fun e w' => e = .returned (.int .i64 ((s + sumN n (fun i => ctVA (f i)) : Nat) : Int)) ∧ Fit w' (.list 6 n (fun i => trs (aT (nmVA (s + sumN i (fun i => ctVA (f i))) (f i))))) K (.slice a n' c) ∧ Cg w w' K.bl := by
  subst hx
  obtain ⟨rfl, hc1, hm⟩ := h.len
  unfold maxLen at hm
  have HE : Hid (∀ w', Fit w' (.list 6 n' (fun i => trs (aT (if i < n' then nmVA (s + sumN i (fun i => ctVA (f i))) (f i) else f i)))) K (.slice a n' c) → Fit w' (.list 6 n' (fun i => trs (aT (nmVA (s + sumN i (fun i => ctVA (f i))) (f i))))) K (.slice a n' c)) := by
    show ∀ w', _
    intro w' h9
    exact h9.congr (fun k j hk hj => by simp only [if_pos hk])
  have h1 : Fit w (.list 6 n' (fun i => trs (aT (if i < 0 then nmVA (s + sumN i (fun i => ctVA (f i))) (f i) else f i)))) K (.slice a n' c) := h.congr (fun k j hk hj => by simp)
  clear h
  by_cases h0 : n' = 0
  · subst h0
    have h2 := HE.out w h1
    clear h1
    go_enter Try.func22, Try.ntmps22
    go_wp2
    refine wp_loop_rounds 1 ?_
    rw [rounds_succ]
    go_wp2
    go_ret
    exact ⟨rfl, h2, Cg.refl _ _⟩
  · obtain ⟨g, off, K', rfl, rfl, -, -, -, hg, -⟩ := h1.row (by omega)
    have HH : Hid (Fit w (.list 6 n' (fun i => trs (aT (if i < 0 then nmVA (s + sumN i (fun i => ctVA (f i))) (f i) else f i)))) (.row g off 6 n' K') (.slice (some ⟨g, off, none⟩) n' c) ∧ (Sk.row g off 6 n' K').ok ∧ s + sumN n' (fun i => ctVA (f i)) ≤ 1125899906842624) := ⟨h1, hok, hB⟩
    clear h1 hok hB
    go_enter Try.func22, Try.ntmps22
    go_wp2
    go_loopw [1, 5] (fun kv i wr => ∃ z : Nat, z ≤ n' ∧ i = .int .i64 z ∧ kv = .int .i64 ((s + sumN z (fun i => ctVA (f i)) : Nat) : Int) ∧ Fit wr (.list 6 n' (fun i => trs (aT (if i < z then nmVA (s + sumN i (fun i => ctVA (f i))) (f i) else f i)))) (.row g off 6 n' K') (.slice (some ⟨g, off, none⟩) n' c) ∧ Cg w wr (Sk.row g off 6 n' K').bl) (fun _ i _ => n' - (intOf i).toNat)
    case atStart => exact ⟨0, Nat.zero_le _, rfl, rfl, HH.out.1, Cg.refl _ _⟩
    case round =>
      obtain ⟨z, hz, rfl, rfl, hF, hC⟩ := hrel
      by_cases hlt : z < n'
      · have hi : (z : Int) < (n' : Int) := by omega
        obtain ⟨kk, hkk⟩ : ∃ kk, kk = s + sumN z (fun i => ctVA (f i)) := ⟨_, rfl⟩
        rw [← hkk]
        have HC : Hid (ctVA (f z) = 1 + 1 + 1 + 1 + (f z).ws.length + (f z).bs.length ∧ True) := ⟨rfl, trivial⟩
        have HK0 : Hid (kk = s + sumN z (fun i => ctVA (f i)) ∧ kk + ctVA (f z) ≤ 1125899906842624 ∧ s + sumN (z + 1) (fun i => ctVA (f i)) = kk + ctVA (f z)) := ⟨hkk, by have h7 := sumN_le (g := (fun i => ctVA (f i))) hlt; have h8 := HH.out.2.2; omega, by rw [hkk]; simp only [sumN]; omega⟩
        obtain ⟨T0, hT0⟩ : ∃ T0 : Nat → Nat → Tr, T0 = (fun i => trs (aT (if i < z then nmVA (s + sumN i (fun i => ctVA (f i))) (f i) else f i))) := ⟨_, rfl⟩
        rw [← hT0] at hF
        have F0 := hF.toZ (z := z) (L := [.leaf (.int .i64 (f z).kd), .leaf (.int .i64 (f z).fl), .leaf (.int .i64 (f z).pl), .leaf (.int .i64 (f z).n), intsT (f z).ws, boolsT (f z).bs]) (fun j hj => by rw [hT0]; simp only [if_neg (Nat.lt_irrefl z)]; rfl)
        have HT : Hid (T0 = (fun i => trs (aT (if i < z then nmVA (s + sumN i (fun i => ctVA (f i))) (f i) else f i)))) := hT0
        have G0 : Hid (Fit wr (.list 6 n' (atZ z [.leaf (.int .i64 (f z).kd), .leaf (.int .i64 (f z).fl), .leaf (.int .i64 (f z).pl), .leaf (.int .i64 (f z).n), intsT (f z).ws, boolsT (f z).bs] T0)) (.row g off 6 n' K') (.slice (some ⟨g, off, none⟩) n' c) ∧ Cg w wr (Sk.row g off 6 n' K').bl) := ⟨F0, hC⟩
        clear hF hC F0 hT0 hkk
        obtain ⟨u0, q0, -⟩ := G0.out.1.cellZ hlt 0 (by decide)
        have e0 : wr.cell? ⟨g, off + z * 6, none⟩ = some u0 := q0
        clear q0
        have f0 := G0.out.1.fro (off + z * 6)
        obtain ⟨u1, q1, -⟩ := G0.out.1.cellZ hlt 1 (by decide)
        have e1 : wr.cell? ⟨g, off + z * 6 + 1, none⟩ = some u1 := q1
        clear q1
        have f1 := G0.out.1.fro (off + z * 6 + 1)
        obtain ⟨u2, q2, -⟩ := G0.out.1.cellZ hlt 2 (by decide)
        have e2 : wr.cell? ⟨g, off + z * 6 + 2, none⟩ = some u2 := q2
        clear q2
        have f2 := G0.out.1.fro (off + z * 6 + 2)
        obtain ⟨u3, q3, -⟩ := G0.out.1.cellZ hlt 3 (by decide)
        have e3 : wr.cell? ⟨g, off + z * 6 + 3, none⟩ = some u3 := q3
        clear q3
        have f3 := G0.out.1.fro (off + z * 6 + 3)
        have v0 : IntKind.i64.wrap ((kk : Int) + 1) = (kk : Int) + 1 := by have := HC.out; have := HK0.out; rw [IntKind.wrap_i64]; omega
        have v1 : IntKind.i64.wrap ((kk : Int) + 1 + 1) = (kk : Int) + 2 := by have := HC.out; have := HK0.out; rw [IntKind.wrap_i64]; omega
        have v2 : IntKind.i64.wrap ((kk : Int) + 2 + 1) = (kk : Int) + 3 := by have := HC.out; have := HK0.out; rw [IntKind.wrap_i64]; omega
        have v3 : IntKind.i64.wrap ((kk : Int) + 3 + 1) = (kk : Int) + 4 := by have := HC.out; have := HK0.out; rw [IntKind.wrap_i64]; omega
        have G1 : Hid (Fit ((((wr.setCell ⟨g, off + z * 6, none⟩ (.int .i64 ((kk : Int)))).setCell ⟨g, off + z * 6 + 1, none⟩ (.int .i64 ((kk : Int) + 1))).setCell ⟨g, off + z * 6 + 2, none⟩ (.int .i64 ((kk : Int) + 2))).setCell ⟨g, off + z * 6 + 3, none⟩ (.int .i64 ((kk : Int) + 3))) (.list 6 n' (atZ z [.leaf (.int .i64 ((kk : Nat) : Int)), .leaf (.int .i64 ((kk + 1 : Nat) : Int)), .leaf (.int .i64 ((kk + 1 + 1 : Nat) : Int)), .leaf (.int .i64 ((kk + 1 + 1 + 1 : Nat) : Int)), intsT (f z).ws, boolsT (f z).bs] T0)) (.row g off 6 n' K') (.slice (some ⟨g, off, none⟩) n' c) ∧ Cg w ((((wr.setCell ⟨g, off + z * 6, none⟩ (.int .i64 ((kk : Int)))).setCell ⟨g, off + z * 6 + 1, none⟩ (.int .i64 ((kk : Int) + 1))).setCell ⟨g, off + z * 6 + 2, none⟩ (.int .i64 ((kk : Int) + 2))).setCell ⟨g, off + z * 6 + 3, none⟩ (.int .i64 ((kk : Int) + 3))) (Sk.row g off 6 n' K').bl) := ⟨((((G0.out.1.setZ HH.out.2.1 hlt 0 (by decide) (by simp) _ (.int .i64 ((kk : Int))) (.int .i64 ((kk : Nat) : Int)) rfl (congrArg (Value.int .i64) (by have := HC.out; have := HK0.out; omega)) rfl).setZ HH.out.2.1 hlt 1 (by decide) (by simp) _ (.int .i64 ((kk : Int) + 1)) (.int .i64 ((kk + 1 : Nat) : Int)) rfl (congrArg (Value.int .i64) (by have := HC.out; have := HK0.out; omega)) rfl).setZ HH.out.2.1 hlt 2 (by decide) (by simp) _ (.int .i64 ((kk : Int) + 2)) (.int .i64 ((kk + 1 + 1 : Nat) : Int)) rfl (congrArg (Value.int .i64) (by have := HC.out; have := HK0.out; omega)) rfl).setZ HH.out.2.1 hlt 3 (by decide) (by simp) _ (.int .i64 ((kk : Int) + 3)) (.int .i64 ((kk + 1 + 1 + 1 : Nat) : Int)) rfl (congrArg (Value.int .i64) (by have := HC.out; have := HK0.out; omega)) rfl), ((((G0.out.2.set (p := ⟨g, off + z * 6, none⟩) (.inl rfl) (.int .i64 ((kk : Int)))).set (p := ⟨g, off + z * 6 + 1, none⟩) (.inl rfl) (.int .i64 ((kk : Int) + 1))).set (p := ⟨g, off + z * 6 + 2, none⟩) (.inl rfl) (.int .i64 ((kk : Int) + 2))).set (p := ⟨g, off + z * 6 + 3, none⟩) (.inl rfl) (.int .i64 ((kk : Int) + 3)))⟩
        go_upto_region 12 with fail
        obtain ⟨W1, hW1⟩ : ∃ W, W = ((((wr.setCell ⟨g, off + z * 6, none⟩ (.int .i64 ((kk : Int)))).setCell ⟨g, off + z * 6 + 1, none⟩ (.int .i64 ((kk : Int) + 1))).setCell ⟨g, off + z * 6 + 2, none⟩ (.int .i64 ((kk : Int) + 2))).setCell ⟨g, off + z * 6 + 3, none⟩ (.int .i64 ((kk : Int) + 3))) := ⟨_, rfl⟩
        rw [← hW1] at G1 ⊢
        clear hW1 e0 f0 e1 f1 e2 f2 e3 f3 v0 v1 v2 v3 G0 u0 u1 u2 u3
        obtain ⟨u4, q4, t4⟩ := G1.out.1.cellZ hlt 4 (by decide)
        have t4' : Fit W1 (intsT (f z).ws) (K' z 4) u4 := t4
        obtain ⟨a4, c4, rfl⟩ := t4'.shape
        have HS4 : Hid (Fit W1 (intsT (f z).ws) (K' z 4) (.slice a4 ((f z).ws.length) c4) ∧ W1.cell? ⟨g, off + z * 6 + 4, none⟩ = some (.slice a4 ((f z).ws.length) c4)) := ⟨t4', q4⟩
        have e4 : W1.cell? ⟨g, off + z * 6 + 4, none⟩ = some (.slice a4 ((f z).ws.length) c4) := q4
        clear t4 t4' q4
        go_wp2_with fail
        refine (markIntS_f (f z).ws a4 _ c4 (kk + 1 + 1 + 1 + 1) _ (K' z 4) _ (by have := HC.out; have := HK0.out; omega) HS4.out.1 (HH.out.2.1.1 z 4 hlt (by decide)).1 (by have := HC.out; have := HK0.out; omega)).mono ?_
        rintro e W2 ⟨rfl, m9, cg9⟩
        have G2 : Hid (Fit W2 (.list 6 n' (atZ z [.leaf (.int .i64 ((kk : Nat) : Int)), .leaf (.int .i64 ((kk + 1 : Nat) : Int)), .leaf (.int .i64 ((kk + 1 + 1 : Nat) : Int)), .leaf (.int .i64 ((kk + 1 + 1 + 1 : Nat) : Int)), intsT (marksI (kk + 1 + 1 + 1 + 1) (f z).ws.length), boolsT (f z).bs] T0)) (.row g off 6 n' K') (.slice (some ⟨g, off, none⟩) n' c) ∧ Cg w W2 (Sk.row g off 6 n' K').bl) := ⟨G1.out.1.subZ HH.out.2.1 hlt 4 (by decide) (by simp) _ HS4.out.2 _ cg9 m9 rfl, G1.out.2.trans (cg9.mono (fun b hb => Sk.bl_in hlt (by decide) hb))⟩
        obtain ⟨k2, hk2⟩ : ∃ k2 : Nat, k2 = kk + 1 + 1 + 1 + 1 + (f z).ws.length := ⟨_, rfl⟩
        rw [← hk2]
        have HK2 : Hid (k2 = kk + 1 + 1 + 1 + 1 + (f z).ws.length) := hk2
        clear m9 cg9 hk2 e4 G1 HS4
        obtain ⟨u5, q5, t5⟩ := G2.out.1.cellZ hlt 5 (by decide)
        have t5' : Fit W2 (boolsT (f z).bs) (K' z 5) u5 := t5
        obtain ⟨a5, c5, rfl⟩ := t5'.shape
        have HS5 : Hid (Fit W2 (boolsT (f z).bs) (K' z 5) (.slice a5 ((f z).bs.length) c5) ∧ W2.cell? ⟨g, off + z * 6 + 5, none⟩ = some (.slice a5 ((f z).bs.length) c5)) := ⟨t5', q5⟩
        have e5 : W2.cell? ⟨g, off + z * 6 + 5, none⟩ = some (.slice a5 ((f z).bs.length) c5) := q5
        clear t5 t5' q5
        go_wp2_with fail
        refine (markBoolS_f (f z).bs a5 _ c5 (kk + 1 + 1 + 1 + 1 + (f z).ws.length) _ (K' z 5) _ (by have := HC.out; have := HK0.out; have := HK2.out; omega) HS5.out.1 (HH.out.2.1.1 z 5 hlt (by decide)).1 (by have := HC.out; have := HK0.out; have := HK2.out; omega)).mono ?_
        rintro e W3 ⟨rfl, m9, cg9⟩
        have G3 : Hid (Fit W3 (.list 6 n' (atZ z [.leaf (.int .i64 ((kk : Nat) : Int)), .leaf (.int .i64 ((kk + 1 : Nat) : Int)), .leaf (.int .i64 ((kk + 1 + 1 : Nat) : Int)), .leaf (.int .i64 ((kk + 1 + 1 + 1 : Nat) : Int)), intsT (marksI (kk + 1 + 1 + 1 + 1) (f z).ws.length), boolsT (marksB (kk + 1 + 1 + 1 + 1 + (f z).ws.length) (f z).bs.length)] T0)) (.row g off 6 n' K') (.slice (some ⟨g, off, none⟩) n' c) ∧ Cg w W3 (Sk.row g off 6 n' K').bl) := ⟨G2.out.1.subZ HH.out.2.1 hlt 5 (by decide) (by simp) _ HS5.out.2 _ cg9 m9 rfl, G2.out.2.trans (cg9.mono (fun b hb => Sk.bl_in hlt (by decide) hb))⟩
        obtain ⟨k3, hk3⟩ : ∃ k3 : Nat, k3 = kk + 1 + 1 + 1 + 1 + (f z).ws.length + (f z).bs.length := ⟨_, rfl⟩
        rw [← hk3]
        have HK3 : Hid (k3 = kk + 1 + 1 + 1 + 1 + (f z).ws.length + (f z).bs.length) := hk3
        clear m9 cg9 hk3 e5 G2 HS5
        have HZ : Hid (Fit W3 (.list 6 n' (fun i => trs (aT (if i < z + 1 then nmVA (s + sumN i (fun i => ctVA (f i))) (f i) else f i)))) (.row g off 6 n' K') (.slice (some ⟨g, off, none⟩) n' c) ∧ Cg w W3 (Sk.row g off 6 n' K').bl ∧ (k3 : Int) = ((s + sumN (z + 1) (fun i => ctVA (f i)) : Nat) : Int)) := ⟨G3.out.1.doneZ (T1 := fun i => trs (aT (if i < z + 1 then nmVA (s + sumN i (fun i => ctVA (f i))) (f i) else f i))) (fun i hi => by rw [HT.out]; simp only [if_lt_succ hi]) (fun j hj => by simp only [if_pos (Nat.lt_succ_self z)]; rw [← HK0.out.1]; rfl), G3.out.2, by have := HC.out; have := HK0.out; have := HK2.out; have := HK3.out; omega⟩
        clear G3 HT
        go_wp2
        go_roundw
        case rel => exact ⟨z + 1, by omega, by go_num, congrArg (Value.int .i64) HZ.out.2.2, HZ.out.1, HZ.out.2.1⟩
        case measure => simp [intOf]; omega
      · have hi : ¬ (z : Int) < (n' : Int) := by omega
        have e9 : z = n' := by omega
        subst e9
        have H1 : Hid (_ ∧ _) := ⟨HE.out _ hF, hC⟩
        clear hF hC
        go_wp2
        go_ret
        exact ⟨rfl, H1.out.1, H1.out.2⟩
end Go.Proofs.Ytfdddkjonjpgpaa
namespace Go.Proofs.Ytfdddkjonjpgpaa
open Go.RowKit
end Go.Proofs.Ytfdddkjonjpgpaa
namespace Go.Proofs.Ytfdddkjonjpgpaa
open Go.RowKit
theorem getD_eq {l : Array Bool} {i : Nat} (h : i < l.size) (x y : Bool) : l.getD i x = l.getD i y := by
  simp [Array.getD, h]
theorem count_set (l : List Bool) (i : Nat) (h : l[i]? = some false) : (l.set i true).count false + 1 = l.count false := by
  induction l generalizing i with
  | nil => simp at h
  | cons x r ih =>
    cases i with
    | zero => simp at h; subst h; simp
    | succ i => simp at h; have := ih i h; cases x <;> simp <;> omega
theorem ready_mem {md : Region.Mode} {ops : Array Oper} {l : Array Bool} {i : Nat} (h : i ∈ Region.ready md ops l) :
    i < ops.size ∧ l.getD i true = false ∧ ∀ o, ops[i]? = some o → ∀ e ∈ o.after, Region.binds md e = true → l.getD e.on false = true := by
  unfold Region.ready at h
  rw [List.mem_filter] at h
  obtain ⟨h1, h2⟩ := h
  simp only [Bool.and_eq_true, Bool.not_eq_true'] at h2
  refine ⟨List.mem_range.1 h1, h2.1, fun o ho e he hb => ?_⟩
  have h3 := h2.2
  rw [ho] at h3
  simp only [Option.map_some, Option.getD_some, Array.all_eq_true_iff_forall_mem] at h3
  have h4 := h3 e he
  simpa [hb] using h4
theorem ready_of {md : Region.Mode} {ops : Array Oper} {l : Array Bool} {i : Nat} {o : Oper} (hi : i < ops.size) (ho : ops[i]? = some o) (hl : l.getD i true = false) (hd : ∀ e ∈ o.after, Region.binds md e = true → l.getD e.on false = true) : i ∈ Region.ready md ops l := by
  unfold Region.ready
  rw [List.mem_filter]
  refine ⟨List.mem_range.2 hi, ?_⟩
  simp only [Bool.and_eq_true, Bool.not_eq_true']
  refine ⟨hl, ?_⟩
  rw [ho]
  simp only [Option.map_some, Option.getD_some, Array.all_eq_true_iff_forall_mem]
  intro e he
  cases hb : Region.binds md e
  · rfl
  · simpa using hd e he hb
def ordB (md : Region.Mode) (ops : Array Oper) : Bool := (List.range ops.size).all fun i => ((ops[i]?).map (·.after.all fun e => !Region.binds md e || decide (e.on < i))).getD true
theorem ordB_of {md : Region.Mode} {ops : Array Oper} (h : ordB md ops = true) : ∀ i o, ops[i]? = some o → ∀ e ∈ o.after, Region.binds md e = true → e.on < i := by
  intro i o ho e he hb
  unfold ordB at h
  rw [List.all_eq_true] at h
  have hi : i < ops.size := (Array.getElem?_eq_some_iff.1 ho).1
  have h1 := h i (List.mem_range.2 hi)
  rw [ho] at h1
  simp only [Option.map_some, Option.getD_some, Array.all_eq_true_iff_forall_mem] at h1
  have h2 := h1 e he
  simpa [hb] using h2
theorem wpAny_inv {P : Program} {ops : Array Oper} {Q : Exit → Act → World → Prop} {md : Region.Mode} (Inv : Array Bool → Act → World → Prop)
    (hordB : ordB md ops = true)
    (hend : ∀ l a w, Inv l a w → (∀ i, i < ops.size → l.getD i true = true) → Q .normal a w)
    (hstep : ∀ l a w i o, Inv l a w → ops[i]? = some o → l.getD i true = false → (∀ e ∈ o.after, Region.binds md e = true → l.getD e.on false = true) →
      ∀ K : Act → World → Prop, (∀ a w, Inv (l.setIfInBounds i true) a w → K a w) → if Region.wanted o (yielded ops a.tmps) = true then Oper.wp P o a w K Q else K (a.put o.dst undef) w) :
    ∀ (fuel : Nat) (l : Array Bool) (a : Act) (w : World), l.size = ops.size → l.toList.count false ≤ fuel → Inv l a w → wpAny P md ops Q fuel l a w := by
  have hord := ordB_of hordB
  have hall : ∀ l : Array Bool, l.size = ops.size → Region.ready md ops l = [] → ∀ i, i < ops.size → l.getD i true = true := by
    intro l hs hr i
    induction i using Nat.strongRecOn with
    | ind i ih =>
      intro hi
      cases hl : l.getD i true
      · obtain ⟨o, ho⟩ : ∃ o, ops[i]? = some o := ⟨ops[i], by simp [hi]⟩
        have : i ∈ Region.ready md ops l := ready_of hi ho hl (fun e he hb => by
          have h1 := hord i o ho e he hb
          rw [getD_eq (by omega) false true]
          exact ih e.on h1 (by omega))
        rw [hr] at this
        simp at this
      · rfl
  intro fuel
  induction fuel with
  | zero =>
    intro l a w hs hc hI
    have hr : Region.ready md ops l = [] := by
      apply List.eq_nil_iff_forall_not_mem.2
      intro i hi
      obtain ⟨h1, h2, _⟩ := ready_mem hi
      have h3 : l.toList[i]? = some false := by
        have h4 : i < l.size := by omega
        rw [Array.getElem?_toList]
        simp [Array.getD, h4] at h2
        simp [h4, h2]
      have := count_set l.toList i h3
      omega
    exact ⟨hr, hend l a w hI (hall l hs hr)⟩
  | succ fuel ih =>
    intro l a w hs hc hI
    refine ⟨fun hr => hend l a w hI (hall l hs hr), fun i hi => ?_⟩
    obtain ⟨h1, h2, h3⟩ := ready_mem hi
    obtain ⟨o, ho⟩ : ∃ o, ops[i]? = some o := ⟨ops[i], by simp [h1]⟩
    refine wpOp_step ho (fun K' hK' => hstep l a w i o hI ho h2 (h3 o ho) K' (fun a' w' hI' => hK' a' w' (ih _ a' w' (by simpa using hs) ?_ hI')))
    have h4 : l.toList[i]? = some false := by
      have h5 : i < l.size := by omega
      rw [Array.getElem?_toList]
      simp [Array.getD, h5] at h2
      simp [h5, h2]
    have := count_set l.toList i h4
    rw [Array.toList_setIfInBounds]
    omega
end Go.Proofs.Ytfdddkjonjpgpaa
namespace Go.Proofs.Ytfdddkjonjpgpaa
open Go.RowKit
def dstOf (ops : Array Oper) (i : Nat) : Option Tmp := (ops[i]?).bind (·.dst)
def dstB (ops : Array Oper) (n : Nat) : Bool :=
  (List.range ops.size).all fun i => match dstOf ops i with
    | some d => decide (d < n) && (List.range ops.size).all fun j => decide (j = i) || decide (dstOf ops j ≠ some d)
    | none => false
def isDst (ops : Array Oper) (s : Nat) : Bool := (List.range ops.size).any fun i => decide (dstOf ops i = some s)
def putsL (a : Act) : Nat → List Oper → (Nat → Value) → Act
  | _, [], _ => a
  | i, o :: os, vs => putsL (a.put o.dst (vs i)) (i + 1) os vs
def wantV (ops : Array Oper) (o : Oper) (ρ : Operand → Value) : Bool :=
  match o.guard with
  | none => true
  | some (j, want) => match dstOf ops j with
    | some d => (match ρ (.tmp d) with | .bool b => b == want | _ => false)
    | none => false
def StpV (P : Program) (ops : Array Oper) (Φ : Nat → Value → World → Prop) (R : World → Prop) (i : Nat) (o : Oper) (ρ : Operand → Value) (u : World) : Prop :=
  (wantV ops o ρ = true ∧ ((∃ v u', (execOp ρ o).run P u = .ok (.value v) u' ∧ Φ i v u' ∧ R u' ∧ Below u.heap.size u u') ∨ (∃ f args, (execOp ρ o).run P u = .ok (.enter f args) u ∧ Calls P f args u fun e u' => ∃ v, e = .returned v ∧ Φ i v u' ∧ R u' ∧ Below u.heap.size u u')))
  ∨ (wantV ops o ρ = false ∧ Φ i undef u)
structure InvV (ops : Array Oper) (Φ : Nat → Value → World → Prop) (R : World → Prop) (a0 : Act) (l : Array Bool) (a : Act) (u : World) : Prop where
  r : R u
  ls : l.size = ops.size
  df : a.defers = a0.defers
  sz : a.tmps.size = a0.tmps.size
  old : ∀ s, (∀ i d, dstOf ops i = some d → l.getD i false = true → d ≠ s) → a.tmps.getD s undef = a0.tmps.getD s undef
  val : ∀ i d, dstOf ops i = some d → l.getD i false = true → Φ i (a.tmps.getD d undef) u
theorem dstB_of {ops : Array Oper} {n : Nat} (h : dstB ops n = true) {i : Nat} (hi : i < ops.size) : ∃ d, dstOf ops i = some d ∧ d < n ∧ ∀ j, j < ops.size → dstOf ops j = some d → j = i := by
  unfold dstB at h
  rw [List.all_eq_true] at h
  have h1 := h i (List.mem_range.2 hi)
  cases hd : dstOf ops i with
  | none => rw [hd] at h1; cases h1
  | some d =>
    rw [hd] at h1
    simp only [Bool.and_eq_true, decide_eq_true_eq, List.all_eq_true, Bool.or_eq_true] at h1
    refine ⟨d, rfl, h1.1, fun j hj e => ?_⟩
    rcases h1.2 j (List.mem_range.2 hj) with h2 | h2
    · exact h2
    · exact absurd e h2
theorem getD_set {l : Array Bool} {i j : Nat} (hi : i < l.size) : (l.setIfInBounds i true).getD j false = if j = i then true else l.getD j false := by
  simp only [Array.getD_eq_getD_getElem?, Array.getElem?_setIfInBounds]
  by_cases e : j = i
  · subst e; simp [hi]
  · rw [if_neg (Ne.symm e), if_neg e]
theorem getD_put {a : Act} {d s : Nat} {v : Value} (hd : d < a.tmps.size) : (a.put (some d) v).tmps.getD s undef = if s = d then v else a.tmps.getD s undef := by
  show (a.tmps.setIfInBounds d v).getD s undef = _
  simp only [Array.getD_eq_getD_getElem?, Array.getElem?_setIfInBounds]
  by_cases e : s = d
  · subst e; simp [hd]
  · rw [if_neg (Ne.symm e), if_neg e]
theorem InvV.next {ops : Array Oper} {Φ : Nat → Value → World → Prop} {R : World → Prop} {a0 : Act} {l : Array Bool} {a : Act} {u u' : World} (h : InvV ops Φ R a0 l a u) (hB : dstB ops a0.tmps.size = true)
    (hmono : ∀ i v u u', Φ i v u → Below u.heap.size u u' → Φ i v u') {i : Nat} {o : Oper} (ho : ops[i]? = some o) {v : Value} (hv : Φ i v u') (hr : R u') (hb : Below u.heap.size u u') :
    InvV ops Φ R a0 (l.setIfInBounds i true) (a.put o.dst v) u' := by
  have hi : i < ops.size := (Array.getElem?_eq_some_iff.1 ho).1
  obtain ⟨d, hd, hlt, hun⟩ := dstB_of hB hi
  have hod : o.dst = some d := by simpa [dstOf, ho] using hd
  rw [hod]
  have hlt' : d < a.tmps.size := by rw [h.sz]; exact hlt
  have hil : i < l.size := by rw [h.ls]; exact hi
  refine ⟨hr, by simpa using h.ls, h.df, by simpa [Act.put] using h.sz, fun s hs => ?_, fun j e hj hl => ?_⟩
  · have hne : d ≠ s := hs i d hd (by rw [getD_set hil, if_pos rfl])
    rw [getD_put hlt', if_neg (Ne.symm hne)]
    exact h.old s (fun j e hj hl => hs j e hj (by rw [getD_set hil]; split; rfl; exact hl))
  · have hjs : j < ops.size := by
      cases hoj : ops[j]? with
      | none => rw [dstOf, hoj] at hj; cases hj
      | some o' => exact (Array.getElem?_eq_some_iff.1 hoj).1
    rw [getD_put hlt']
    by_cases e1 : e = d
    · subst e1
      obtain rfl := hun j hjs hj
      rw [if_pos rfl]
      exact hv
    · rw [if_neg e1]
      have e2 : j ≠ i := fun e2 => by subst e2; rw [hd] at hj; exact e1 (Option.some.inj hj).symm
      rw [getD_set hil, if_neg e2] at hl
      exact hmono _ _ _ _ (h.val j e hj hl) hb
theorem putsL_eq {a : Act} : ∀ (os : List Oper) (k : Nat) (a' : Act) (vs : Nat → Value), a'.defers = a.defers → a'.tmps.size = a.tmps.size → (∀ (j : Nat) (o : Oper) (d : Nat), os[j]? = some o → o.dst = some d → vs (k + j) = a.tmps.getD d undef) →
    (∀ s, a'.tmps.getD s undef = a.tmps.getD s undef ∨ ∃ (j : Nat) (o : Oper), os[j]? = some o ∧ o.dst = some s) → (∀ (j : Nat) (o : Oper), os[j]? = some o → ∃ d, o.dst = some d ∧ d < a.tmps.size) → putsL a' k os vs = a
  | [], k, a', vs, h1, h2, _, h4, _ => by
    have e : a'.tmps = a.tmps := by
      apply Array.ext h2
      intro i hi1 hi2
      rcases h4 i with h | ⟨j, o, h, _⟩
      · simpa [Array.getD, hi1, hi2] using h
      · simp at h
    cases a'; cases a
    simp only at e h1
    subst e h1
    rfl
  | o :: os, k, a', vs, h1, h2, h3, h4, h5 => by
    obtain ⟨d, hd, hlt⟩ := h5 0 o rfl
    show putsL (a'.put o.dst (vs k)) (k + 1) os vs = a
    rw [hd]
    refine putsL_eq os (k + 1) _ vs h1 (by simpa [Act.put] using h2) (fun j o' d' ho hd' => by rw [show k + 1 + j = k + (j + 1) by omega]; exact h3 (j + 1) o' d' (by simpa using ho) hd') (fun s => ?_) (fun j o' ho => h5 (j + 1) o' (by simpa using ho))
    rw [getD_put (by rw [h2]; exact hlt)]
    by_cases e : s = d
    · subst e
      rw [if_pos rfl]
      exact .inl (by simpa using h3 0 o s rfl hd)
    · rw [if_neg e]
      rcases h4 s with h | ⟨j, o', ho, hd'⟩
      · exact .inl h
      · cases j with
        | zero => simp at ho; subst ho; rw [hd] at hd'; exact absurd (Option.some.inj hd').symm e
        | succ j => exact .inr ⟨j, o', by simpa using ho, hd'⟩
theorem wanted_eq {ops : Array Oper} {a : Act} {o : Oper} (h : ∀ j d, dstOf ops j = some d → d < a.tmps.size) : Region.wanted o (yielded ops a.tmps) = wantV ops o a.eval := by
  unfold Region.wanted wantV
  cases o.guard with
  | none => rfl
  | some p =>
    obtain ⟨j, want⟩ := p
    have hy : yielded ops a.tmps j = match dstOf ops j with
        | some d => (match a.eval (.tmp d) with | .bool b => some b | _ => none)
        | none => none := by
      unfold yielded dstOf
      cases hd : (ops[j]?).bind (·.dst) with
      | none => rfl
      | some d =>
        have hlt := h j d hd
        have e : (some d).bind (fun t => a.tmps[t]?) = some (a.eval (.tmp d)) := by
          show a.tmps[d]? = some (a.tmps.getD d undef)
          simp [Array.getD, hlt]
        rw [e]
        simp only
        generalize a.eval (.tmp d) = x
        cases x <;> rfl
    show (yielded ops a.tmps j == some want) = (match dstOf ops j with
      | some d => (match a.eval (.tmp d) with | .bool b => b == want | _ => false)
      | none => false)
    rw [hy]
    cases dstOf ops j with
    | none => rfl
    | some d =>
      simp only
      generalize a.eval (.tmp d) = x
      cases x <;> simp
theorem wpAny_vals {P : Program} {ops : Array Oper} {Q : Exit → Act → World → Prop} {md : Region.Mode} {a0 : Act} {w0 : World} (R : World → Prop) (Φ : Nat → Value → World → Prop)
    (hordB : ordB md ops = true) (hB : dstB ops a0.tmps.size = true) (hmono : ∀ i v u u', Φ i v u → Below u.heap.size u u' → Φ i v u') (h0 : R w0)
    (hend : ∀ (vs : Nat → Value) u, R u → (∀ i, i < ops.size → Φ i (vs i) u) → Q .normal (putsL a0 0 ops.toList vs) u)
    (hstep : ∀ u i o (ρ : Operand → Value), R u → ops[i]? = some o → (∀ s, isDst ops s = false → ρ (.tmp s) = a0.eval (.tmp s)) → (∀ v, ρ (.const v) = v) → (∀ f, ρ (.func f) = .func (.func f) #[] #[]) →
      (∀ e ∈ o.after, Region.binds md e = true → ∀ d, dstOf ops e.on = some d → Φ e.on (ρ (.tmp d)) u) → StpV P ops Φ R i o ρ u)
    (fuel : Nat) (l : Array Bool) (hs : l.size = ops.size) (hc : l.toList.count false ≤ fuel) (hl : ∀ i, l.getD i false = false) : wpAny P md ops Q fuel l a0 w0 := by
  refine wpAny_inv (InvV ops Φ R a0) hordB ?_ ?_ fuel l a0 w0 hs hc ?_
  · intro l a u h hall
    have hall' : ∀ i, i < ops.size → l.getD i false = true := fun i hi => by rw [getD_eq (by rw [h.ls]; exact hi) false true]; exact hall i hi
    have e : putsL a0 0 ops.toList (fun i => a.tmps.getD ((dstOf ops i).getD 0) undef) = a := by
      refine putsL_eq ops.toList 0 a0 _ h.df.symm h.sz.symm (fun j o d ho hd => ?_) (fun s => ?_) (fun j o ho => ?_)
      · rw [Nat.zero_add]
        have : dstOf ops j = some d := by rw [Array.getElem?_toList] at ho; simp [dstOf, ho, hd]
        show a.tmps.getD ((dstOf ops j).getD 0) undef = _
        rw [this]; rfl
      · by_cases hx : ∃ j d, dstOf ops j = some d ∧ l.getD j false = true ∧ d = s
        · obtain ⟨j, d, hd, _, rfl⟩ := hx
          right
          unfold dstOf at hd
          cases ho : ops[j]? with
          | none => rw [ho] at hd; cases hd
          | some o => rw [ho] at hd; exact ⟨j, o, by rw [Array.getElem?_toList]; exact ho, hd⟩
        · left
          exact (h.old s (fun i d hd hl e => hx ⟨i, d, hd, hl, e⟩)).symm
      · rw [Array.getElem?_toList] at ho
        have hi : j < ops.size := (Array.getElem?_eq_some_iff.1 ho).1
        obtain ⟨d, hd, hlt, _⟩ := dstB_of hB hi
        exact ⟨d, by simpa [dstOf, ho] using hd, by rw [h.sz]; exact hlt⟩
    rw [← e]
    refine hend _ u h.r (fun i hi => ?_)
    obtain ⟨d, hd, _, _⟩ := dstB_of hB hi
    show Φ i (a.tmps.getD ((dstOf ops i).getD 0) undef) u
    rw [hd]
    exact h.val i d hd (hall' i hi)
  · intro l a u i o h ho hli hdep K hK
    have hi : i < ops.size := (Array.getElem?_eq_some_iff.1 ho).1
    have hin : ∀ j d, dstOf ops j = some d → j < ops.size := fun j d hj => by
      unfold dstOf at hj
      cases hoj : ops[j]? with
      | none => rw [hoj] at hj; cases hj
      | some o' => exact (Array.getElem?_eq_some_iff.1 hoj).1
    have hw : Region.wanted o (yielded ops a.tmps) = wantV ops o a.eval := wanted_eq (fun j d hj => by
      obtain ⟨d', hd', hlt, _⟩ := dstB_of hB (hin j d hj)
      rw [hj] at hd'
      rw [h.sz, Option.some.inj hd']; exact hlt)
    have hst := hstep u i o a.eval h.r ho (fun s hns => by
      refine h.old s (fun j d hj _ e => ?_)
      subst e
      have : isDst ops d = true := by
        unfold isDst
        rw [List.any_eq_true]
        exact ⟨j, List.mem_range.2 (hin j d hj), by simp [hj]⟩
      rw [this] at hns; cases hns) (fun _ => rfl) (fun _ => rfl) (fun e he hb d hd => h.val e.on d hd (hdep e he hb))
    rcases hst with ⟨hwt, ⟨v, u', hrun, hv, hr, hbl⟩ | ⟨f, args, hrun, hcall⟩⟩ | ⟨hwf, hv⟩
    · rw [if_pos (by rw [hw]; exact hwt)]
      unfold Oper.wp
      rw [hrun]
      exact hK _ _ (h.next hB hmono ho hv hr hbl)
    · rw [if_pos (by rw [hw]; exact hwt)]
      unfold Oper.wp
      rw [hrun, Oper.upon_enter]
      refine hcall.mono ?_
      rintro e u' ⟨v, rfl, hv, hr, hbl⟩
      exact hK _ _ (h.next hB hmono ho hv hr hbl)
    · rw [if_neg (by rw [hw, hwf]; decide)]
      exact hK _ _ (h.next hB hmono ho hv h.r (Below.refl _ _))
  · exact ⟨h0, hs, rfl, rfl, fun _ _ => rfl, fun i d _ hl' => by rw [hl i] at hl'; cases hl'⟩
end Go.Proofs.Ytfdddkjonjpgpaa
namespace Go.Proofs.Ytfdddkjonjpgpaa
open Go.RowKit
theorem run_load_op {P : Program} {ρ : Operand → Value} {o : Oper} {u : World} {t : TypeId} {p : Operand} {ptr v : Value} (ho : o.op = .load t p) (hp : ρ p = ptr) (hr : (Instr.loadAt t ptr).run P u = .ok v u) : (execOp ρ o).run P u = .ok (.value v) u := by
  unfold execOp
  simp only [ho, hp]
  rw [Sem.run_bind, hr]
  rfl
theorem run_call_op {P : Program} {ρ : Operand → Value} {o : Oper} {u : World} {f : FuncId} {xs : Array Operand} {ts : Array TypeId} {args : Array Value} (ho : o.op = .call ⟨.value (.func f), xs, ts⟩) (hf : ρ (.func f) = .func (.func f) #[] #[]) (hx : xs.map ρ = args)
    (hc : (callFunc f args).run P u = .ok (.enter f args) u) : (execOp ρ o).run P u = .ok (.enter f args) u := by
  unfold execOp
  simp only [ho, resolve, hf, hx]
  show (callFunc f ((#[] ++ args) ++ #[])).run P u = _
  simpa using hc
end Go.Proofs.Ytfdddkjonjpgpaa
namespace Go.Proofs.Ytfdddkjonjpgpaa
open Go.RowKit
def dstC (ops : Array Oper) (n : Nat) : Bool :=
  (List.range ops.size).all fun i => match dstOf ops i with
    | some d => decide (d < n) && (List.range ops.size).all fun j => decide (j = i) || decide (dstOf ops j ≠ some d)
    | none => true
def updB (l : Nat → Bool) (i : Nat) : Nat → Bool := fun j => if j = i then true else l j
def StpW (P : Program) (ops : Array Oper) (Φ : Nat → Value → World → Prop) (R : World → Prop) (M : World → World → Prop) (i : Nat) (o : Oper) (ρ : Operand → Value) (u : World) : Prop :=
  (wantV ops o ρ = true ∧ ((∃ v u', (execOp ρ o).run P u = .ok (.value v) u' ∧ Φ i v u' ∧ R u' ∧ M u u') ∨ (∃ f args, (execOp ρ o).run P u = .ok (.enter f args) u ∧ Calls P f args u fun e u' => ∃ v, e = .returned v ∧ Φ i v u' ∧ R u' ∧ M u u') ∨ (o.dst = none ∧ ∃ u', (execOp ρ o).run P u = .ok .skip u' ∧ R u' ∧ M u u')))
  ∨ (wantV ops o ρ = false ∧ Φ i undef u ∧ R u)
structure InvW (md : Region.Mode) (ops : Array Oper) (Φ : Nat → Value → World → Prop) (R : (Nat → Bool) → World → Prop) (a0 : Act) (l : Array Bool) (a : Act) (u : World) : Prop where
  r : R (fun i => l.getD i false) u
  ls : l.size = ops.size
  df : a.defers = a0.defers
  sz : a.tmps.size = a0.tmps.size
  old : ∀ s, (∀ i d, dstOf ops i = some d → l.getD i false = true → d ≠ s) → a.tmps.getD s undef = a0.tmps.getD s undef
  val : ∀ i d, dstOf ops i = some d → l.getD i false = true → Φ i (a.tmps.getD d undef) u
  cl : ∀ i o, ops[i]? = some o → l.getD i false = true → ∀ e ∈ o.after, Region.binds md e = true → l.getD e.on false = true
theorem dstC_of {ops : Array Oper} {n : Nat} (h : dstC ops n = true) {i : Nat} (hi : i < ops.size) {d : Nat} (hd : dstOf ops i = some d) : d < n ∧ ∀ j, j < ops.size → dstOf ops j = some d → j = i := by
  unfold dstC at h
  rw [List.all_eq_true] at h
  have h1 := h i (List.mem_range.2 hi)
  rw [hd] at h1
  simp only [Bool.and_eq_true, decide_eq_true_eq, List.all_eq_true, Bool.or_eq_true] at h1
  refine ⟨h1.1, fun j hj e => ?_⟩
  rcases h1.2 j (List.mem_range.2 hj) with h2 | h2
  · exact h2
  · exact absurd e h2
theorem dstOf_lt {ops : Array Oper} {j d : Nat} (hj : dstOf ops j = some d) : j < ops.size := by
  unfold dstOf at hj
  cases hoj : ops[j]? with
  | none => rw [hoj] at hj; cases hj
  | some o' => exact (Array.getElem?_eq_some_iff.1 hoj).1
theorem getD_upd {l : Array Bool} {i : Nat} (hi : i < l.size) : (fun j => (l.setIfInBounds i true).getD j false) = updB (fun j => l.getD j false) i := by
  funext j
  exact getD_set hi
theorem putsL_eqW {a : Act} : ∀ (os : List Oper) (k : Nat) (a' : Act) (vs : Nat → Value), a'.defers = a.defers → a'.tmps.size = a.tmps.size → (∀ (j : Nat) (o : Oper) (d : Nat), os[j]? = some o → o.dst = some d → vs (k + j) = a.tmps.getD d undef) →
    (∀ s, a'.tmps.getD s undef = a.tmps.getD s undef ∨ ∃ (j : Nat) (o : Oper), os[j]? = some o ∧ o.dst = some s) → (∀ (j : Nat) (o : Oper) (d : Nat), os[j]? = some o → o.dst = some d → d < a.tmps.size) → putsL a' k os vs = a
  | [], k, a', vs, h1, h2, _, h4, _ => by
    have e : a'.tmps = a.tmps := by
      apply Array.ext h2
      intro i hi1 hi2
      rcases h4 i with h | ⟨j, o, h, _⟩
      · simpa [Array.getD, hi1, hi2] using h
      · simp at h
    cases a'; cases a
    simp only at e h1
    subst e h1
    rfl
  | o :: os, k, a', vs, h1, h2, h3, h4, h5 => by
    show putsL (a'.put o.dst (vs k)) (k + 1) os vs = a
    have h3' : ∀ (j : Nat) (o : Oper) (d : Nat), os[j]? = some o → o.dst = some d → vs (k + 1 + j) = a.tmps.getD d undef := fun j o' d' ho hd' => by rw [show k + 1 + j = k + (j + 1) by omega]; exact h3 (j + 1) o' d' (by simpa using ho) hd'
    have h5' : ∀ (j : Nat) (o : Oper) (d : Nat), os[j]? = some o → o.dst = some d → d < a.tmps.size := fun j o' d' ho hd' => h5 (j + 1) o' d' (by simpa using ho) hd'
    cases hd : o.dst with
    | none =>
      refine putsL_eqW os (k + 1) _ vs h1 h2 h3' (fun s => ?_) h5'
      rcases h4 s with h | ⟨j, o', ho, hd'⟩
      · exact .inl h
      · cases j with
        | zero => simp at ho; subst ho; rw [hd] at hd'; cases hd'
        | succ j => exact .inr ⟨j, o', by simpa using ho, hd'⟩
    | some d =>
      have hlt := h5 0 o d rfl hd
      refine putsL_eqW os (k + 1) _ vs h1 (by simpa [Act.put] using h2) h3' (fun s => ?_) h5'
      rw [getD_put (by rw [h2]; exact hlt)]
      by_cases e : s = d
      · subst e
        rw [if_pos rfl]
        exact .inl (by simpa using h3 0 o s rfl hd)
      · rw [if_neg e]
        rcases h4 s with h | ⟨j, o', ho, hd'⟩
        · exact .inl h
        · cases j with
          | zero => simp at ho; subst ho; rw [hd] at hd'; exact absurd (Option.some.inj hd').symm e
          | succ j => exact .inr ⟨j, o', by simpa using ho, hd'⟩
theorem run_index_op {P : Program} {ρ : Operand → Value} {o : Oper} {u : World} {t : TypeId} {x y : Operand} {a b v : Value} (ho : o.op = .indexAddr t x y) (ha : ρ x = a) (hb : ρ y = b) (hr : (Instr.indexAt t a b).run P u = .ok v u) : (execOp ρ o).run P u = .ok (.value v) u := by
  unfold execOp
  simp only [ho, ha, hb]
  rw [Sem.run_bind, hr]
  rfl
theorem run_store_op {P : Program} {ρ : Operand → Value} {o : Oper} {u u' : World} {t : TypeId} {x y : Operand} {a b : Value} (ho : o.op = .store t x y) (ha : ρ x = a) (hb : ρ y = b) (hr : (Instr.storeAt t a b).run P u = .ok () u') : (execOp ρ o).run P u = .ok .skip u' := by
  unfold execOp
  simp only [ho, ha, hb]
  rw [Sem.run_bind, hr]
  rfl
theorem run_un_op {P : Program} {ρ : Operand → Value} {o : Oper} {u : World} {op : UnOp} {t : TypeId} {x : Operand} {a v : Value} (ho : o.op = .unOp op t x) (ha : ρ x = a) (hr : (Op.unary op a).run P u = .ok v u) : (execOp ρ o).run P u = .ok (.value v) u := by
  unfold execOp
  simp only [ho, ha]
  rw [Sem.run_bind, hr]
  rfl
end Go.Proofs.Ytfdddkjonjpgpaa
namespace Go.Proofs.Ytfdddkjonjpgpaa
open Go.RowKit
def updS (σ : Nat → Value) (od : Option Nat) (v : Value) : Nat → Value := match od with
  | some d => fun s => if s = d then v else σ s
  | none => σ
def StpY (P : Program) (ops : Array Oper) (Φ : Nat → Value → World → Prop) (R : Value → World → Prop) (M : World → World → Prop) (i : Nat) (o : Oper) (ρ : Operand → Value) (u : World) : Prop :=
  (wantV ops o ρ = true ∧ ((∃ v u', (execOp ρ o).run P u = .ok (.value v) u' ∧ Φ i v u' ∧ R v u' ∧ M u u') ∨ (∃ f args, (execOp ρ o).run P u = .ok (.enter f args) u ∧ Calls P f args u fun e u' => ∃ v, e = .returned v ∧ Φ i v u' ∧ R v u' ∧ M u u') ∨ (o.dst = none ∧ ∃ u', (execOp ρ o).run P u = .ok .skip u' ∧ R undef u' ∧ M u u')))
  ∨ (wantV ops o ρ = false ∧ Φ i undef u ∧ R undef u)
structure InvY (md : Region.Mode) (ops : Array Oper) (Φ : Nat → Value → World → Prop) (R : (Nat → Bool) → (Nat → Value) → World → Prop) (a0 : Act) (l : Array Bool) (a : Act) (u : World) : Prop where
  r : R (fun i => l.getD i false) (fun s => a.tmps.getD s undef) u
  ls : l.size = ops.size
  df : a.defers = a0.defers
  sz : a.tmps.size = a0.tmps.size
  old : ∀ s, (∀ i d, dstOf ops i = some d → l.getD i false = true → d ≠ s) → a.tmps.getD s undef = a0.tmps.getD s undef
  val : ∀ i d, dstOf ops i = some d → l.getD i false = true → Φ i (a.tmps.getD d undef) u
  cl : ∀ i o, ops[i]? = some o → l.getD i false = true → ∀ e ∈ o.after, Region.binds md e = true → l.getD e.on false = true
theorem InvY.next {md : Region.Mode} {ops : Array Oper} {Φ : Nat → Value → World → Prop} {R : (Nat → Bool) → (Nat → Value) → World → Prop} {M : World → World → Prop} {a0 : Act} {l : Array Bool} {a : Act} {u u' : World} (h : InvY md ops Φ R a0 l a u) (hB : dstC ops a0.tmps.size = true)
    (hmono : ∀ i v u u', Φ i v u → M u u' → Φ i v u') {i : Nat} {o : Oper} (ho : ops[i]? = some o) (hdep : ∀ e ∈ o.after, Region.binds md e = true → l.getD e.on false = true) {v : Value} (hv : ∀ d, o.dst = some d → Φ i v u') (hr : R (updB (fun j => l.getD j false) i) (updS (fun s => a.tmps.getD s undef) o.dst v) u') (hb : M u u') :
    InvY md ops Φ R a0 (l.setIfInBounds i true) (a.put o.dst v) u' := by
  have hi : i < ops.size := (Array.getElem?_eq_some_iff.1 ho).1
  have hil : i < l.size := by rw [h.ls]; exact hi
  have hcl : ∀ j oj, ops[j]? = some oj → (l.setIfInBounds i true).getD j false = true → ∀ e ∈ oj.after, Region.binds md e = true → (l.setIfInBounds i true).getD e.on false = true := by
    intro j oj hoj hlj e he hbd
    rw [getD_set hil]
    split
    · rfl
    · rw [getD_set hil] at hlj
      by_cases e1 : j = i
      · subst e1
        rw [ho] at hoj
        cases hoj
        exact hdep e he hbd
      · rw [if_neg e1] at hlj
        exact h.cl j oj hoj hlj e he hbd
  rw [← getD_upd hil] at hr
  cases hod : o.dst with
  | none =>
    have hd : dstOf ops i = none := by simp [dstOf, ho, hod]
    rw [hod] at hr
    refine ⟨hr, by simpa using h.ls, h.df, h.sz, fun s hs => ?_, fun j e hj hl => ?_, hcl⟩
    · exact h.old s (fun j e hj hl => hs j e hj (by rw [getD_set hil]; split; rfl; exact hl))
    · have e2 : j ≠ i := fun e2 => by subst e2; rw [hd] at hj; cases hj
      rw [getD_set hil, if_neg e2] at hl
      exact hmono _ _ _ _ (h.val j e hj hl) hb
  | some d =>
    have hd : dstOf ops i = some d := by simp [dstOf, ho, hod]
    obtain ⟨hlt, hun⟩ := dstC_of hB hi hd
    have hlt' : d < a.tmps.size := by rw [h.sz]; exact hlt
    rw [hod] at hr
    have hr' : R (fun j => (l.setIfInBounds i true).getD j false) (fun s => (a.put (some d) v).tmps.getD s undef) u' := by
      have e9 : (fun s => (a.put (some d) v).tmps.getD s undef) = updS (fun s => a.tmps.getD s undef) (some d) v := by funext s; exact getD_put hlt'
      rw [e9]; exact hr
    refine ⟨hr', by simpa using h.ls, h.df, by simpa [Act.put] using h.sz, fun s hs => ?_, fun j e hj hl => ?_, hcl⟩
    · have hne : d ≠ s := hs i d hd (by rw [getD_set hil, if_pos rfl])
      rw [getD_put hlt', if_neg (Ne.symm hne)]
      exact h.old s (fun j e hj hl => hs j e hj (by rw [getD_set hil]; split; rfl; exact hl))
    · rw [getD_put hlt']
      by_cases e1 : e = d
      · subst e1
        obtain rfl := hun j (dstOf_lt hj) hj
        rw [if_pos rfl]
        exact hv _ hod
      · rw [if_neg e1]
        have e2 : j ≠ i := fun e2 => by subst e2; rw [hd] at hj; exact e1 (Option.some.inj hj).symm
        rw [getD_set hil, if_neg e2] at hl
        exact hmono _ _ _ _ (h.val j e hj hl) hb
theorem wpAny_valy {P : Program} {ops : Array Oper} {Q : Exit → Act → World → Prop} {md : Region.Mode} {a0 : Act} {w0 : World} (R : (Nat → Bool) → (Nat → Value) → World → Prop) (M : World → World → Prop) (Φ : Nat → Value → World → Prop)
    (hordB : ordB md ops = true) (hB : dstC ops a0.tmps.size = true) (hmono : ∀ i v u u', Φ i v u → M u u' → Φ i v u') (hM : ∀ u, M u u) (h0 : R (fun _ => false) (fun s => a0.tmps.getD s undef) w0)
    (hend : ∀ (vs : Nat → Value) (σ : Nat → Value) u, R (fun i => decide (i < ops.size)) σ u → (∀ i d, dstOf ops i = some d → vs i = σ d) → (∀ i d, dstOf ops i = some d → Φ i (vs i) u) → Q .normal (putsL a0 0 ops.toList vs) u)
    (hstep : ∀ u i o (ρ : Operand → Value) (l : Nat → Bool), R l (fun s => ρ (.tmp s)) u → ops[i]? = some o → l i = false → (∀ j oj, ops[j]? = some oj → l j = true → ∀ e ∈ oj.after, Region.binds md e = true → l e.on = true) →
      (∀ s, isDst ops s = false → ρ (.tmp s) = a0.eval (.tmp s)) → (∀ v, ρ (.const v) = v) → (∀ f, ρ (.func f) = .func (.func f) #[] #[]) →
      (∀ e ∈ o.after, Region.binds md e = true → l e.on = true) → (∀ j d, dstOf ops j = some d → l j = true → Φ j (ρ (.tmp d)) u) → StpY P ops Φ (fun v u' => R (updB l i) (updS (fun s => ρ (.tmp s)) o.dst v) u') M i o ρ u)
    (fuel : Nat) (l : Array Bool) (hs : l.size = ops.size) (hc : l.toList.count false ≤ fuel) (hl : ∀ i, l.getD i false = false) : wpAny P md ops Q fuel l a0 w0 := by
  refine wpAny_inv (InvY md ops Φ R a0) hordB ?_ ?_ fuel l a0 w0 hs hc ?_
  · intro l a u h hall
    have hall' : ∀ i, i < ops.size → l.getD i false = true := fun i hi => by rw [getD_eq (by rw [h.ls]; exact hi) false true]; exact hall i hi
    have e : putsL a0 0 ops.toList (fun i => a.tmps.getD ((dstOf ops i).getD 0) undef) = a := by
      refine putsL_eqW ops.toList 0 a0 _ h.df.symm h.sz.symm (fun j o d ho hd => ?_) (fun s => ?_) (fun j o d ho hd => ?_)
      · rw [Nat.zero_add]
        have : dstOf ops j = some d := by rw [Array.getElem?_toList] at ho; simp [dstOf, ho, hd]
        show a.tmps.getD ((dstOf ops j).getD 0) undef = _
        rw [this]; rfl
      · by_cases hx : ∃ j d, dstOf ops j = some d ∧ l.getD j false = true ∧ d = s
        · obtain ⟨j, d, hd, _, rfl⟩ := hx
          right
          unfold dstOf at hd
          cases ho : ops[j]? with
          | none => rw [ho] at hd; cases hd
          | some o => rw [ho] at hd; exact ⟨j, o, by rw [Array.getElem?_toList]; exact ho, hd⟩
        · left
          exact (h.old s (fun i d hd hl e => hx ⟨i, d, hd, hl, e⟩)).symm
      · rw [Array.getElem?_toList] at ho
        have hi : j < ops.size := (Array.getElem?_eq_some_iff.1 ho).1
        have hd' : dstOf ops j = some d := by simp [dstOf, ho, hd]
        rw [h.sz]
        exact (dstC_of hB hi hd').1
    rw [← e]
    refine hend _ (fun s => a.tmps.getD s undef) u ?_ (fun i d hd => by show a.tmps.getD ((dstOf ops i).getD 0) undef = _; rw [hd]; rfl) (fun i d hd => ?_)
    · have e2 : (fun i => l.getD i false) = (fun i => decide (i < ops.size)) := by
        funext i
        by_cases hi : i < ops.size
        · rw [hall' i hi]; simp [hi]
        · have : ¬ i < l.size := by rw [h.ls]; exact hi
          simp [Array.getD, hi, this]
      rw [← e2]
      exact h.r
    · show Φ i (a.tmps.getD ((dstOf ops i).getD 0) undef) u
      rw [hd]
      exact h.val i d hd (hall' i (dstOf_lt hd))
  · intro l a u i o h ho hli hdep K hK
    have hi : i < ops.size := (Array.getElem?_eq_some_iff.1 ho).1
    have hw : Region.wanted o (yielded ops a.tmps) = wantV ops o a.eval := wanted_eq (fun j d hj => by
      rw [h.sz]; exact (dstC_of hB (dstOf_lt hj) hj).1)
    have hst := hstep u i o a.eval (fun j => l.getD j false) h.r ho (by show l.getD i false = false; rw [getD_eq (by rw [h.ls]; exact hi) false true]; exact hli) (fun j oj hoj hlj e he hb => h.cl j oj hoj hlj e he hb) (fun s hns => by
      refine h.old s (fun j d hj _ e => ?_)
      subst e
      have : isDst ops d = true := by
        unfold isDst
        rw [List.any_eq_true]
        exact ⟨j, List.mem_range.2 (dstOf_lt hj), by simp [hj]⟩
      rw [this] at hns; cases hns) (fun _ => rfl) (fun _ => rfl) hdep (fun j d hd hlj => h.val j d hd hlj)
    rcases hst with ⟨hwt, ⟨v, u', hrun, hv, hr, hbl⟩ | ⟨f, args, hrun, hcall⟩ | ⟨hno, u', hrun, hr, hbl⟩⟩ | ⟨hwf, hv, hr⟩
    · rw [if_pos (by rw [hw]; exact hwt)]
      unfold Oper.wp
      rw [hrun]
      exact hK _ _ (h.next hB hmono ho hdep (fun _ _ => hv) hr hbl)
    · rw [if_pos (by rw [hw]; exact hwt)]
      unfold Oper.wp
      rw [hrun, Oper.upon_enter]
      refine hcall.mono ?_
      rintro e u' ⟨v, rfl, hv, hr, hbl⟩
      exact hK _ _ (h.next hB hmono ho hdep (fun _ _ => hv) hr hbl)
    · rw [if_pos (by rw [hw]; exact hwt)]
      unfold Oper.wp
      rw [hrun, Oper.upon_skip]
      exact hK _ _ (h.next hB hmono ho hdep (fun d hd => by rw [hno] at hd; cases hd) hr hbl)
    · rw [if_neg (by rw [hw, hwf]; decide)]
      exact hK _ _ (h.next hB hmono ho hdep (fun _ _ => hv) hr (hM u))
  · refine ⟨?_, hs, rfl, rfl, fun _ _ => rfl, fun i d _ hl' => (by rw [hl i] at hl'; cases hl'), fun i o _ hl' => (by rw [hl i] at hl'; cases hl')⟩
    rw [show (fun i => l.getD i false) = (fun _ => false) from funext hl]
    exact h0
end Go.Proofs.Ytfdddkjonjpgpaa
namespace Go.Proofs.Ytfdddkjonjpgpaa
open Go.RowKit Go.Joins
set_option linter.unusedVariables false
set_option linter.unusedSimpArgs false
theorem rangeAt_below {w u : World} {g o : Nat} {cs : List Value} (h : w.rangeAt g o cs) (hg : g < w.heap.size) (hb : Below w.heap.size w u) : u.rangeAt g o cs := fun j v hv => (hb.cell (p := ⟨g, o + j, none⟩) hg).trans (h j v hv)
theorem Blk.rng {w : World} {g : Nat} {t : TypeId} {l : List Value} (h : Blk w g t l.toArray) : w.rangeAt g 0 l := fun j v hv => by
  rw [Nat.zero_add]
  exact h.cell j (by simpa using hv)
end Go.Proofs.Ytfdddkjonjpgpaa
namespace Go.Proofs.Ytfdddkjonjpgpaa
open Go.RowKit Go.Joins
set_option linter.unusedVariables false
set_option linter.unusedSimpArgs false
set_option maxRecDepth 20000 in
set_option maxHeartbeats 8000000 in
theorem heldRespS_f (n : Nat) (f : Nat → VA) (a : Option Addr) (n' c s : Nat) (x : Int) (w : World) (hx : x = ((s : Nat) : Int)) (h : Rd w 0 (.list 6 n (fun i => trs (aT (nmVA (s + sumN i (fun i => ctVA (f i))) (f i))))) (.slice a n' c)) (hB : s + sumN n (fun i => ctVA (f i)) ≤ 1125899906842624) :
    Calls Try.prog 24 #[.slice a n' c, .int .i64 x] w fun e w' => e = .returned (.int .i64 ((s + sumN n (fun i => ctVA (f i)) : Nat) : Int)) ∧ w' = w := by
  subst hx
  obtain ⟨a9, c9, h9, -, hm⟩ := h.shape
  simp only [Value.slice.injEq] at h9
  obtain ⟨-, rfl, -⟩ := h9
  clear a9 c9
  unfold maxLen at hm
  have HH : Hid (Rd w 0 (.list 6 n' (fun i => trs (aT (nmVA (s + sumN i (fun i => ctVA (f i))) (f i))))) (.slice a n' c) ∧ s + sumN n' (fun i => ctVA (f i)) ≤ 1125899906842624) := ⟨h, hB⟩
  clear h hB
  go_enter Try.func24, Try.ntmps24
  go_wp2
  go_loopw [1, 5] (fun kv i wr => ∃ z : Nat, z ≤ n' ∧ i = .int .i64 z ∧ kv = .int .i64 ((s + sumN z (fun i => ctVA (f i)) : Nat) : Int) ∧ wr = w) (fun _ i _ => n' - (intOf i).toNat)
  case atStart => exact ⟨0, Nat.zero_le _, rfl, rfl, rfl⟩
  case round =>
    obtain ⟨z, hz, rfl, rfl, hw⟩ := hrel
    subst hw
    by_cases hlt : z < n'
    · have hi : (z : Int) < (n' : Int) := by omega
      obtain ⟨kk, hkk⟩ : ∃ kk, kk = s + sumN z (fun i => ctVA (f i)) := ⟨_, rfl⟩
      rw [← hkk]
      have HC : Hid (ctVA (f z) = 1 + 1 + 1 + 1 + (f z).ws.length + (f z).bs.length ∧ True) := ⟨rfl, trivial⟩
      have HK0 : Hid (kk = s + sumN z (fun i => ctVA (f i)) ∧ kk + ctVA (f z) ≤ 1125899906842624 ∧ s + sumN (z + 1) (fun i => ctVA (f i)) = kk + ctVA (f z)) := ⟨hkk, by have h7 := sumN_le (g := (fun i => ctVA (f i))) hlt; have h8 := HH.out.2; omega, by rw [hkk]; simp only [sumN]; omega⟩
      obtain ⟨b, off, vs, rfl, _, hb0, hlen, hr, hrd⟩ := HH.out.1.at hlt
      rw [← hkk] at hrd
      obtain ⟨a1, c1, a2, c2, rfl, r1, r2⟩ := VA.cells hrd hlen
      have HR : Hid (wr.rangeAt b (off + z * 6) (aL (nmVA kk (f z)) a1 ((nmVA kk (f z)).ws.length) c1 a2 ((nmVA kk (f z)).bs.length) c2) ∧ Rd wr 0 (intsT (nmVA kk (f z)).ws) (.slice a1 ((nmVA kk (f z)).ws.length) c1) ∧ Rd wr 0 (boolsT (nmVA kk (f z)).bs) (.slice a2 ((nmVA kk (f z)).bs.length) c2)) := ⟨hr, r1, r2⟩
      clear hlen hrd hr hb0 hkk r1 r2
      have d0 : wr.cell? ⟨b, off + z * 6, none⟩ = some (.int .i64 ((kk : Int))) := (HR.out.1 0 _ rfl).trans (congrArg (fun x => some (Value.int .i64 x)) (by show ((kk : Nat) : Int) = _; have := HC.out; have := HK0.out; omega))
      have v0 : IntKind.i64.wrap ((kk : Int) + 1) = (kk : Int) + 1 := by have := HC.out; have := HK0.out; rw [IntKind.wrap_i64]; omega
      have d1 : wr.cell? ⟨b, off + z * 6 + 1, none⟩ = some (.int .i64 ((kk : Int) + 1)) := (HR.out.1 1 _ rfl).trans (congrArg (fun x => some (Value.int .i64 x)) (by show ((kk + 1 : Nat) : Int) = _; have := HC.out; have := HK0.out; omega))
      have v1 : IntKind.i64.wrap ((kk : Int) + 1 + 1) = (kk : Int) + 2 := by have := HC.out; have := HK0.out; rw [IntKind.wrap_i64]; omega
      have d2 : wr.cell? ⟨b, off + z * 6 + 2, none⟩ = some (.int .i64 ((kk : Int) + 2)) := (HR.out.1 2 _ rfl).trans (congrArg (fun x => some (Value.int .i64 x)) (by show ((kk + 1 + 1 : Nat) : Int) = _; have := HC.out; have := HK0.out; omega))
      have v2 : IntKind.i64.wrap ((kk : Int) + 2 + 1) = (kk : Int) + 3 := by have := HC.out; have := HK0.out; rw [IntKind.wrap_i64]; omega
      have d3 : wr.cell? ⟨b, off + z * 6 + 3, none⟩ = some (.int .i64 ((kk : Int) + 3)) := (HR.out.1 3 _ rfl).trans (congrArg (fun x => some (Value.int .i64 x)) (by show ((kk + 1 + 1 + 1 : Nat) : Int) = _; have := HC.out; have := HK0.out; omega))
      have v3 : IntKind.i64.wrap ((kk : Int) + 3 + 1) = (kk : Int) + 4 := by have := HC.out; have := HK0.out; rw [IntKind.wrap_i64]; omega
      have d4 : wr.cell? ⟨b, off + z * 6 + 4, none⟩ = some (.slice a1 ((nmVA kk (f z)).ws.length) c1) := HR.out.1 4 _ rfl
      go_wp2_with fail
      refine (heldIntS_f (f z).ws.length a1 _ c1 (kk + 1 + 1 + 1 + 1) _ _ (by have := HC.out; have := HK0.out; omega) HR.out.2.1 (by have := HC.out; have := HK0.out; omega)).mono ?_
      rintro e w9 ⟨rfl, hw⟩
      have hw := hw.symm
      subst hw
      obtain ⟨k1, hk1⟩ : ∃ k1 : Nat, k1 = kk + 1 + 1 + 1 + 1 + (f z).ws.length := ⟨_, rfl⟩
      rw [← hk1]
      have HK1 : Hid (k1 = kk + 1 + 1 + 1 + 1 + (f z).ws.length) := hk1
      have nn1 : ¬ ((k1 : Int) < 0) := by omega
      clear hk1
      have d5 : wr.cell? ⟨b, off + z * 6 + 5, none⟩ = some (.slice a2 ((nmVA kk (f z)).bs.length) c2) := HR.out.1 5 _ rfl
      go_wp2_with fail
      refine (heldBoolS_f (f z).bs.length a2 _ c2 (kk + 1 + 1 + 1 + 1 + (f z).ws.length) _ _ (by have := HC.out; have := HK0.out; have := HK1.out; omega) HR.out.2.2 (by have := HC.out; have := HK0.out; have := HK1.out; omega)).mono ?_
      rintro e w9 ⟨rfl, hw⟩
      have hw := hw.symm
      subst hw
      obtain ⟨k2, hk2⟩ : ∃ k2 : Nat, k2 = kk + 1 + 1 + 1 + 1 + (f z).ws.length + (f z).bs.length := ⟨_, rfl⟩
      rw [← hk2]
      have HK2 : Hid (k2 = kk + 1 + 1 + 1 + 1 + (f z).ws.length + (f z).bs.length) := hk2
      have nn2 : ¬ ((k2 : Int) < 0) := by omega
      clear hk2
      have HZ : Hid ((k2 : Int) = ((s + sumN (z + 1) (fun i => ctVA (f i)) : Nat) : Int)) := by show _ = _; have := HC.out; have := HK0.out; have := HK1.out; have := HK2.out; omega
      go_wp2
      go_roundw
      case rel => exact ⟨z + 1, by omega, by go_num, congrArg (Value.int .i64) HZ.out, trivial⟩
      case measure => simp [intOf]; omega
    · have hi : ¬ (z : Int) < (n' : Int) := by omega
      have e9 : z = n' := by omega
      subst e9
      go_wp2
      go_ret
      exact ⟨rfl, rfl⟩
end Go.Proofs.Ytfdddkjonjpgpaa
namespace Go.Proofs.Ytfdddkjonjpgpaa
open Go.RowKit
set_option linter.unusedVariables false
abbrev dv (a1 a2 a3 a4 : Option Addr) (l1 l2 l3 l4 c1 c2 c3 c4 : Nat) : Value := .agg #[.slice a1 l1 c1, .slice a2 l2 c2, .slice a3 l3 c3, .slice a4 l4 c4]
theorem Blk.four {w : World} {g : Nat} {t : TypeId} {v0 v1 v2 v3 : Value} (h : Blk w g t #[v0, v1, v2, v3]) : w.cell? ⟨g, 0, none⟩ = some v0 ∧ w.cell? ⟨g, 1, none⟩ = some v1 ∧ w.cell? ⟨g, 2, none⟩ = some v2 ∧ w.cell? ⟨g, 3, none⟩ = some v3 :=
  ⟨h.cell 0 rfl, h.cell 1 rfl, h.cell 2 rfl, h.cell 3 rfl⟩
def SlD (w : World) (a1 a2 a3 a4 : Option Addr) (cs is : List Bool) (hs rs : List Int) : Prop := SlB w a1 cs ∧ SlB w a2 is ∧ SlI w a3 hs ∧ SlI w a4 rs
def LnD (l1 l2 l3 l4 : Nat) (cs is : List Bool) (hs rs : List Int) : Prop := l1 = cs.length ∧ l2 = is.length ∧ l3 = hs.length ∧ l4 = rs.length
def SmD (m : Nat) (cs is : List Bool) (hs rs : List Int) : Prop := cs.length ≤ m ∧ is.length ≤ m ∧ hs.length ≤ m ∧ rs.length ≤ m
def Df (v u : Value) : Prop := v.ownBlock = none ∨ u.ownBlock = none ∨ v.ownBlock ≠ u.ownBlock
theorem Df.symm {v u : Value} (h : Df v u) : Df u v := by
  rcases h with h | h | h
  · exact .inr (.inl h)
  · exact .inl h
  · exact .inr (.inr (fun e => h e.symm))
theorem Df.ne {v u : Value} (h : Df v u) : v.ownBlock = none ∨ v.ownBlock ≠ u.ownBlock := by
  rcases h with h | h | h
  · exact .inl h
  · cases e : v.ownBlock with
    | none => exact .inl rfl
    | some k => exact .inr (by rw [h]; simp)
  · exact .inr h
theorem Df.ofBase {w w' : World} {b1 b2 s1 s2 n1 n2 : Nat} {e1 e2 : TypeId} {v1 v2 : Value} {x1 x2 : List Value} (h1 : w.ownsRow b1 e1 s1 v1 n1 x1) (h2 : w'.ownsRow b2 e2 s2 v2 n2 x2) (hb : w.heap.size ≤ b2) : Df v1 v2 := by
  cases e : v1.ownBlock with
  | none => exact .inl e
  | some k =>
    refine .inr (.inr ?_)
    intro e2
    have q1 := (World.ownsRow.lt h1 k e).2
    have q2 := (World.ownsRow.lt h2 k (by rw [← e2]; exact e)).1
    omega
def OwnD (w : World) (B : Nat) (a1 a2 a3 a4 : Option Addr) (l1 l2 l3 l4 c1 c2 c3 c4 : Nat) (cs is : List Bool) (hs rs : List Int) : Prop :=
  OwnB w B (.slice a1 l1 c1) cs ∧ OwnB w B (.slice a2 l2 c2) is ∧ OwnI w B (.slice a3 l3 c3) hs ∧ OwnI w B (.slice a4 l4 c4) rs ∧ Df (.slice a1 l1 c1) (.slice a2 l2 c2) ∧ Df (.slice a3 l3 c3) (.slice a4 l4 c4)
theorem SlD.below {w w' : World} {a1 a2 a3 a4 : Option Addr} {cs is : List Bool} {hs rs : List Int} (h : SlD w a1 a2 a3 a4 cs is hs rs) (hb : Below w.heap.size w w') : SlD w' a1 a2 a3 a4 cs is hs rs :=
  ⟨h.1.below hb, h.2.1.below hb, h.2.2.1.below hb, h.2.2.2.below hb⟩
theorem OwnD.below {w w' : World} {B : Nat} {a1 a2 a3 a4 : Option Addr} {l1 l2 l3 l4 c1 c2 c3 c4 : Nat} {cs is : List Bool} {hs rs : List Int} (h : OwnD w B a1 a2 a3 a4 l1 l2 l3 l4 c1 c2 c3 c4 cs is hs rs) (hb : Below w.heap.size w w') : OwnD w' B a1 a2 a3 a4 l1 l2 l3 l4 c1 c2 c3 c4 cs is hs rs :=
  ⟨h.1.below hb, h.2.1.below hb, h.2.2.1.below hb, h.2.2.2.1.below hb, h.2.2.2.2⟩
theorem OwnD.sl {w : World} {B : Nat} {a1 a2 a3 a4 : Option Addr} {l1 l2 l3 l4 c1 c2 c3 c4 : Nat} {cs is : List Bool} {hs rs : List Int} (h : OwnD w B a1 a2 a3 a4 l1 l2 l3 l4 c1 c2 c3 c4 cs is hs rs) : LnD l1 l2 l3 l4 cs is hs rs ∧ SlD w a1 a2 a3 a4 cs is hs rs :=
  ⟨⟨h.1.sl.1, h.2.1.sl.1, h.2.2.1.sl.1, h.2.2.2.1.sl.1⟩, h.1.sl.2, h.2.1.sl.2, h.2.2.1.sl.2, h.2.2.2.1.sl.2⟩
theorem OwnD.mono {w : World} {B B' : Nat} {a1 a2 a3 a4 : Option Addr} {l1 l2 l3 l4 c1 c2 c3 c4 : Nat} {cs is : List Bool} {hs rs : List Int} (h : OwnD w B a1 a2 a3 a4 l1 l2 l3 l4 c1 c2 c3 c4 cs is hs rs) (hb : B' ≤ B) : OwnD w B' a1 a2 a3 a4 l1 l2 l3 l4 c1 c2 c3 c4 cs is hs rs :=
  ⟨h.1.mono hb, h.2.1.mono hb, h.2.2.1.mono hb, h.2.2.2.1.mono hb, h.2.2.2.2⟩
theorem bel_set4 {B : Nat} {W w : World} {g : Nat} {v0 v1 v2 v3 : Value} (hb : Below B W w) (hg : B ≤ g) : Below B W ((((w.setCell ⟨g, 0, none⟩ v0).setCell ⟨g, 1, none⟩ v1).setCell ⟨g, 2, none⟩ v2).setCell ⟨g, 3, none⟩ v3) :=
  (((hb.setCell (p := ⟨g, 0, none⟩) hg _).setCell (p := ⟨g, 1, none⟩) hg _).setCell (p := ⟨g, 2, none⟩) hg _).setCell (p := ⟨g, 3, none⟩) hg _
theorem row_set4 {w : World} {base size n g : Nat} {e t : TypeId} {v v0 v1 v2 v3 : Value} {xs : List Value} (h : w.ownsRow base e size v n xs) (hb : ExB w g t) (ht : t ≠ e) :
    ((((w.setCell ⟨g, 0, none⟩ v0).setCell ⟨g, 1, none⟩ v1).setCell ⟨g, 2, none⟩ v2).setCell ⟨g, 3, none⟩ v3).ownsRow base e size v n xs :=
  row_setE (row_setE (row_setE (row_setE h hb ht) (ExB.set hb) ht) (ExB.set (ExB.set hb)) ht) (ExB.set (ExB.set (ExB.set hb))) ht
theorem OwnD.set4 {w : World} {B g : Nat} {t : TypeId} {v0 v1 v2 v3 : Value} {a1 a2 a3 a4 : Option Addr} {l1 l2 l3 l4 c1 c2 c3 c4 : Nat} {cs is : List Bool} {hs rs : List Int} (h : OwnD w B a1 a2 a3 a4 l1 l2 l3 l4 c1 c2 c3 c4 cs is hs rs) (hb : ExB w g t) (h1 : t ≠ 4) (h2 : t ≠ 3) :
    OwnD ((((w.setCell ⟨g, 0, none⟩ v0).setCell ⟨g, 1, none⟩ v1).setCell ⟨g, 2, none⟩ v2).setCell ⟨g, 3, none⟩ v3) B a1 a2 a3 a4 l1 l2 l3 l4 c1 c2 c3 c4 cs is hs rs :=
  ⟨row_set4 h.1 hb h1, row_set4 h.2.1 hb h1, row_set4 h.2.2.1 hb h2, row_set4 h.2.2.2.1 hb h2, h.2.2.2.2⟩
set_option maxHeartbeats 2000000 in
theorem szDevice_at (a1 a2 a3 a4 : Option Addr) (l1 l2 l3 l4 c1 c2 c3 c4 : Nat) (m : Int) (w : World) (hm : m ≤ 1048576) (h : (l1 : Int) + (l2 : Int) + (l3 : Int) + (l4 : Int) ≤ m) :
    Calls Try.prog 12 #[.agg #[.slice a1 l1 c1, .slice a2 l2 c2, .slice a3 l3 c3, .slice a4 l4 c4], .int .i64 m] w fun e w' => e = .returned (.int .i64 (m - (l1 : Int) - (l2 : Int) - (l3 : Int) - (l4 : Int))) ∧ Below w.heap.size w w' := by
  have h1 : ¬ (m - (l1 : Int) < 0) := by omega
  have h2 : ¬ (m - (l1 : Int) - (l2 : Int) < 0) := by omega
  have h3 : ¬ (m - (l1 : Int) - (l2 : Int) - (l3 : Int) < 0) := by omega
  have h4 : ¬ (m - (l1 : Int) - (l2 : Int) - (l3 : Int) - (l4 : Int) < 0) := by omega
  go_enter Try.func12, Try.ntmps12
  go_wp2_with (first | (go_at_call 39; go_in) | (go_at_call 38; go_in))
  go_ret
  exact ⟨rfl, bel_alloc _ _⟩
set_option maxHeartbeats 4000000 in
theorem szDevice_over (a1 a2 a3 a4 : Option Addr) (l1 l2 l3 l4 c1 c2 c3 c4 : Nat) (m : Int) (w : World) (hm0 : 0 ≤ m) (hm : m ≤ 1048576) (q1 : l1 ≤ maxLen) (q2 : l2 ≤ maxLen) (q3 : l3 ≤ maxLen) (q4 : l4 ≤ maxLen) (h : ¬ (l1 : Int) + (l2 : Int) + (l3 : Int) + (l4 : Int) ≤ m) :
    Calls Try.prog 12 #[.agg #[.slice a1 l1 c1, .slice a2 l2 c2, .slice a3 l3 c3, .slice a4 l4 c4], .int .i64 m] w fun e w' => e = .returned (.int .i64 (-1)) ∧ Below w.heap.size w w' := by
  unfold maxLen at q1 q2 q3 q4
  by_cases h1 : m - (l1 : Int) < 0
  · go_enter Try.func12, Try.ntmps12
    go_wp2_with (first | (go_at_call 39; go_in) | (go_at_call 38; go_in))
    go_ret
    exact ⟨rfl, bel_alloc _ _⟩
  by_cases h2 : m - (l1 : Int) - (l2 : Int) < 0
  · go_enter Try.func12, Try.ntmps12
    go_wp2_with (first | (go_at_call 39; go_in) | (go_at_call 38; go_in))
    go_ret
    exact ⟨rfl, bel_alloc _ _⟩
  by_cases h3 : m - (l1 : Int) - (l2 : Int) - (l3 : Int) < 0
  · go_enter Try.func12, Try.ntmps12
    go_wp2_with (first | (go_at_call 39; go_in) | (go_at_call 38; go_in))
    go_ret
    exact ⟨rfl, bel_alloc _ _⟩
  have h4 : m - (l1 : Int) - (l2 : Int) - (l3 : Int) - (l4 : Int) < 0 := by omega
  go_enter Try.func12, Try.ntmps12
  go_wp2_with (first | (go_at_call 39; go_in) | (go_at_call 38; go_in))
  go_ret
  exact ⟨rfl, bel_alloc _ _⟩
set_option maxRecDepth 20000 in
set_option maxHeartbeats 8000000 in
theorem toDevice_any (a1 a2 a3 a4 : Option Addr) (l1 l2 l3 l4 c1 c2 c3 c4 : Nat) (cs is : List Bool) (hs rs : List Int) (w : World) (hn : LnD l1 l2 l3 l4 cs is hs rs) (hs0 : SlD w a1 a2 a3 a4 cs is hs rs) (hl : SmD 2000000 cs is hs rs) :
    Calls Try.prog 15 #[.agg #[.slice a1 l1 c1, .slice a2 l2 c2, .slice a3 l3 c3, .slice a4 l4 c4]] w fun e w' => ∃ g1 g2 g3 g4, e = .returned (.agg #[.slice (some ⟨g1, 0, none⟩) l1 l1, .slice (some ⟨g2, 0, none⟩) l2 l2, .slice (some ⟨g3, 0, none⟩) l3 l3, .slice (some ⟨g4, 0, none⟩) l4 l4]) ∧ OwnD w' w.heap.size (some ⟨g1, 0, none⟩) (some ⟨g2, 0, none⟩) (some ⟨g3, 0, none⟩) (some ⟨g4, 0, none⟩) l1 l2 l3 l4 l1 l2 l3 l4 cs is hs rs ∧ Below w.heap.size w w' := by
  obtain ⟨W0, hW0⟩ : ∃ W0, W0 = ((w.alloc (.cells #[.slice a1 l1 c1, .slice a2 l2 c2, .slice a3 l3 c3, .slice a4 l4 c4] 40)).alloc (.cells #[.slice none 0 0, .slice none 0 0, .slice none 0 0, .slice none 0 0] 27)).alloc (.cells #[.slice none 0 0, .slice none 0 0, .slice none 0 0, .slice none 0 0] 27) := ⟨_, rfl⟩
  have HW : Hid (W0 = _) := hW0
  have HN : Hid (LnD l1 l2 l3 l4 cs is hs rs) := hn
  have HL : Hid (SmD 2000000 cs is hs rs) := hl
  have hz : W0.heap.size = w.heap.size + 1 + 1 + 1 := by rw [hW0]; simp
  have b0 : Below w.heap.size w W0 := by rw [hW0]; exact bel_next (bel_next (bel_alloc w _) (bel_alloc _ _)) (bel_alloc _ _)
  have A0 : Blk W0 w.heap.size 40 #[.slice a1 l1 c1, .slice a2 l2 c2, .slice a3 l3 c3, .slice a4 l4 c4] := by rw [hW0]; exact ((Blk.new w _ _).below (bel_alloc _ _)).below (bel_alloc _ _)
  have R0 : Blk W0 (w.heap.size + 1) 27 #[.slice none 0 0, .slice none 0 0, .slice none 0 0, .slice none 0 0] := by
    rw [hW0]; have := (Blk.new (w.alloc (.cells #[.slice a1 l1 c1, .slice a2 l2 c2, .slice a3 l3 c3, .slice a4 l4 c4] 40)) #[.slice none 0 0, .slice none 0 0, .slice none 0 0, .slice none 0 0] 27).below (bel_alloc _ (.cells #[.slice none 0 0, .slice none 0 0, .slice none 0 0, .slice none 0 0] 27)); simpa using this
  have O0 : Blk W0 (w.heap.size + 1 + 1) 27 #[.slice none 0 0, .slice none 0 0, .slice none 0 0, .slice none 0 0] := by
    rw [hW0]; have := Blk.new ((w.alloc (.cells #[.slice a1 l1 c1, .slice a2 l2 c2, .slice a3 l3 c3, .slice a4 l4 c4] 40)).alloc (.cells #[.slice none 0 0, .slice none 0 0, .slice none 0 0, .slice none 0 0] 27)) #[.slice none 0 0, .slice none 0 0, .slice none 0 0, .slice none 0 0] 27; simpa using this
  have HS : Hid (SlD w a1 a2 a3 a4 cs is hs rs) := hs0
  clear hW0 hn hl hs0
  go_enter Try.func15, Try.ntmps15
  go_upto_region 2 with fail
  rw [← HW.out]
  have ca := A0.cell 0 rfl
  go_wp2_with fail
  refine (toBoolS_ok a1 l1 c1 cs _ HN.out.1 (HS.out.1.below b0) (by have := HL.out.1; omega)).mono ?_
  rintro e w1 ⟨g1, rfl, i1, b'⟩
  have b1 := bel_next b0 b'
  have A1 := A0.below b'
  have R1 := R0.below b'
  have O1 := O0.below b'
  have co := O1.cell 0 rfl
  have fo := O1.fro 0
  have A2 := A1.setNe (g' := w.heap.size + 1 + 1) (j := 0) (y := .slice (some ⟨g1, 0, none⟩) l1 l1) (by omega)
  have R2 := R1.setNe (g' := w.heap.size + 1 + 1) (j := 0) (y := .slice (some ⟨g1, 0, none⟩) l1 l1) (by omega)
  have O2 := O1.set 0 (.slice (some ⟨g1, 0, none⟩) l1 l1)
  have b2 := b1.setCell (p := ⟨w.heap.size + 1 + 1, 0, none⟩) (by show w.heap.size ≤ w.heap.size + 1 + 1; omega) (.slice (some ⟨g1, 0, none⟩) l1 l1)
  have r21 : OwnB _ _ (.slice (some ⟨g1, 0, none⟩) l1 l1) cs := row_set (j := 0) (y := .slice (some ⟨g1, 0, none⟩) l1 l1) i1 O1 (by decide)
  have HB : Hid (W0.heap.size ≤ w1.heap.size) := b'.size
  clear b' ca A0 R0 O0 A1 R1 O1 b0 b1 i1
  go_upto_region 3 with fail
  clear co fo
  obtain ⟨w2, hw2⟩ : ∃ x, x = w1.setCell ⟨w.heap.size + 1 + 1, 0, none⟩ (.slice (some ⟨g1, 0, none⟩) l1 l1) := ⟨_, rfl⟩
  have HZ1 : Hid (w.heap.size ≤ w2.heap.size) := by show w.heap.size ≤ w2.heap.size; rw [hw2]; exact b2.size
  simp only [← hw2] at r21 A2 R2 O2 b2 ⊢
  clear hw2 HB
  have ca := A2.cell 1 rfl
  go_wp2_with fail
  refine (toBoolS_ok a2 l2 c2 is _ HN.out.2.1 (HS.out.2.1.below b2) (by have := HL.out.2.1; omega)).mono ?_
  rintro e w3 ⟨g2, rfl, i2, b'⟩
  have b3 := bel_next b2 b'
  have A3 := A2.below b'
  have R3 := R2.below b'
  have O3 := O2.below b'
  have r21' := r21.below b'
  have D12 := Df.ofBase r21 i2 (Nat.le_refl _)
  have co := O3.cell 1 rfl
  have fo := O3.fro 1
  clear r21
  have A4 := A3.setNe (g' := w.heap.size + 1 + 1) (j := 1) (y := .slice (some ⟨g2, 0, none⟩) l2 l2) (by omega)
  have R4 := R3.setNe (g' := w.heap.size + 1 + 1) (j := 1) (y := .slice (some ⟨g2, 0, none⟩) l2 l2) (by omega)
  have O4 := O3.set 1 (.slice (some ⟨g2, 0, none⟩) l2 l2)
  have b4 := b3.setCell (p := ⟨w.heap.size + 1 + 1, 1, none⟩) (by show w.heap.size ≤ w.heap.size + 1 + 1; omega) (.slice (some ⟨g2, 0, none⟩) l2 l2)
  have r41 : OwnB _ _ (.slice (some ⟨g1, 0, none⟩) l1 l1) cs := row_set (j := 1) (y := .slice (some ⟨g2, 0, none⟩) l2 l2) r21' O3 (by decide)
  have r42 : OwnB _ _ (.slice (some ⟨g2, 0, none⟩) l2 l2) is := row_set (j := 1) (y := .slice (some ⟨g2, 0, none⟩) l2 l2) i2 O3 (by decide)
  have HB : Hid (w2.heap.size ≤ w3.heap.size) := b'.size
  clear b' ca A2 R2 O2 A3 R3 O3 b2 b3 i2 r21'
  go_upto_region 4 with fail
  clear co fo
  obtain ⟨w4, hw4⟩ : ∃ x, x = w3.setCell ⟨w.heap.size + 1 + 1, 1, none⟩ (.slice (some ⟨g2, 0, none⟩) l2 l2) := ⟨_, rfl⟩
  have HZ2 : Hid (w.heap.size ≤ w4.heap.size) := by show w.heap.size ≤ w4.heap.size; rw [hw4]; exact b4.size
  simp only [← hw4] at r41 r42 A4 R4 O4 b4 ⊢
  clear hw4 HB
  have ca := A4.cell 2 rfl
  go_wp2_with fail
  refine (toIntS_ok a3 l3 c3 hs _ HN.out.2.2.1 (HS.out.2.2.1.below b4) (by have := HL.out.2.2.1; omega)).mono ?_
  rintro e w5 ⟨g3, rfl, i3, b'⟩
  have b5 := bel_next b4 b'
  have A5 := A4.below b'
  have R5 := R4.below b'
  have O5 := O4.below b'
  have r41' := r41.below b'
  have r42' := r42.below b'
  have D13 := Df.ofBase r41 i3 (Nat.le_refl _)
  have D23 := Df.ofBase r42 i3 (Nat.le_refl _)
  have co := O5.cell 2 rfl
  have fo := O5.fro 2
  clear r41 r42
  have A6 := A5.setNe (g' := w.heap.size + 1 + 1) (j := 2) (y := .slice (some ⟨g3, 0, none⟩) l3 l3) (by omega)
  have R6 := R5.setNe (g' := w.heap.size + 1 + 1) (j := 2) (y := .slice (some ⟨g3, 0, none⟩) l3 l3) (by omega)
  have O6 := O5.set 2 (.slice (some ⟨g3, 0, none⟩) l3 l3)
  have b6 := b5.setCell (p := ⟨w.heap.size + 1 + 1, 2, none⟩) (by show w.heap.size ≤ w.heap.size + 1 + 1; omega) (.slice (some ⟨g3, 0, none⟩) l3 l3)
  have r61 : OwnB _ _ (.slice (some ⟨g1, 0, none⟩) l1 l1) cs := row_set (j := 2) (y := .slice (some ⟨g3, 0, none⟩) l3 l3) r41' O5 (by decide)
  have r62 : OwnB _ _ (.slice (some ⟨g2, 0, none⟩) l2 l2) is := row_set (j := 2) (y := .slice (some ⟨g3, 0, none⟩) l3 l3) r42' O5 (by decide)
  have r63 : OwnI _ _ (.slice (some ⟨g3, 0, none⟩) l3 l3) hs := row_set (j := 2) (y := .slice (some ⟨g3, 0, none⟩) l3 l3) i3 O5 (by decide)
  have HB : Hid (w4.heap.size ≤ w5.heap.size) := b'.size
  clear b' ca A4 R4 O4 A5 R5 O5 b4 b5 i3 r41' r42'
  go_upto_region 5 with fail
  clear co fo
  obtain ⟨w6, hw6⟩ : ∃ x, x = w5.setCell ⟨w.heap.size + 1 + 1, 2, none⟩ (.slice (some ⟨g3, 0, none⟩) l3 l3) := ⟨_, rfl⟩
  have HZ3 : Hid (w.heap.size ≤ w6.heap.size) := by show w.heap.size ≤ w6.heap.size; rw [hw6]; exact b6.size
  simp only [← hw6] at r61 r62 r63 A6 R6 O6 b6 ⊢
  clear hw6 HB
  have ca := A6.cell 3 rfl
  go_wp2_with fail
  refine (toIntS_ok a4 l4 c4 rs _ HN.out.2.2.2 (HS.out.2.2.2.below b6) (by have := HL.out.2.2.2; omega)).mono ?_
  rintro e w7 ⟨g4, rfl, i4, b'⟩
  have b7 := bel_next b6 b'
  have A7 := A6.below b'
  have R7 := R6.below b'
  have O7 := O6.below b'
  have r61' := r61.below b'
  have r62' := r62.below b'
  have r63' := r63.below b'
  have D14 := Df.ofBase r61 i4 (Nat.le_refl _)
  have D24 := Df.ofBase r62 i4 (Nat.le_refl _)
  have D34 := Df.ofBase r63 i4 (Nat.le_refl _)
  have co := O7.cell 3 rfl
  have fo := O7.fro 3
  clear r61 r62 r63
  obtain ⟨o0, o1, o2, o3⟩ := O7.four
  obtain ⟨r0, r1, r2, r3⟩ := R7.four
  have fo := O7.fro
  have fr := R7.fro
  have eO : ExB w7 (w.heap.size + 1 + 1) 27 := ⟨_, O7⟩
  have eR : ExB w7 (w.heap.size + 1) 27 := ⟨_, R7⟩
  have HH : Hid ((OwnB w7 W0.heap.size (.slice (some ⟨g1, 0, none⟩) l1 l1) cs ∧ OwnB w7 w2.heap.size (.slice (some ⟨g2, 0, none⟩) l2 l2) is ∧ OwnI w7 w4.heap.size (.slice (some ⟨g3, 0, none⟩) l3 l3) hs ∧ OwnI w7 w6.heap.size (.slice (some ⟨g4, 0, none⟩) l4 l4) rs) ∧ Below w.heap.size w w7 ∧ ExB w7 (w.heap.size + 1 + 1) 27 ∧ ExB w7 (w.heap.size + 1) 27 ∧ Df (.slice (some ⟨g1, 0, none⟩) l1 l1) (.slice (some ⟨g2, 0, none⟩) l2 l2) ∧ Df (.slice (some ⟨g3, 0, none⟩) l3 l3) (.slice (some ⟨g4, 0, none⟩) l4 l4) ∧ w.heap.size ≤ W0.heap.size) := ⟨⟨r61', r62', r63', i4⟩, b7, eO, eR, D12, D34, by omega⟩
  clear A6 R6 O6 A7 R7 O7 b6 b7 b' co ca eO eR i4 D12 D34 D13 D23 D14 D24 r61' r62' r63'
  go_wp2
  refine bodyPost_ret (v := .agg #[.slice (some ⟨g1, 0, none⟩) l1 l1, .slice (some ⟨g2, 0, none⟩) l2 l2, .slice (some ⟨g3, 0, none⟩) l3 l3, .slice (some ⟨g4, 0, none⟩) l4 l4]) (by simp [results, Try.results15, go_sem, r0, r1, r2, r3]) rfl ?_
  obtain ⟨⟨p1, p2, p3, p4⟩, b7, eO, eR, d12, d34, hz0⟩ := HH.out
  have hz2 := HZ1.out
  have hz4 := HZ2.out
  have hz6 := HZ3.out
  refine ⟨g1, g2, g3, g4, rfl, ⟨?_, ?_, ?_, ?_, d12, d34⟩, ?_⟩
  · exact OwnB.mono (show OwnB _ _ _ _ from row_set4 (row_setE p1 eO (by decide)) (ExB.set eR) (by decide)) (by omega)
  · exact OwnB.mono (show OwnB _ _ _ _ from row_set4 (row_setE p2 eO (by decide)) (ExB.set eR) (by decide)) (by omega)
  · exact OwnI.mono (show OwnI _ _ _ _ from row_set4 (row_setE p3 eO (by decide)) (ExB.set eR) (by decide)) (by omega)
  · exact OwnI.mono (show OwnI _ _ _ _ from row_set4 (row_setE p4 eO (by decide)) (ExB.set eR) (by decide)) (by omega)
  · exact bel_set4 (b7.setCell (p := ⟨w.heap.size + 1 + 1, 3, none⟩) (by show w.heap.size ≤ w.heap.size + 1 + 1; omega) _) (by omega)
set_option maxRecDepth 20000 in
set_option maxHeartbeats 4000000 in
theorem eqDevice_true (a1 a2 a3 a4 : Option Addr) (l1 l2 l3 l4 c1 c2 c3 c4 : Nat) (x1 x2 x3 x4 : Option Addr) (m1 m2 m3 m4 d1 d2 d3 d4 : Nat) (cs is : List Bool) (hs rs : List Int) (w : World) (hn : LnD l1 l2 l3 l4 cs is hs rs) (hm : LnD m1 m2 m3 m4 cs is hs rs) (hs0 : SlD w a1 a2 a3 a4 cs is hs rs) (hx0 : SlD w x1 x2 x3 x4 cs is hs rs) (hl : SmD 2000000 cs is hs rs) :
    Calls Try.prog 17 #[.agg #[.slice a1 l1 c1, .slice a2 l2 c2, .slice a3 l3 c3, .slice a4 l4 c4], .agg #[.slice x1 m1 d1, .slice x2 m2 d2, .slice x3 m3 d3, .slice x4 m4 d4]] w fun e w' => e = .returned (.bool true) ∧ Below w.heap.size w w' := by
  obtain ⟨W0, hW0⟩ : ∃ W0, W0 = (w.alloc (.cells #[.slice a1 l1 c1, .slice a2 l2 c2, .slice a3 l3 c3, .slice a4 l4 c4] 27)).alloc (.cells #[.slice x1 m1 d1, .slice x2 m2 d2, .slice x3 m3 d3, .slice x4 m4 d4] 27) := ⟨_, rfl⟩
  have HW : Hid (W0 = _) := hW0
  have b0 : Below w.heap.size w W0 := by rw [hW0]; exact bel_next (bel_alloc w _) (bel_alloc _ _)
  have X0 : Blk W0 w.heap.size 27 #[.slice a1 l1 c1, .slice a2 l2 c2, .slice a3 l3 c3, .slice a4 l4 c4] := by rw [hW0]; exact (Blk.new w _ _).below (bel_alloc _ _)
  have Y0 : Blk W0 (w.heap.size + 1) 27 #[.slice x1 m1 d1, .slice x2 m2 d2, .slice x3 m3 d3, .slice x4 m4 d4] := by rw [hW0]; have := Blk.new (w.alloc (.cells #[.slice a1 l1 c1, .slice a2 l2 c2, .slice a3 l3 c3, .slice a4 l4 c4] 27)) #[.slice x1 m1 d1, .slice x2 m2 d2, .slice x3 m3 d3, .slice x4 m4 d4] 27; simpa using this
  have HS : Hid (LnD l1 l2 l3 l4 cs is hs rs ∧ LnD m1 m2 m3 m4 cs is hs rs ∧ SlD w a1 a2 a3 a4 cs is hs rs ∧ SlD w x1 x2 x3 x4 cs is hs rs ∧ SmD 2000000 cs is hs rs) := ⟨hn, hm, hs0, hx0, hl⟩
  clear hn hm hs0 hx0 hl hW0
  go_enter Try.func17, Try.ntmps17
  go_upto_region 1 with fail
  rw [← HW.out]
  have cx := X0.cell 0 rfl
  have cy := Y0.cell 0 rfl
  go_wp2_with fail
  refine (eqBoolS_ok _ _ _ _ _ _ cs _ HS.out.1.1 HS.out.2.1.1 (HS.out.2.2.1.1.below b0) (HS.out.2.2.2.1.1.below b0) (by have := HS.out.2.2.2.2.1; omega)).mono ?_
  rintro e w1 ⟨rfl, b'⟩
  have b1 := bel_next b0 b'
  have X1 := X0.below b'
  have Y1 := Y0.below b'
  clear cx cy X0 Y0 b0 b'
  have cx := X1.cell 1 rfl
  have cy := Y1.cell 1 rfl
  go_wp2_with fail
  refine (eqBoolS_ok _ _ _ _ _ _ is _ HS.out.1.2.1 HS.out.2.1.2.1 (HS.out.2.2.1.2.1.below b1) (HS.out.2.2.2.1.2.1.below b1) (by have := HS.out.2.2.2.2.2.1; omega)).mono ?_
  rintro e w2 ⟨rfl, b'⟩
  have b2 := bel_next b1 b'
  have X2 := X1.below b'
  have Y2 := Y1.below b'
  clear cx cy X1 Y1 b1 b'
  have cx := X2.cell 2 rfl
  have cy := Y2.cell 2 rfl
  go_wp2_with fail
  refine (eqIntS_ok _ _ _ _ _ _ hs _ HS.out.1.2.2.1 HS.out.2.1.2.2.1 (HS.out.2.2.1.2.2.1.below b2) (HS.out.2.2.2.1.2.2.1.below b2) (by have := HS.out.2.2.2.2.2.2.1; omega)).mono ?_
  rintro e w3 ⟨rfl, b'⟩
  have b3 := bel_next b2 b'
  have X3 := X2.below b'
  have Y3 := Y2.below b'
  clear cx cy X2 Y2 b2 b'
  have cx := X3.cell 3 rfl
  have cy := Y3.cell 3 rfl
  go_wp2_with fail
  refine (eqIntS_ok _ _ _ _ _ _ rs _ HS.out.1.2.2.2 HS.out.2.1.2.2.2 (HS.out.2.2.1.2.2.2.below b3) (HS.out.2.2.2.1.2.2.2.below b3) (by have := HS.out.2.2.2.2.2.2.2; omega)).mono ?_
  rintro e w4 ⟨rfl, b'⟩
  have b4 := bel_next b3 b'
  have X4 := X3.below b'
  have Y4 := Y3.below b'
  clear cx cy X3 Y3 b3 b'
  go_wp2
  go_ret
  exact ⟨rfl, b4⟩
end Go.Proofs.Ytfdddkjonjpgpaa
