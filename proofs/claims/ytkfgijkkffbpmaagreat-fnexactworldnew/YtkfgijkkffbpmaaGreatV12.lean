/- Texts that the proof needs, joined: Mk2. -/
import Derived.Test.YtkfgijkkffbpmaaGreatV2
set_option linter.unusedVariables false
set_option linter.unusedSimpArgs false
set_option maxHeartbeats 8000000
set_option maxRecDepth 20000
namespace Go.Proofs.YtkfgijkkffbpmaaGreat
open Go.RowKit Go.Joins
theorem markRespS_f (n : Nat) (f : Nat -> VA) (a : Option Addr) (n' c s : Nat) (x : Int) (K : Sk) (w : World) (hx : x = ((s : Nat) : Int)) (h : Fit w (.list 6 n (fun i => trs (aT (f i)))) K (.slice a n' c)) (hok : K.ok) (hB : s + sumN n (fun i => ctVA (f i)) <= 1125899906842624) :
 Calls Tryz.prog 149 #[.slice a n' c, .int .i64 x] w fun e w' => e = .returned (.int .i64 ((s + sumN n (fun i => ctVA (f i)) : Nat) : Int)) /\ Fit w' (.list 6 n (fun i => trs (aT (nmVA (s + sumN i (fun i => ctVA (f i))) (f i))))) K (.slice a n' c) /\ Cg w w' K.bl := by
 subst hx
 obtain ⟨rfl, hc1, hm⟩ := h.len
 unfold maxLen at hm
 have HE : Hid (∀ w', Fit w' (.list 6 n' (fun i => trs (aT (if i < n' then nmVA (s + sumN i (fun i => ctVA (f i))) (f i) else f i)))) K (.slice a n' c) -> Fit w' (.list 6 n' (fun i => trs (aT (nmVA (s + sumN i (fun i => ctVA (f i))) (f i))))) K (.slice a n' c)) := by
  show ∀ w', _
  intro w' h9
  exact h9.congr (fun k j hk hj => by simp only [if_pos hk])
 have h1 : Fit w (.list 6 n' (fun i => trs (aT (if i < 0 then nmVA (s + sumN i (fun i => ctVA (f i))) (f i) else f i)))) K (.slice a n' c) := h.congr (fun k j hk hj => by simp)
 clear h
 by_cases h0 : n' = 0
 ·subst h0
  have h2 := HE.out w h1
  clear h1
  go_enter Tryz.func149, Tryz.ntmps149
  go_wp2
  refine wp_loop_rounds 1 ?_
  rw [rounds_succ]
  go_wp2
  go_ret
  exact ⟨rfl, h2, Cg.refl _ _⟩
 obtain ⟨g, off, K', rfl, rfl, -, -, -, hg, -⟩ := h1.row (by omega)
 have HH : Hid (Fit w (.list 6 n' (fun i => trs (aT (if i < 0 then nmVA (s + sumN i (fun i => ctVA (f i))) (f i) else f i)))) (.row g off 6 n' K') (.slice (some ⟨g, off, none⟩) n' c) /\ (Sk.row g off 6 n' K').ok /\ s + sumN n' (fun i => ctVA (f i)) <= 1125899906842624) := ⟨h1, hok, hB⟩
 clear h1 hok hB
 go_enter Tryz.func149, Tryz.ntmps149
 go_wp2
 go_loopw [1, 5] (fun kv i wr => ∃ z : Nat, z <= n' /\ i = .int .i64 z /\ kv = .int .i64 ((s + sumN z (fun i => ctVA (f i)) : Nat) : Int) /\ Fit wr (.list 6 n' (fun i => trs (aT (if i < z then nmVA (s + sumN i (fun i => ctVA (f i))) (f i) else f i)))) (.row g off 6 n' K') (.slice (some ⟨g, off, none⟩) n' c) /\ Cg w wr (Sk.row g off 6 n' K').bl) (fun _ i _ => n' - (intOf i).toNat)
 case atStart => exact ⟨0, Nat.zero_le _, rfl, rfl, HH.out.1, Cg.refl _ _⟩
 case round =>
  obtain ⟨z, hz, rfl, rfl, hF, hC⟩ := hrel
  by_cases hlt : z < n'
  ·have hi : (z : Int) < (n' : Int) := by omega
   obtain ⟨kk, hkk⟩ : ∃ kk, kk = s + sumN z (fun i => ctVA (f i)) := ⟨_, rfl⟩
   rw [<- hkk]
   have HC : Hid (ctVA (f z) = 1 + 1 + 1 + 1 + (f z).ws.length + (f z).bs.length /\ True) := ⟨rfl, trivial⟩
   have HK0 : Hid (kk = s + sumN z (fun i => ctVA (f i)) /\ kk + ctVA (f z) <= 1125899906842624 /\ s + sumN (z + 1) (fun i => ctVA (f i)) = kk + ctVA (f z)) := ⟨hkk, by have h7 := sumN_le (g := (fun i => ctVA (f i))) hlt; have h8 := HH.out.2.2; omega, by rw [hkk]; simp only [sumN]; omega⟩
   obtain ⟨T0, hT0⟩ : ∃ T0 : Nat -> Nat -> Tr, T0 = (fun i => trs (aT (if i < z then nmVA (s + sumN i (fun i => ctVA (f i))) (f i) else f i))) := ⟨_, rfl⟩
   rw [<- hT0] at hF
   have F0 := hF.toZ (z := z) (L := [.leaf (.int .i64 (f z).kd), .leaf (.int .i64 (f z).fl), .leaf (.int .i64 (f z).pl), .leaf (.int .i64 (f z).n), intsT (f z).ws, boolsT (f z).bs]) (fun j hj => by rw [hT0]; simp only [if_neg (Nat.lt_irrefl z)]; rfl)
   have HT : Hid (T0 = (fun i => trs (aT (if i < z then nmVA (s + sumN i (fun i => ctVA (f i))) (f i) else f i)))) := hT0
   have G0 : Hid (Fit wr (.list 6 n' (atZ z [.leaf (.int .i64 (f z).kd), .leaf (.int .i64 (f z).fl), .leaf (.int .i64 (f z).pl), .leaf (.int .i64 (f z).n), intsT (f z).ws, boolsT (f z).bs] T0)) (.row g off 6 n' K') (.slice (some ⟨g, off, none⟩) n' c) /\ Cg w wr (Sk.row g off 6 n' K').bl) := ⟨F0, hC⟩
   clear hF hC F0 hT0 hkk
   obtain ⟨u0, q0, -⟩ := G0.out.1.cellZ hlt 0 (by decide)
   have e0 : wr.cell? ⟨g, off + z * 6, none⟩ = some u0 := q0
   clear q0
   have f0 := G0.out.1.fro (off + z * 6)
   obtain ⟨u1, q1, -⟩ := G0.out.1.cellZ hlt 1 (by decide)
   have e1 : wr.cell? ⟨g, off + z * 6 + 1, none⟩ = some u1 := q1
   clear q1
   have f1 := G0.out.1.fro (off + z * 6 + 1)
   obtain ⟨u2, q2, -⟩ := G0.out.1.cellZ hlt 2 (by decide)
   have e2 : wr.cell? ⟨g, off + z * 6 + 2, none⟩ = some u2 := q2
   clear q2
   have f2 := G0.out.1.fro (off + z * 6 + 2)
   obtain ⟨u3, q3, -⟩ := G0.out.1.cellZ hlt 3 (by decide)
   have e3 : wr.cell? ⟨g, off + z * 6 + 3, none⟩ = some u3 := q3
   clear q3
   have f3 := G0.out.1.fro (off + z * 6 + 3)
   have v0 : IntKind.i64.wrap ((kk : Int) + 1) = (kk : Int) + 1 := by have := HC.out; have := HK0.out; rw [IntKind.wrap_i64]; omega
   have v1 : IntKind.i64.wrap ((kk : Int) + 1 + 1) = (kk : Int) + 2 := by have := HC.out; have := HK0.out; rw [IntKind.wrap_i64]; omega
   have v2 : IntKind.i64.wrap ((kk : Int) + 2 + 1) = (kk : Int) + 3 := by have := HC.out; have := HK0.out; rw [IntKind.wrap_i64]; omega
   have v3 : IntKind.i64.wrap ((kk : Int) + 3 + 1) = (kk : Int) + 4 := by have := HC.out; have := HK0.out; rw [IntKind.wrap_i64]; omega
   have G1 : Hid (Fit ((((wr.setCell ⟨g, off + z * 6, none⟩ (.int .i64 ((kk : Int)))).setCell ⟨g, off + z * 6 + 1, none⟩ (.int .i64 ((kk : Int) + 1))).setCell ⟨g, off + z * 6 + 2, none⟩ (.int .i64 ((kk : Int) + 2))).setCell ⟨g, off + z * 6 + 3, none⟩ (.int .i64 ((kk : Int) + 3))) (.list 6 n' (atZ z [.leaf (.int .i64 ((kk : Nat) : Int)), .leaf (.int .i64 ((kk + 1 : Nat) : Int)), .leaf (.int .i64 ((kk + 1 + 1 : Nat) : Int)), .leaf (.int .i64 ((kk + 1 + 1 + 1 : Nat) : Int)), intsT (f z).ws, boolsT (f z).bs] T0)) (.row g off 6 n' K') (.slice (some ⟨g, off, none⟩) n' c) /\ Cg w ((((wr.setCell ⟨g, off + z * 6, none⟩ (.int .i64 ((kk : Int)))).setCell ⟨g, off + z * 6 + 1, none⟩ (.int .i64 ((kk : Int) + 1))).setCell ⟨g, off + z * 6 + 2, none⟩ (.int .i64 ((kk : Int) + 2))).setCell ⟨g, off + z * 6 + 3, none⟩ (.int .i64 ((kk : Int) + 3))) (Sk.row g off 6 n' K').bl) := ⟨((((G0.out.1.setZ HH.out.2.1 hlt 0 (by decide) (by simp) _ (.int .i64 ((kk : Int))) (.int .i64 ((kk : Nat) : Int)) rfl (congrArg (Value.int .i64) (by have := HC.out; have := HK0.out; omega)) rfl).setZ HH.out.2.1 hlt 1 (by decide) (by simp) _ (.int .i64 ((kk : Int) + 1)) (.int .i64 ((kk + 1 : Nat) : Int)) rfl (congrArg (Value.int .i64) (by have := HC.out; have := HK0.out; omega)) rfl).setZ HH.out.2.1 hlt 2 (by decide) (by simp) _ (.int .i64 ((kk : Int) + 2)) (.int .i64 ((kk + 1 + 1 : Nat) : Int)) rfl (congrArg (Value.int .i64) (by have := HC.out; have := HK0.out; omega)) rfl).setZ HH.out.2.1 hlt 3 (by decide) (by simp) _ (.int .i64 ((kk : Int) + 3)) (.int .i64 ((kk + 1 + 1 + 1 : Nat) : Int)) rfl (congrArg (Value.int .i64) (by have := HC.out; have := HK0.out; omega)) rfl), ((((G0.out.2.set (p := ⟨g, off + z * 6, none⟩) (.inl rfl) (.int .i64 ((kk : Int)))).set (p := ⟨g, off + z * 6 + 1, none⟩) (.inl rfl) (.int .i64 ((kk : Int) + 1))).set (p := ⟨g, off + z * 6 + 2, none⟩) (.inl rfl) (.int .i64 ((kk : Int) + 2))).set (p := ⟨g, off + z * 6 + 3, none⟩) (.inl rfl) (.int .i64 ((kk : Int) + 3)))⟩
   go_upto_region 12 with fail
   obtain ⟨W1, hW1⟩ : ∃ W, W = ((((wr.setCell ⟨g, off + z * 6, none⟩ (.int .i64 ((kk : Int)))).setCell ⟨g, off + z * 6 + 1, none⟩ (.int .i64 ((kk : Int) + 1))).setCell ⟨g, off + z * 6 + 2, none⟩ (.int .i64 ((kk : Int) + 2))).setCell ⟨g, off + z * 6 + 3, none⟩ (.int .i64 ((kk : Int) + 3))) := ⟨_, rfl⟩
   rw [<- hW1] at G1 ⊢
   clear hW1 e0 f0 e1 f1 e2 f2 e3 f3 v0 v1 v2 v3 G0 u0 u1 u2 u3
   obtain ⟨u4, q4, t4⟩ := G1.out.1.cellZ hlt 4 (by decide)
   have t4' : Fit W1 (intsT (f z).ws) (K' z 4) u4 := t4
   obtain ⟨a4, c4, rfl⟩ := t4'.shape
   have HS4 : Hid (Fit W1 (intsT (f z).ws) (K' z 4) (.slice a4 ((f z).ws.length) c4) /\ W1.cell? ⟨g, off + z * 6 + 4, none⟩ = some (.slice a4 ((f z).ws.length) c4)) := ⟨t4', q4⟩
   have e4 : W1.cell? ⟨g, off + z * 6 + 4, none⟩ = some (.slice a4 ((f z).ws.length) c4) := q4
   clear t4 t4' q4
   go_wp2_with fail
   refine (markIntS_f (f z).ws a4 _ c4 (kk + 1 + 1 + 1 + 1) _ (K' z 4) _ (by have := HC.out; have := HK0.out; omega) HS4.out.1 (HH.out.2.1.1 z 4 hlt (by decide)).1 (by have := HC.out; have := HK0.out; omega)).mono ?_
   rintro e W2 ⟨rfl, m9, cg9⟩
   have G2 : Hid (Fit W2 (.list 6 n' (atZ z [.leaf (.int .i64 ((kk : Nat) : Int)), .leaf (.int .i64 ((kk + 1 : Nat) : Int)), .leaf (.int .i64 ((kk + 1 + 1 : Nat) : Int)), .leaf (.int .i64 ((kk + 1 + 1 + 1 : Nat) : Int)), intsT (marksI (kk + 1 + 1 + 1 + 1) (f z).ws.length), boolsT (f z).bs] T0)) (.row g off 6 n' K') (.slice (some ⟨g, off, none⟩) n' c) /\ Cg w W2 (Sk.row g off 6 n' K').bl) := ⟨G1.out.1.subZ HH.out.2.1 hlt 4 (by decide) (by simp) _ HS4.out.2 _ cg9 m9 rfl, G1.out.2.trans (cg9.mono (fun b hb => Sk.bl_in hlt (by decide) hb))⟩
   obtain ⟨k2, hk2⟩ : ∃ k2 : Nat, k2 = kk + 1 + 1 + 1 + 1 + (f z).ws.length := ⟨_, rfl⟩
   rw [<- hk2]
   have HK2 : Hid (k2 = kk + 1 + 1 + 1 + 1 + (f z).ws.length) := hk2
   clear m9 cg9 hk2 e4 G1 HS4
   obtain ⟨u5, q5, t5⟩ := G2.out.1.cellZ hlt 5 (by decide)
   have t5' : Fit W2 (boolsT (f z).bs) (K' z 5) u5 := t5
   obtain ⟨a5, c5, rfl⟩ := t5'.shape
   have HS5 : Hid (Fit W2 (boolsT (f z).bs) (K' z 5) (.slice a5 ((f z).bs.length) c5) /\ W2.cell? ⟨g, off + z * 6 + 5, none⟩ = some (.slice a5 ((f z).bs.length) c5)) := ⟨t5', q5⟩
   have e5 : W2.cell? ⟨g, off + z * 6 + 5, none⟩ = some (.slice a5 ((f z).bs.length) c5) := q5
   clear t5 t5' q5
   go_wp2_with fail
   refine (markBoolS_f (f z).bs a5 _ c5 (kk + 1 + 1 + 1 + 1 + (f z).ws.length) _ (K' z 5) _ (by have := HC.out; have := HK0.out; have := HK2.out; omega) HS5.out.1 (HH.out.2.1.1 z 5 hlt (by decide)).1 (by have := HC.out; have := HK0.out; have := HK2.out; omega)).mono ?_
   rintro e W3 ⟨rfl, m9, cg9⟩
   have G3 : Hid (Fit W3 (.list 6 n' (atZ z [.leaf (.int .i64 ((kk : Nat) : Int)), .leaf (.int .i64 ((kk + 1 : Nat) : Int)), .leaf (.int .i64 ((kk + 1 + 1 : Nat) : Int)), .leaf (.int .i64 ((kk + 1 + 1 + 1 : Nat) : Int)), intsT (marksI (kk + 1 + 1 + 1 + 1) (f z).ws.length), boolsT (marksB (kk + 1 + 1 + 1 + 1 + (f z).ws.length) (f z).bs.length)] T0)) (.row g off 6 n' K') (.slice (some ⟨g, off, none⟩) n' c) /\ Cg w W3 (Sk.row g off 6 n' K').bl) := ⟨G2.out.1.subZ HH.out.2.1 hlt 5 (by decide) (by simp) _ HS5.out.2 _ cg9 m9 rfl, G2.out.2.trans (cg9.mono (fun b hb => Sk.bl_in hlt (by decide) hb))⟩
   obtain ⟨k3, hk3⟩ : ∃ k3 : Nat, k3 = kk + 1 + 1 + 1 + 1 + (f z).ws.length + (f z).bs.length := ⟨_, rfl⟩
   rw [<- hk3]
   have HK3 : Hid (k3 = kk + 1 + 1 + 1 + 1 + (f z).ws.length + (f z).bs.length) := hk3
   clear m9 cg9 hk3 e5 G2 HS5
   have HZ : Hid (Fit W3 (.list 6 n' (fun i => trs (aT (if i < z + 1 then nmVA (s + sumN i (fun i => ctVA (f i))) (f i) else f i)))) (.row g off 6 n' K') (.slice (some ⟨g, off, none⟩) n' c) /\ Cg w W3 (Sk.row g off 6 n' K').bl /\ (k3 : Int) = ((s + sumN (z + 1) (fun i => ctVA (f i)) : Nat) : Int)) := ⟨G3.out.1.doneZ (T1 := fun i => trs (aT (if i < z + 1 then nmVA (s + sumN i (fun i => ctVA (f i))) (f i) else f i))) (fun i hi => by rw [HT.out]; simp only [if_lt_succ hi]) (fun j hj => by simp only [if_pos (Nat.lt_succ_self z)]; rw [<- HK0.out.1]; rfl), G3.out.2, by have := HC.out; have := HK0.out; have := HK2.out; have := HK3.out; omega⟩
   clear G3 HT
   go_wp2
   go_roundw
   case rel => exact ⟨z + 1, by omega, by go_num, congrArg (Value.int .i64) HZ.out.2.2, HZ.out.1, HZ.out.2.1⟩
   case measure => simp [intOf]; omega
  have hi : ¬ (z : Int) < (n' : Int) := by omega
  have e9 : z = n' := by omega
  subst e9
  have H1 : Hid (_ /\ _) := ⟨HE.out _ hF, hC⟩
  clear hF hC
  go_wp2
  go_ret
  exact ⟨rfl, H1.out.1, H1.out.2⟩
theorem markPartS_f (n : Nat) (f : Nat -> VP) (a : Option Addr) (n' c s : Nat) (x : Int) (K : Sk) (w : World) (hx : x = ((s : Nat) : Int)) (h : Fit w (.list 8 n (fun i => trs (pT (f i)))) K (.slice a n' c)) (hok : K.ok) (hB : s + sumN n (fun i => ctVP (f i)) <= 1125899906842624) :
 Calls Tryz.prog 148 #[.slice a n' c, .int .i64 x] w fun e w' => e = .returned (.int .i64 ((s + sumN n (fun i => ctVP (f i)) : Nat) : Int)) /\ Fit w' (.list 8 n (fun i => trs (pT (nmVP (s + sumN i (fun i => ctVP (f i))) (f i))))) K (.slice a n' c) /\ Cg w w' K.bl := by
 subst hx
 obtain ⟨rfl, hc1, hm⟩ := h.len
 unfold maxLen at hm
 have HE : Hid (∀ w', Fit w' (.list 8 n' (fun i => trs (pT (if i < n' then nmVP (s + sumN i (fun i => ctVP (f i))) (f i) else f i)))) K (.slice a n' c) -> Fit w' (.list 8 n' (fun i => trs (pT (nmVP (s + sumN i (fun i => ctVP (f i))) (f i))))) K (.slice a n' c)) := by
  show ∀ w', _
  intro w' h9
  exact h9.congr (fun k j hk hj => by simp only [if_pos hk])
 have h1 : Fit w (.list 8 n' (fun i => trs (pT (if i < 0 then nmVP (s + sumN i (fun i => ctVP (f i))) (f i) else f i)))) K (.slice a n' c) := h.congr (fun k j hk hj => by simp)
 clear h
 by_cases h0 : n' = 0
 ·subst h0
  have h2 := HE.out w h1
  clear h1
  go_enter Tryz.func148, Tryz.ntmps148
  go_wp2
  refine wp_loop_rounds 1 ?_
  rw [rounds_succ]
  go_wp2
  go_ret
  exact ⟨rfl, h2, Cg.refl _ _⟩
 obtain ⟨g, off, K', rfl, rfl, -, -, -, hg, -⟩ := h1.row (by omega)
 have HH : Hid (Fit w (.list 8 n' (fun i => trs (pT (if i < 0 then nmVP (s + sumN i (fun i => ctVP (f i))) (f i) else f i)))) (.row g off 8 n' K') (.slice (some ⟨g, off, none⟩) n' c) /\ (Sk.row g off 8 n' K').ok /\ s + sumN n' (fun i => ctVP (f i)) <= 1125899906842624) := ⟨h1, hok, hB⟩
 clear h1 hok hB
 go_enter Tryz.func148, Tryz.ntmps148
 go_wp2
 go_loopw [1, 5] (fun kv i wr => ∃ z : Nat, z <= n' /\ i = .int .i64 z /\ kv = .int .i64 ((s + sumN z (fun i => ctVP (f i)) : Nat) : Int) /\ Fit wr (.list 8 n' (fun i => trs (pT (if i < z then nmVP (s + sumN i (fun i => ctVP (f i))) (f i) else f i)))) (.row g off 8 n' K') (.slice (some ⟨g, off, none⟩) n' c) /\ Cg w wr (Sk.row g off 8 n' K').bl) (fun _ i _ => n' - (intOf i).toNat)
 case atStart => exact ⟨0, Nat.zero_le _, rfl, rfl, HH.out.1, Cg.refl _ _⟩
 case round =>
  obtain ⟨z, hz, rfl, rfl, hF, hC⟩ := hrel
  by_cases hlt : z < n'
  ·have hi : (z : Int) < (n' : Int) := by omega
   obtain ⟨kk, hkk⟩ : ∃ kk, kk = s + sumN z (fun i => ctVP (f i)) := ⟨_, rfl⟩
   rw [<- hkk]
   have HC : Hid (ctVP (f z) = 1 + 1 + ctVQ (f z).q /\ ctVQ (f z).q = 1 + 1 + 1 + (f z).q.ws.length + (f z).q.bs.length + 1 /\ True) := ⟨rfl, rfl, trivial⟩
   have HK0 : Hid (kk = s + sumN z (fun i => ctVP (f i)) /\ kk + ctVP (f z) <= 1125899906842624 /\ s + sumN (z + 1) (fun i => ctVP (f i)) = kk + ctVP (f z)) := ⟨hkk, by have h7 := sumN_le (g := (fun i => ctVP (f i))) hlt; have h8 := HH.out.2.2; omega, by rw [hkk]; simp only [sumN]; omega⟩
   obtain ⟨T0, hT0⟩ : ∃ T0 : Nat -> Nat -> Tr, T0 = (fun i => trs (pT (if i < z then nmVP (s + sumN i (fun i => ctVP (f i))) (f i) else f i))) := ⟨_, rfl⟩
   rw [<- hT0] at hF
   have F0 := hF.toZ (z := z) (L := [.leaf (.int .i64 (f z).p), .leaf (.int .i64 (f z).t), .leaf (.int .i64 (f z).q.kd), .leaf (.int .i64 (f z).q.pl), .leaf (.int .i64 (f z).q.n), intsT (f z).q.ws, boolsT (f z).q.bs, .leaf (.int .i64 (f z).q.wa)]) (fun j hj => by rw [hT0]; simp only [if_neg (Nat.lt_irrefl z)]; rfl)
   have HT : Hid (T0 = (fun i => trs (pT (if i < z then nmVP (s + sumN i (fun i => ctVP (f i))) (f i) else f i)))) := hT0
   have G0 : Hid (Fit wr (.list 8 n' (atZ z [.leaf (.int .i64 (f z).p), .leaf (.int .i64 (f z).t), .leaf (.int .i64 (f z).q.kd), .leaf (.int .i64 (f z).q.pl), .leaf (.int .i64 (f z).q.n), intsT (f z).q.ws, boolsT (f z).q.bs, .leaf (.int .i64 (f z).q.wa)] T0)) (.row g off 8 n' K') (.slice (some ⟨g, off, none⟩) n' c) /\ Cg w wr (Sk.row g off 8 n' K').bl) := ⟨F0, hC⟩
   clear hF hC F0 hT0 hkk
   obtain ⟨u0, q0, -⟩ := G0.out.1.cellZ hlt 0 (by decide)
   have e0 : wr.cell? ⟨g, off + z * 8, none⟩ = some u0 := q0
   clear q0
   have f0 := G0.out.1.fro (off + z * 8)
   obtain ⟨u1, q1, -⟩ := G0.out.1.cellZ hlt 1 (by decide)
   have e1 : wr.cell? ⟨g, off + z * 8 + 1, none⟩ = some u1 := q1
   clear q1
   have f1 := G0.out.1.fro (off + z * 8 + 1)
   obtain ⟨u2, q2, -⟩ := G0.out.1.cellZ hlt 2 (by decide)
   have e2 : wr.cell? ⟨g, off + z * 8 + 2, none⟩ = some u2 := q2
   clear q2
   have f2 := G0.out.1.fro (off + z * 8 + 2)
   obtain ⟨u3, q3, -⟩ := G0.out.1.cellZ hlt 3 (by decide)
   have e3 : wr.cell? ⟨g, off + z * 8 + 3, none⟩ = some u3 := q3
   clear q3
   have f3 := G0.out.1.fro (off + z * 8 + 3)
   obtain ⟨u4, q4, -⟩ := G0.out.1.cellZ hlt 4 (by decide)
   have e4 : wr.cell? ⟨g, off + z * 8 + 4, none⟩ = some u4 := q4
   clear q4
   have f4 := G0.out.1.fro (off + z * 8 + 4)
   have v0 : IntKind.i64.wrap ((kk : Int) + 1) = (kk : Int) + 1 := by have := HC.out; have := HK0.out; rw [IntKind.wrap_i64]; omega
   have v1 : IntKind.i64.wrap ((kk : Int) + 1 + 1) = (kk : Int) + 2 := by have := HC.out; have := HK0.out; rw [IntKind.wrap_i64]; omega
   have v2 : IntKind.i64.wrap ((kk : Int) + 2 + 1) = (kk : Int) + 3 := by have := HC.out; have := HK0.out; rw [IntKind.wrap_i64]; omega
   have v3 : IntKind.i64.wrap ((kk : Int) + 3 + 1) = (kk : Int) + 4 := by have := HC.out; have := HK0.out; rw [IntKind.wrap_i64]; omega
   have v4 : IntKind.i64.wrap ((kk : Int) + 4 + 1) = (kk : Int) + 5 := by have := HC.out; have := HK0.out; rw [IntKind.wrap_i64]; omega
   have G1 : Hid (Fit (((((wr.setCell ⟨g, off + z * 8, none⟩ (.int .i64 ((kk : Int)))).setCell ⟨g, off + z * 8 + 1, none⟩ (.int .i64 ((kk : Int) + 1))).setCell ⟨g, off + z * 8 + 2, none⟩ (.int .i64 ((kk : Int) + 2))).setCell ⟨g, off + z * 8 + 3, none⟩ (.int .i64 ((kk : Int) + 3))).setCell ⟨g, off + z * 8 + 4, none⟩ (.int .i64 ((kk : Int) + 4))) (.list 8 n' (atZ z [.leaf (.int .i64 ((kk : Nat) : Int)), .leaf (.int .i64 ((kk + 1 : Nat) : Int)), .leaf (.int .i64 (((kk + 1 + 1) : Nat) : Int)), .leaf (.int .i64 (((kk + 1 + 1) + 1 : Nat) : Int)), .leaf (.int .i64 (((kk + 1 + 1) + 1 + 1 : Nat) : Int)), intsT (f z).q.ws, boolsT (f z).q.bs, .leaf (.int .i64 (f z).q.wa)] T0)) (.row g off 8 n' K') (.slice (some ⟨g, off, none⟩) n' c) /\ Cg w (((((wr.setCell ⟨g, off + z * 8, none⟩ (.int .i64 ((kk : Int)))).setCell ⟨g, off + z * 8 + 1, none⟩ (.int .i64 ((kk : Int) + 1))).setCell ⟨g, off + z * 8 + 2, none⟩ (.int .i64 ((kk : Int) + 2))).setCell ⟨g, off + z * 8 + 3, none⟩ (.int .i64 ((kk : Int) + 3))).setCell ⟨g, off + z * 8 + 4, none⟩ (.int .i64 ((kk : Int) + 4))) (Sk.row g off 8 n' K').bl) := ⟨(((((G0.out.1.setZ HH.out.2.1 hlt 0 (by decide) (by simp) _ (.int .i64 ((kk : Int))) (.int .i64 ((kk : Nat) : Int)) rfl (congrArg (Value.int .i64) (by have := HC.out; have := HK0.out; omega)) rfl).setZ HH.out.2.1 hlt 1 (by decide) (by simp) _ (.int .i64 ((kk : Int) + 1)) (.int .i64 ((kk + 1 : Nat) : Int)) rfl (congrArg (Value.int .i64) (by have := HC.out; have := HK0.out; omega)) rfl).setZ HH.out.2.1 hlt 2 (by decide) (by simp) _ (.int .i64 ((kk : Int) + 2)) (.int .i64 (((kk + 1 + 1) : Nat) : Int)) rfl (congrArg (Value.int .i64) (by have := HC.out; have := HK0.out; omega)) rfl).setZ HH.out.2.1 hlt 3 (by decide) (by simp) _ (.int .i64 ((kk : Int) + 3)) (.int .i64 (((kk + 1 + 1) + 1 : Nat) : Int)) rfl (congrArg (Value.int .i64) (by have := HC.out; have := HK0.out; omega)) rfl).setZ HH.out.2.1 hlt 4 (by decide) (by simp) _ (.int .i64 ((kk : Int) + 4)) (.int .i64 (((kk + 1 + 1) + 1 + 1 : Nat) : Int)) rfl (congrArg (Value.int .i64) (by have := HC.out; have := HK0.out; omega)) rfl), (((((G0.out.2.set (p := ⟨g, off + z * 8, none⟩) (.inl rfl) (.int .i64 ((kk : Int)))).set (p := ⟨g, off + z * 8 + 1, none⟩) (.inl rfl) (.int .i64 ((kk : Int) + 1))).set (p := ⟨g, off + z * 8 + 2, none⟩) (.inl rfl) (.int .i64 ((kk : Int) + 2))).set (p := ⟨g, off + z * 8 + 3, none⟩) (.inl rfl) (.int .i64 ((kk : Int) + 3))).set (p := ⟨g, off + z * 8 + 4, none⟩) (.inl rfl) (.int .i64 ((kk : Int) + 4)))⟩
   go_upto_region 14 with fail
   obtain ⟨W1, hW1⟩ : ∃ W, W = (((((wr.setCell ⟨g, off + z * 8, none⟩ (.int .i64 ((kk : Int)))).setCell ⟨g, off + z * 8 + 1, none⟩ (.int .i64 ((kk : Int) + 1))).setCell ⟨g, off + z * 8 + 2, none⟩ (.int .i64 ((kk : Int) + 2))).setCell ⟨g, off + z * 8 + 3, none⟩ (.int .i64 ((kk : Int) + 3))).setCell ⟨g, off + z * 8 + 4, none⟩ (.int .i64 ((kk : Int) + 4))) := ⟨_, rfl⟩
   rw [<- hW1] at G1 ⊢
   clear hW1 e0 f0 e1 f1 e2 f2 e3 f3 e4 f4 v0 v1 v2 v3 v4 G0 u0 u1 u2 u3 u4
   obtain ⟨u5, q5, t5⟩ := G1.out.1.cellZ hlt 5 (by decide)
   have t5' : Fit W1 (intsT (f z).q.ws) (K' z 5) u5 := t5
   obtain ⟨a5, c5, rfl⟩ := t5'.shape
   have HS5 : Hid (Fit W1 (intsT (f z).q.ws) (K' z 5) (.slice a5 ((f z).q.ws.length) c5) /\ W1.cell? ⟨g, off + z * 8 + 5, none⟩ = some (.slice a5 ((f z).q.ws.length) c5)) := ⟨t5', q5⟩
   have e5 : W1.cell? ⟨g, off + z * 8 + 5, none⟩ = some (.slice a5 ((f z).q.ws.length) c5) := q5
   clear t5 t5' q5
   go_wp2_with fail
   refine (markIntS_f (f z).q.ws a5 _ c5 ((kk + 1 + 1) + 1 + 1 + 1) _ (K' z 5) _ (by have := HC.out; have := HK0.out; omega) HS5.out.1 (HH.out.2.1.1 z 5 hlt (by decide)).1 (by have := HC.out; have := HK0.out; omega)).mono ?_
   rintro e W2 ⟨rfl, m9, cg9⟩
   have G2 : Hid (Fit W2 (.list 8 n' (atZ z [.leaf (.int .i64 ((kk : Nat) : Int)), .leaf (.int .i64 ((kk + 1 : Nat) : Int)), .leaf (.int .i64 (((kk + 1 + 1) : Nat) : Int)), .leaf (.int .i64 (((kk + 1 + 1) + 1 : Nat) : Int)), .leaf (.int .i64 (((kk + 1 + 1) + 1 + 1 : Nat) : Int)), intsT (marksI ((kk + 1 + 1) + 1 + 1 + 1) (f z).q.ws.length), boolsT (f z).q.bs, .leaf (.int .i64 (f z).q.wa)] T0)) (.row g off 8 n' K') (.slice (some ⟨g, off, none⟩) n' c) /\ Cg w W2 (Sk.row g off 8 n' K').bl) := ⟨G1.out.1.subZ HH.out.2.1 hlt 5 (by decide) (by simp) _ HS5.out.2 _ cg9 m9 rfl, G1.out.2.trans (cg9.mono (fun b hb => Sk.bl_in hlt (by decide) hb))⟩
   obtain ⟨k2, hk2⟩ : ∃ k2 : Nat, k2 = (kk + 1 + 1) + 1 + 1 + 1 + (f z).q.ws.length := ⟨_, rfl⟩
   rw [<- hk2]
   have HK2 : Hid (k2 = (kk + 1 + 1) + 1 + 1 + 1 + (f z).q.ws.length) := hk2
   clear m9 cg9 hk2 e5 G1 HS5
   obtain ⟨u6, q6, t6⟩ := G2.out.1.cellZ hlt 6 (by decide)
   have t6' : Fit W2 (boolsT (f z).q.bs) (K' z 6) u6 := t6
   obtain ⟨a6, c6, rfl⟩ := t6'.shape
   have HS6 : Hid (Fit W2 (boolsT (f z).q.bs) (K' z 6) (.slice a6 ((f z).q.bs.length) c6) /\ W2.cell? ⟨g, off + z * 8 + 6, none⟩ = some (.slice a6 ((f z).q.bs.length) c6)) := ⟨t6', q6⟩
   have e6 : W2.cell? ⟨g, off + z * 8 + 6, none⟩ = some (.slice a6 ((f z).q.bs.length) c6) := q6
   clear t6 t6' q6
   go_wp2_with fail
   refine (markBoolS_f (f z).q.bs a6 _ c6 ((kk + 1 + 1) + 1 + 1 + 1 + (f z).q.ws.length) _ (K' z 6) _ (by have := HC.out; have := HK0.out; have := HK2.out; omega) HS6.out.1 (HH.out.2.1.1 z 6 hlt (by decide)).1 (by have := HC.out; have := HK0.out; have := HK2.out; omega)).mono ?_
   rintro e W3 ⟨rfl, m9, cg9⟩
   have G3 : Hid (Fit W3 (.list 8 n' (atZ z [.leaf (.int .i64 ((kk : Nat) : Int)), .leaf (.int .i64 ((kk + 1 : Nat) : Int)), .leaf (.int .i64 (((kk + 1 + 1) : Nat) : Int)), .leaf (.int .i64 (((kk + 1 + 1) + 1 : Nat) : Int)), .leaf (.int .i64 (((kk + 1 + 1) + 1 + 1 : Nat) : Int)), intsT (marksI ((kk + 1 + 1) + 1 + 1 + 1) (f z).q.ws.length), boolsT (marksB ((kk + 1 + 1) + 1 + 1 + 1 + (f z).q.ws.length) (f z).q.bs.length), .leaf (.int .i64 (f z).q.wa)] T0)) (.row g off 8 n' K') (.slice (some ⟨g, off, none⟩) n' c) /\ Cg w W3 (Sk.row g off 8 n' K').bl) := ⟨G2.out.1.subZ HH.out.2.1 hlt 6 (by decide) (by simp) _ HS6.out.2 _ cg9 m9 rfl, G2.out.2.trans (cg9.mono (fun b hb => Sk.bl_in hlt (by decide) hb))⟩
   obtain ⟨k3, hk3⟩ : ∃ k3 : Nat, k3 = (kk + 1 + 1) + 1 + 1 + 1 + (f z).q.ws.length + (f z).q.bs.length := ⟨_, rfl⟩
   rw [<- hk3]
   have HK3 : Hid (k3 = (kk + 1 + 1) + 1 + 1 + 1 + (f z).q.ws.length + (f z).q.bs.length) := hk3
   clear m9 cg9 hk3 e6 G2 HS6
   obtain ⟨u7, q7, -⟩ := G3.out.1.cellZ hlt 7 (by decide)
   have e7 : W3.cell? ⟨g, off + z * 8 + 7, none⟩ = some u7 := q7
   clear q7
   have f7 := G3.out.1.fro (off + z * 8 + 7)
   have v0 : IntKind.i64.wrap ((k3 : Int) + 1) = (k3 : Int) + 1 := by have := HC.out; have := HK0.out; have := HK2.out; have := HK3.out; rw [IntKind.wrap_i64]; omega
   have G4 : Hid (Fit (W3.setCell ⟨g, off + z * 8 + 7, none⟩ (.int .i64 ((k3 : Int)))) (.list 8 n' (atZ z [.leaf (.int .i64 ((kk : Nat) : Int)), .leaf (.int .i64 ((kk + 1 : Nat) : Int)), .leaf (.int .i64 (((kk + 1 + 1) : Nat) : Int)), .leaf (.int .i64 (((kk + 1 + 1) + 1 : Nat) : Int)), .leaf (.int .i64 (((kk + 1 + 1) + 1 + 1 : Nat) : Int)), intsT (marksI ((kk + 1 + 1) + 1 + 1 + 1) (f z).q.ws.length), boolsT (marksB ((kk + 1 + 1) + 1 + 1 + 1 + (f z).q.ws.length) (f z).q.bs.length), .leaf (.int .i64 (((kk + 1 + 1) + 1 + 1 + 1 + (f z).q.ws.length + (f z).q.bs.length : Nat) : Int))] T0)) (.row g off 8 n' K') (.slice (some ⟨g, off, none⟩) n' c) /\ Cg w (W3.setCell ⟨g, off + z * 8 + 7, none⟩ (.int .i64 ((k3 : Int)))) (Sk.row g off 8 n' K').bl) := ⟨(G3.out.1.setZ HH.out.2.1 hlt 7 (by decide) (by simp) _ (.int .i64 ((k3 : Int))) (.int .i64 (((kk + 1 + 1) + 1 + 1 + 1 + (f z).q.ws.length + (f z).q.bs.length : Nat) : Int)) rfl (congrArg (Value.int .i64) (by have := HC.out; have := HK0.out; have := HK2.out; have := HK3.out; omega)) rfl), (G3.out.2.set (p := ⟨g, off + z * 8 + 7, none⟩) (.inl rfl) (.int .i64 ((k3 : Int))))⟩
   clear G3
   have HZ : Hid (Fit (W3.setCell ⟨g, off + z * 8 + 7, none⟩ (.int .i64 ((k3 : Int)))) (.list 8 n' (fun i => trs (pT (if i < z + 1 then nmVP (s + sumN i (fun i => ctVP (f i))) (f i) else f i)))) (.row g off 8 n' K') (.slice (some ⟨g, off, none⟩) n' c) /\ Cg w (W3.setCell ⟨g, off + z * 8 + 7, none⟩ (.int .i64 ((k3 : Int)))) (Sk.row g off 8 n' K').bl /\ (k3 : Int) + 1 = ((s + sumN (z + 1) (fun i => ctVP (f i)) : Nat) : Int)) := ⟨G4.out.1.doneZ (T1 := fun i => trs (pT (if i < z + 1 then nmVP (s + sumN i (fun i => ctVP (f i))) (f i) else f i))) (fun i hi => by rw [HT.out]; simp only [if_lt_succ hi]) (fun j hj => by simp only [if_pos (Nat.lt_succ_self z)]; rw [<- HK0.out.1]; rfl), G4.out.2, by have := HC.out; have := HK0.out; have := HK2.out; have := HK3.out; omega⟩
   clear G4 HT
   go_wp2
   go_roundw
   case rel => exact ⟨z + 1, by omega, by go_num, congrArg (Value.int .i64) HZ.out.2.2, HZ.out.1, HZ.out.2.1⟩
   case measure => simp [intOf]; omega
  have hi : ¬ (z : Int) < (n' : Int) := by omega
  have e9 : z = n' := by omega
  subst e9
  have H1 : Hid (_ /\ _) := ⟨HE.out _ hF, hC⟩
  clear hF hC
  go_wp2
  go_ret
  exact ⟨rfl, H1.out.1, H1.out.2⟩
theorem markPendS_f (n : Nat) (f : Nat -> VD) (a : Option Addr) (n' c s : Nat) (x : Int) (K : Sk) (w : World) (hx : x = ((s : Nat) : Int)) (h : Fit w (.list 13 n (fun i => trs (dT (f i)))) K (.slice a n' c)) (hok : K.ok) (hB : s + sumN n (fun i => ctVD (f i)) <= 1125899906842624) :
 Calls Tryz.prog 124 #[.slice a n' c, .int .i64 x] w fun e w' => e = .returned (.int .i64 ((s + sumN n (fun i => ctVD (f i)) : Nat) : Int)) /\ Fit w' (.list 13 n (fun i => trs (dT (nmVD (s + sumN i (fun i => ctVD (f i))) (f i))))) K (.slice a n' c) /\ Cg w w' K.bl := by
 subst hx
 obtain ⟨rfl, hc1, hm⟩ := h.len
 unfold maxLen at hm
 have HE : Hid (∀ w', Fit w' (.list 13 n' (fun i => trs (dT (if i < n' then nmVD (s + sumN i (fun i => ctVD (f i))) (f i) else f i)))) K (.slice a n' c) -> Fit w' (.list 13 n' (fun i => trs (dT (nmVD (s + sumN i (fun i => ctVD (f i))) (f i))))) K (.slice a n' c)) := by
  show ∀ w', _
  intro w' h9
  exact h9.congr (fun k j hk hj => by simp only [if_pos hk])
 have h1 : Fit w (.list 13 n' (fun i => trs (dT (if i < 0 then nmVD (s + sumN i (fun i => ctVD (f i))) (f i) else f i)))) K (.slice a n' c) := h.congr (fun k j hk hj => by simp)
 clear h
 by_cases h0 : n' = 0
 ·subst h0
  have h2 := HE.out w h1
  clear h1
  go_enter Tryz.func124, Tryz.ntmps124
  go_wp2
  refine wp_loop_rounds 1 ?_
  rw [rounds_succ]
  go_wp2
  go_ret
  exact ⟨rfl, h2, Cg.refl _ _⟩
 obtain ⟨g, off, K', rfl, rfl, -, -, -, hg, -⟩ := h1.row (by omega)
 have HH : Hid (Fit w (.list 13 n' (fun i => trs (dT (if i < 0 then nmVD (s + sumN i (fun i => ctVD (f i))) (f i) else f i)))) (.row g off 13 n' K') (.slice (some ⟨g, off, none⟩) n' c) /\ (Sk.row g off 13 n' K').ok /\ s + sumN n' (fun i => ctVD (f i)) <= 1125899906842624) := ⟨h1, hok, hB⟩
 clear h1 hok hB
 go_enter Tryz.func124, Tryz.ntmps124
 go_wp2
 go_loopw [1, 5] (fun kv i wr => ∃ z : Nat, z <= n' /\ i = .int .i64 z /\ kv = .int .i64 ((s + sumN z (fun i => ctVD (f i)) : Nat) : Int) /\ Fit wr (.list 13 n' (fun i => trs (dT (if i < z then nmVD (s + sumN i (fun i => ctVD (f i))) (f i) else f i)))) (.row g off 13 n' K') (.slice (some ⟨g, off, none⟩) n' c) /\ Cg w wr (Sk.row g off 13 n' K').bl) (fun _ i _ => n' - (intOf i).toNat)
 case atStart => exact ⟨0, Nat.zero_le _, rfl, rfl, HH.out.1, Cg.refl _ _⟩
 case round =>
  obtain ⟨z, hz, rfl, rfl, hF, hC⟩ := hrel
  by_cases hlt : z < n'
  ·have hi : (z : Int) < (n' : Int) := by omega
   obtain ⟨kk, hkk⟩ : ∃ kk, kk = s + sumN z (fun i => ctVD (f i)) := ⟨_, rfl⟩
   rw [<- hkk]
   have HC : Hid (ctVD (f z) = 1 + 1 + 1 + 1 + ctVQ (f z).q + sumN (f z).np (fun i => ctVP ((f z).pt i)) + (f z).hs.length + sumN (f z).nt (fun i => ctVA ((f z).tl i)) /\ ctVQ (f z).q = 1 + 1 + 1 + (f z).q.ws.length + (f z).q.bs.length + 1 /\ True) := ⟨rfl, rfl, trivial⟩
   have HK0 : Hid (kk = s + sumN z (fun i => ctVD (f i)) /\ kk + ctVD (f z) <= 1125899906842624 /\ s + sumN (z + 1) (fun i => ctVD (f i)) = kk + ctVD (f z)) := ⟨hkk, by have h7 := sumN_le (g := (fun i => ctVD (f i))) hlt; have h8 := HH.out.2.2; omega, by rw [hkk]; simp only [sumN]; omega⟩
   obtain ⟨T0, hT0⟩ : ∃ T0 : Nat -> Nat -> Tr, T0 = (fun i => trs (dT (if i < z then nmVD (s + sumN i (fun i => ctVD (f i))) (f i) else f i))) := ⟨_, rfl⟩
   rw [<- hT0] at hF
   have F0 := hF.toZ (z := z) (L := [.leaf (.int .i64 (f z).id), .leaf (.int .i64 (f z).so), .leaf (.int .i64 (f z).ta), .leaf (.int .i64 (f z).un), .leaf (.int .i64 (f z).q.kd), .leaf (.int .i64 (f z).q.pl), .leaf (.int .i64 (f z).q.n), intsT (f z).q.ws, boolsT (f z).q.bs, .leaf (.int .i64 (f z).q.wa), .list 8 (f z).np (fun i => trs (pT ((f z).pt i))), boolsT (f z).hs, .list 6 (f z).nt (fun i => trs (aT ((f z).tl i)))]) (fun j hj => by rw [hT0]; simp only [if_neg (Nat.lt_irrefl z)]; rfl)
   have HT : Hid (T0 = (fun i => trs (dT (if i < z then nmVD (s + sumN i (fun i => ctVD (f i))) (f i) else f i)))) := hT0
   have G0 : Hid (Fit wr (.list 13 n' (atZ z [.leaf (.int .i64 (f z).id), .leaf (.int .i64 (f z).so), .leaf (.int .i64 (f z).ta), .leaf (.int .i64 (f z).un), .leaf (.int .i64 (f z).q.kd), .leaf (.int .i64 (f z).q.pl), .leaf (.int .i64 (f z).q.n), intsT (f z).q.ws, boolsT (f z).q.bs, .leaf (.int .i64 (f z).q.wa), .list 8 (f z).np (fun i => trs (pT ((f z).pt i))), boolsT (f z).hs, .list 6 (f z).nt (fun i => trs (aT ((f z).tl i)))] T0)) (.row g off 13 n' K') (.slice (some ⟨g, off, none⟩) n' c) /\ Cg w wr (Sk.row g off 13 n' K').bl) := ⟨F0, hC⟩
   clear hF hC F0 hT0 hkk
   obtain ⟨u0, q0, -⟩ := G0.out.1.cellZ hlt 0 (by decide)
   have e0 : wr.cell? ⟨g, off + z * 13, none⟩ = some u0 := q0
   clear q0
   have f0 := G0.out.1.fro (off + z * 13)
   obtain ⟨u1, q1, -⟩ := G0.out.1.cellZ hlt 1 (by decide)
   have e1 : wr.cell? ⟨g, off + z * 13 + 1, none⟩ = some u1 := q1
   clear q1
   have f1 := G0.out.1.fro (off + z * 13 + 1)
   obtain ⟨u2, q2, -⟩ := G0.out.1.cellZ hlt 2 (by decide)
   have e2 : wr.cell? ⟨g, off + z * 13 + 2, none⟩ = some u2 := q2
   clear q2
   have f2 := G0.out.1.fro (off + z * 13 + 2)
   obtain ⟨u3, q3, -⟩ := G0.out.1.cellZ hlt 3 (by decide)
   have e3 : wr.cell? ⟨g, off + z * 13 + 3, none⟩ = some u3 := q3
   clear q3
   have f3 := G0.out.1.fro (off + z * 13 + 3)
   obtain ⟨u4, q4, -⟩ := G0.out.1.cellZ hlt 4 (by decide)
   have e4 : wr.cell? ⟨g, off + z * 13 + 4, none⟩ = some u4 := q4
   clear q4
   have f4 := G0.out.1.fro (off + z * 13 + 4)
   obtain ⟨u5, q5, -⟩ := G0.out.1.cellZ hlt 5 (by decide)
   have e5 : wr.cell? ⟨g, off + z * 13 + 5, none⟩ = some u5 := q5
   clear q5
   have f5 := G0.out.1.fro (off + z * 13 + 5)
   obtain ⟨u6, q6, -⟩ := G0.out.1.cellZ hlt 6 (by decide)
   have e6 : wr.cell? ⟨g, off + z * 13 + 6, none⟩ = some u6 := q6
   clear q6
   have f6 := G0.out.1.fro (off + z * 13 + 6)
   have v0 : IntKind.i64.wrap ((kk : Int) + 1) = (kk : Int) + 1 := by have := HC.out; have := HK0.out; rw [IntKind.wrap_i64]; omega
   have v1 : IntKind.i64.wrap ((kk : Int) + 1 + 1) = (kk : Int) + 2 := by have := HC.out; have := HK0.out; rw [IntKind.wrap_i64]; omega
   have v2 : IntKind.i64.wrap ((kk : Int) + 2 + 1) = (kk : Int) + 3 := by have := HC.out; have := HK0.out; rw [IntKind.wrap_i64]; omega
   have v3 : IntKind.i64.wrap ((kk : Int) + 3 + 1) = (kk : Int) + 4 := by have := HC.out; have := HK0.out; rw [IntKind.wrap_i64]; omega
   have v4 : IntKind.i64.wrap ((kk : Int) + 4 + 1) = (kk : Int) + 5 := by have := HC.out; have := HK0.out; rw [IntKind.wrap_i64]; omega
   have v5 : IntKind.i64.wrap ((kk : Int) + 5 + 1) = (kk : Int) + 6 := by have := HC.out; have := HK0.out; rw [IntKind.wrap_i64]; omega
   have v6 : IntKind.i64.wrap ((kk : Int) + 6 + 1) = (kk : Int) + 7 := by have := HC.out; have := HK0.out; rw [IntKind.wrap_i64]; omega
   have G1 : Hid (Fit (((((((wr.setCell ⟨g, off + z * 13, none⟩ (.int .i64 ((kk : Int)))).setCell ⟨g, off + z * 13 + 1, none⟩ (.int .i64 ((kk : Int) + 1))).setCell ⟨g, off + z * 13 + 2, none⟩ (.int .i64 ((kk : Int) + 2))).setCell ⟨g, off + z * 13 + 3, none⟩ (.int .i64 ((kk : Int) + 3))).setCell ⟨g, off + z * 13 + 4, none⟩ (.int .i64 ((kk : Int) + 4))).setCell ⟨g, off + z * 13 + 5, none⟩ (.int .i64 ((kk : Int) + 5))).setCell ⟨g, off + z * 13 + 6, none⟩ (.int .i64 ((kk : Int) + 6))) (.list 13 n' (atZ z [.leaf (.int .i64 ((kk : Nat) : Int)), .leaf (.int .i64 ((kk + 1 : Nat) : Int)), .leaf (.int .i64 ((kk + 1 + 1 : Nat) : Int)), .leaf (.int .i64 ((kk + 1 + 1 + 1 : Nat) : Int)), .leaf (.int .i64 (((kk + 1 + 1 + 1 + 1) : Nat) : Int)), .leaf (.int .i64 (((kk + 1 + 1 + 1 + 1) + 1 : Nat) : Int)), .leaf (.int .i64 (((kk + 1 + 1 + 1 + 1) + 1 + 1 : Nat) : Int)), intsT (f z).q.ws, boolsT (f z).q.bs, .leaf (.int .i64 (f z).q.wa), .list 8 (f z).np (fun i => trs (pT ((f z).pt i))), boolsT (f z).hs, .list 6 (f z).nt (fun i => trs (aT ((f z).tl i)))] T0)) (.row g off 13 n' K') (.slice (some ⟨g, off, none⟩) n' c) /\ Cg w (((((((wr.setCell ⟨g, off + z * 13, none⟩ (.int .i64 ((kk : Int)))).setCell ⟨g, off + z * 13 + 1, none⟩ (.int .i64 ((kk : Int) + 1))).setCell ⟨g, off + z * 13 + 2, none⟩ (.int .i64 ((kk : Int) + 2))).setCell ⟨g, off + z * 13 + 3, none⟩ (.int .i64 ((kk : Int) + 3))).setCell ⟨g, off + z * 13 + 4, none⟩ (.int .i64 ((kk : Int) + 4))).setCell ⟨g, off + z * 13 + 5, none⟩ (.int .i64 ((kk : Int) + 5))).setCell ⟨g, off + z * 13 + 6, none⟩ (.int .i64 ((kk : Int) + 6))) (Sk.row g off 13 n' K').bl) := ⟨(((((((G0.out.1.setZ HH.out.2.1 hlt 0 (by decide) (by simp) _ (.int .i64 ((kk : Int))) (.int .i64 ((kk : Nat) : Int)) rfl (congrArg (Value.int .i64) (by have := HC.out; have := HK0.out; omega)) rfl).setZ HH.out.2.1 hlt 1 (by decide) (by simp) _ (.int .i64 ((kk : Int) + 1)) (.int .i64 ((kk + 1 : Nat) : Int)) rfl (congrArg (Value.int .i64) (by have := HC.out; have := HK0.out; omega)) rfl).setZ HH.out.2.1 hlt 2 (by decide) (by simp) _ (.int .i64 ((kk : Int) + 2)) (.int .i64 ((kk + 1 + 1 : Nat) : Int)) rfl (congrArg (Value.int .i64) (by have := HC.out; have := HK0.out; omega)) rfl).setZ HH.out.2.1 hlt 3 (by decide) (by simp) _ (.int .i64 ((kk : Int) + 3)) (.int .i64 ((kk + 1 + 1 + 1 : Nat) : Int)) rfl (congrArg (Value.int .i64) (by have := HC.out; have := HK0.out; omega)) rfl).setZ HH.out.2.1 hlt 4 (by decide) (by simp) _ (.int .i64 ((kk : Int) + 4)) (.int .i64 (((kk + 1 + 1 + 1 + 1) : Nat) : Int)) rfl (congrArg (Value.int .i64) (by have := HC.out; have := HK0.out; omega)) rfl).setZ HH.out.2.1 hlt 5 (by decide) (by simp) _ (.int .i64 ((kk : Int) + 5)) (.int .i64 (((kk + 1 + 1 + 1 + 1) + 1 : Nat) : Int)) rfl (congrArg (Value.int .i64) (by have := HC.out; have := HK0.out; omega)) rfl).setZ HH.out.2.1 hlt 6 (by decide) (by simp) _ (.int .i64 ((kk : Int) + 6)) (.int .i64 (((kk + 1 + 1 + 1 + 1) + 1 + 1 : Nat) : Int)) rfl (congrArg (Value.int .i64) (by have := HC.out; have := HK0.out; omega)) rfl), (((((((G0.out.2.set (p := ⟨g, off + z * 13, none⟩) (.inl rfl) (.int .i64 ((kk : Int)))).set (p := ⟨g, off + z * 13 + 1, none⟩) (.inl rfl) (.int .i64 ((kk : Int) + 1))).set (p := ⟨g, off + z * 13 + 2, none⟩) (.inl rfl) (.int .i64 ((kk : Int) + 2))).set (p := ⟨g, off + z * 13 + 3, none⟩) (.inl rfl) (.int .i64 ((kk : Int) + 3))).set (p := ⟨g, off + z * 13 + 4, none⟩) (.inl rfl) (.int .i64 ((kk : Int) + 4))).set (p := ⟨g, off + z * 13 + 5, none⟩) (.inl rfl) (.int .i64 ((kk : Int) + 5))).set (p := ⟨g, off + z * 13 + 6, none⟩) (.inl rfl) (.int .i64 ((kk : Int) + 6)))⟩
   go_upto_region 18 with fail
   obtain ⟨W1, hW1⟩ : ∃ W, W = (((((((wr.setCell ⟨g, off + z * 13, none⟩ (.int .i64 ((kk : Int)))).setCell ⟨g, off + z * 13 + 1, none⟩ (.int .i64 ((kk : Int) + 1))).setCell ⟨g, off + z * 13 + 2, none⟩ (.int .i64 ((kk : Int) + 2))).setCell ⟨g, off + z * 13 + 3, none⟩ (.int .i64 ((kk : Int) + 3))).setCell ⟨g, off + z * 13 + 4, none⟩ (.int .i64 ((kk : Int) + 4))).setCell ⟨g, off + z * 13 + 5, none⟩ (.int .i64 ((kk : Int) + 5))).setCell ⟨g, off + z * 13 + 6, none⟩ (.int .i64 ((kk : Int) + 6))) := ⟨_, rfl⟩
   rw [<- hW1] at G1 ⊢
   clear hW1 e0 f0 e1 f1 e2 f2 e3 f3 e4 f4 e5 f5 e6 f6 v0 v1 v2 v3 v4 v5 v6 G0 u0 u1 u2 u3 u4 u5 u6
   obtain ⟨u7, q7, t7⟩ := G1.out.1.cellZ hlt 7 (by decide)
   have t7' : Fit W1 (intsT (f z).q.ws) (K' z 7) u7 := t7
   obtain ⟨a7, c7, rfl⟩ := t7'.shape
   have HS7 : Hid (Fit W1 (intsT (f z).q.ws) (K' z 7) (.slice a7 ((f z).q.ws.length) c7) /\ W1.cell? ⟨g, off + z * 13 + 7, none⟩ = some (.slice a7 ((f z).q.ws.length) c7)) := ⟨t7', q7⟩
   have e7 : W1.cell? ⟨g, off + z * 13 + 7, none⟩ = some (.slice a7 ((f z).q.ws.length) c7) := q7
   clear t7 t7' q7
   go_wp2_with fail
   refine (markIntS_f (f z).q.ws a7 _ c7 ((kk + 1 + 1 + 1 + 1) + 1 + 1 + 1) _ (K' z 7) _ (by have := HC.out; have := HK0.out; omega) HS7.out.1 (HH.out.2.1.1 z 7 hlt (by decide)).1 (by have := HC.out; have := HK0.out; omega)).mono ?_
   rintro e W2 ⟨rfl, m9, cg9⟩
   have G2 : Hid (Fit W2 (.list 13 n' (atZ z [.leaf (.int .i64 ((kk : Nat) : Int)), .leaf (.int .i64 ((kk + 1 : Nat) : Int)), .leaf (.int .i64 ((kk + 1 + 1 : Nat) : Int)), .leaf (.int .i64 ((kk + 1 + 1 + 1 : Nat) : Int)), .leaf (.int .i64 (((kk + 1 + 1 + 1 + 1) : Nat) : Int)), .leaf (.int .i64 (((kk + 1 + 1 + 1 + 1) + 1 : Nat) : Int)), .leaf (.int .i64 (((kk + 1 + 1 + 1 + 1) + 1 + 1 : Nat) : Int)), intsT (marksI ((kk + 1 + 1 + 1 + 1) + 1 + 1 + 1) (f z).q.ws.length), boolsT (f z).q.bs, .leaf (.int .i64 (f z).q.wa), .list 8 (f z).np (fun i => trs (pT ((f z).pt i))), boolsT (f z).hs, .list 6 (f z).nt (fun i => trs (aT ((f z).tl i)))] T0)) (.row g off 13 n' K') (.slice (some ⟨g, off, none⟩) n' c) /\ Cg w W2 (Sk.row g off 13 n' K').bl) := ⟨G1.out.1.subZ HH.out.2.1 hlt 7 (by decide) (by simp) _ HS7.out.2 _ cg9 m9 rfl, G1.out.2.trans (cg9.mono (fun b hb => Sk.bl_in hlt (by decide) hb))⟩
   obtain ⟨k2, hk2⟩ : ∃ k2 : Nat, k2 = (kk + 1 + 1 + 1 + 1) + 1 + 1 + 1 + (f z).q.ws.length := ⟨_, rfl⟩
   rw [<- hk2]
   have HK2 : Hid (k2 = (kk + 1 + 1 + 1 + 1) + 1 + 1 + 1 + (f z).q.ws.length) := hk2
   clear m9 cg9 hk2 e7 G1 HS7
   obtain ⟨u8, q8, t8⟩ := G2.out.1.cellZ hlt 8 (by decide)
   have t8' : Fit W2 (boolsT (f z).q.bs) (K' z 8) u8 := t8
   obtain ⟨a8, c8, rfl⟩ := t8'.shape
   have HS8 : Hid (Fit W2 (boolsT (f z).q.bs) (K' z 8) (.slice a8 ((f z).q.bs.length) c8) /\ W2.cell? ⟨g, off + z * 13 + 8, none⟩ = some (.slice a8 ((f z).q.bs.length) c8)) := ⟨t8', q8⟩
   have e8 : W2.cell? ⟨g, off + z * 13 + 8, none⟩ = some (.slice a8 ((f z).q.bs.length) c8) := q8
   clear t8 t8' q8
   go_wp2_with fail
   refine (markBoolS_f (f z).q.bs a8 _ c8 ((kk + 1 + 1 + 1 + 1) + 1 + 1 + 1 + (f z).q.ws.length) _ (K' z 8) _ (by have := HC.out; have := HK0.out; have := HK2.out; omega) HS8.out.1 (HH.out.2.1.1 z 8 hlt (by decide)).1 (by have := HC.out; have := HK0.out; have := HK2.out; omega)).mono ?_
   rintro e W3 ⟨rfl, m9, cg9⟩
   have G3 : Hid (Fit W3 (.list 13 n' (atZ z [.leaf (.int .i64 ((kk : Nat) : Int)), .leaf (.int .i64 ((kk + 1 : Nat) : Int)), .leaf (.int .i64 ((kk + 1 + 1 : Nat) : Int)), .leaf (.int .i64 ((kk + 1 + 1 + 1 : Nat) : Int)), .leaf (.int .i64 (((kk + 1 + 1 + 1 + 1) : Nat) : Int)), .leaf (.int .i64 (((kk + 1 + 1 + 1 + 1) + 1 : Nat) : Int)), .leaf (.int .i64 (((kk + 1 + 1 + 1 + 1) + 1 + 1 : Nat) : Int)), intsT (marksI ((kk + 1 + 1 + 1 + 1) + 1 + 1 + 1) (f z).q.ws.length), boolsT (marksB ((kk + 1 + 1 + 1 + 1) + 1 + 1 + 1 + (f z).q.ws.length) (f z).q.bs.length), .leaf (.int .i64 (f z).q.wa), .list 8 (f z).np (fun i => trs (pT ((f z).pt i))), boolsT (f z).hs, .list 6 (f z).nt (fun i => trs (aT ((f z).tl i)))] T0)) (.row g off 13 n' K') (.slice (some ⟨g, off, none⟩) n' c) /\ Cg w W3 (Sk.row g off 13 n' K').bl) := ⟨G2.out.1.subZ HH.out.2.1 hlt 8 (by decide) (by simp) _ HS8.out.2 _ cg9 m9 rfl, G2.out.2.trans (cg9.mono (fun b hb => Sk.bl_in hlt (by decide) hb))⟩
   obtain ⟨k3, hk3⟩ : ∃ k3 : Nat, k3 = (kk + 1 + 1 + 1 + 1) + 1 + 1 + 1 + (f z).q.ws.length + (f z).q.bs.length := ⟨_, rfl⟩
   rw [<- hk3]
   have HK3 : Hid (k3 = (kk + 1 + 1 + 1 + 1) + 1 + 1 + 1 + (f z).q.ws.length + (f z).q.bs.length) := hk3
   clear m9 cg9 hk3 e8 G2 HS8
   obtain ⟨u9, q9, -⟩ := G3.out.1.cellZ hlt 9 (by decide)
   have e9 : W3.cell? ⟨g, off + z * 13 + 9, none⟩ = some u9 := q9
   clear q9
   have f9 := G3.out.1.fro (off + z * 13 + 9)
   have v0 : IntKind.i64.wrap ((k3 : Int) + 1) = (k3 : Int) + 1 := by have := HC.out; have := HK0.out; have := HK2.out; have := HK3.out; rw [IntKind.wrap_i64]; omega
   have G4 : Hid (Fit (W3.setCell ⟨g, off + z * 13 + 9, none⟩ (.int .i64 ((k3 : Int)))) (.list 13 n' (atZ z [.leaf (.int .i64 ((kk : Nat) : Int)), .leaf (.int .i64 ((kk + 1 : Nat) : Int)), .leaf (.int .i64 ((kk + 1 + 1 : Nat) : Int)), .leaf (.int .i64 ((kk + 1 + 1 + 1 : Nat) : Int)), .leaf (.int .i64 (((kk + 1 + 1 + 1 + 1) : Nat) : Int)), .leaf (.int .i64 (((kk + 1 + 1 + 1 + 1) + 1 : Nat) : Int)), .leaf (.int .i64 (((kk + 1 + 1 + 1 + 1) + 1 + 1 : Nat) : Int)), intsT (marksI ((kk + 1 + 1 + 1 + 1) + 1 + 1 + 1) (f z).q.ws.length), boolsT (marksB ((kk + 1 + 1 + 1 + 1) + 1 + 1 + 1 + (f z).q.ws.length) (f z).q.bs.length), .leaf (.int .i64 (((kk + 1 + 1 + 1 + 1) + 1 + 1 + 1 + (f z).q.ws.length + (f z).q.bs.length : Nat) : Int)), .list 8 (f z).np (fun i => trs (pT ((f z).pt i))), boolsT (f z).hs, .list 6 (f z).nt (fun i => trs (aT ((f z).tl i)))] T0)) (.row g off 13 n' K') (.slice (some ⟨g, off, none⟩) n' c) /\ Cg w (W3.setCell ⟨g, off + z * 13 + 9, none⟩ (.int .i64 ((k3 : Int)))) (Sk.row g off 13 n' K').bl) := ⟨(G3.out.1.setZ HH.out.2.1 hlt 9 (by decide) (by simp) _ (.int .i64 ((k3 : Int))) (.int .i64 (((kk + 1 + 1 + 1 + 1) + 1 + 1 + 1 + (f z).q.ws.length + (f z).q.bs.length : Nat) : Int)) rfl (congrArg (Value.int .i64) (by have := HC.out; have := HK0.out; have := HK2.out; have := HK3.out; omega)) rfl), (G3.out.2.set (p := ⟨g, off + z * 13 + 9, none⟩) (.inl rfl) (.int .i64 ((k3 : Int))))⟩
   go_upto_region 22 with fail
   obtain ⟨W4, hW4⟩ : ∃ W, W = (W3.setCell ⟨g, off + z * 13 + 9, none⟩ (.int .i64 ((k3 : Int)))) := ⟨_, rfl⟩
   rw [<- hW4] at G4 ⊢
   clear hW4 e9 f9 v0 G3 u9
   obtain ⟨u10, q10, t10⟩ := G4.out.1.cellZ hlt 10 (by decide)
   have t10' : Fit W4 (.list 8 (f z).np (fun i => trs (pT ((f z).pt i)))) (K' z 10) u10 := t10
   obtain ⟨a10, c10, rfl⟩ := t10'.shape
   have HS10 : Hid (Fit W4 (.list 8 (f z).np (fun i => trs (pT ((f z).pt i)))) (K' z 10) (.slice a10 ((f z).np) c10) /\ W4.cell? ⟨g, off + z * 13 + 10, none⟩ = some (.slice a10 ((f z).np) c10)) := ⟨t10', q10⟩
   have e10 : W4.cell? ⟨g, off + z * 13 + 10, none⟩ = some (.slice a10 ((f z).np) c10) := q10
   clear t10 t10' q10
   go_wp2_with fail
   refine (markPartS_f (f z).np (f z).pt a10 _ c10 (kk + 1 + 1 + 1 + 1 + ctVQ (f z).q) _ (K' z 10) _ (by have := HC.out; have := HK0.out; have := HK2.out; have := HK3.out; omega) HS10.out.1 (HH.out.2.1.1 z 10 hlt (by decide)).1 (by have := HC.out; have := HK0.out; have := HK2.out; have := HK3.out; omega)).mono ?_
   rintro e W5 ⟨rfl, m9, cg9⟩
   have G5 : Hid (Fit W5 (.list 13 n' (atZ z [.leaf (.int .i64 ((kk : Nat) : Int)), .leaf (.int .i64 ((kk + 1 : Nat) : Int)), .leaf (.int .i64 ((kk + 1 + 1 : Nat) : Int)), .leaf (.int .i64 ((kk + 1 + 1 + 1 : Nat) : Int)), .leaf (.int .i64 (((kk + 1 + 1 + 1 + 1) : Nat) : Int)), .leaf (.int .i64 (((kk + 1 + 1 + 1 + 1) + 1 : Nat) : Int)), .leaf (.int .i64 (((kk + 1 + 1 + 1 + 1) + 1 + 1 : Nat) : Int)), intsT (marksI ((kk + 1 + 1 + 1 + 1) + 1 + 1 + 1) (f z).q.ws.length), boolsT (marksB ((kk + 1 + 1 + 1 + 1) + 1 + 1 + 1 + (f z).q.ws.length) (f z).q.bs.length), .leaf (.int .i64 (((kk + 1 + 1 + 1 + 1) + 1 + 1 + 1 + (f z).q.ws.length + (f z).q.bs.length : Nat) : Int)), .list 8 (f z).np (fun i => trs (pT (nmVP (kk + 1 + 1 + 1 + 1 + ctVQ (f z).q + sumN i (fun i => ctVP ((f z).pt i))) ((f z).pt i)))), boolsT (f z).hs, .list 6 (f z).nt (fun i => trs (aT ((f z).tl i)))] T0)) (.row g off 13 n' K') (.slice (some ⟨g, off, none⟩) n' c) /\ Cg w W5 (Sk.row g off 13 n' K').bl) := ⟨G4.out.1.subZ HH.out.2.1 hlt 10 (by decide) (by simp) _ HS10.out.2 _ cg9 m9 rfl, G4.out.2.trans (cg9.mono (fun b hb => Sk.bl_in hlt (by decide) hb))⟩
   obtain ⟨k5, hk5⟩ : ∃ k5 : Nat, k5 = kk + 1 + 1 + 1 + 1 + ctVQ (f z).q + sumN (f z).np (fun i => ctVP ((f z).pt i)) := ⟨_, rfl⟩
   rw [<- hk5]
   have HK5 : Hid (k5 = kk + 1 + 1 + 1 + 1 + ctVQ (f z).q + sumN (f z).np (fun i => ctVP ((f z).pt i))) := hk5
   clear m9 cg9 hk5 e10 G4 HS10
   obtain ⟨u11, q11, t11⟩ := G5.out.1.cellZ hlt 11 (by decide)
   have t11' : Fit W5 (boolsT (f z).hs) (K' z 11) u11 := t11
   obtain ⟨a11, c11, rfl⟩ := t11'.shape
   have HS11 : Hid (Fit W5 (boolsT (f z).hs) (K' z 11) (.slice a11 ((f z).hs.length) c11) /\ W5.cell? ⟨g, off + z * 13 + 11, none⟩ = some (.slice a11 ((f z).hs.length) c11)) := ⟨t11', q11⟩
   have e11 : W5.cell? ⟨g, off + z * 13 + 11, none⟩ = some (.slice a11 ((f z).hs.length) c11) := q11
   clear t11 t11' q11
   go_wp2_with fail
   refine (markBoolS_f (f z).hs a11 _ c11 (kk + 1 + 1 + 1 + 1 + ctVQ (f z).q + sumN (f z).np (fun i => ctVP ((f z).pt i))) _ (K' z 11) _ (by have := HC.out; have := HK0.out; have := HK2.out; have := HK3.out; have := HK5.out; omega) HS11.out.1 (HH.out.2.1.1 z 11 hlt (by decide)).1 (by have := HC.out; have := HK0.out; have := HK2.out; have := HK3.out; have := HK5.out; omega)).mono ?_
   rintro e W6 ⟨rfl, m9, cg9⟩
   have G6 : Hid (Fit W6 (.list 13 n' (atZ z [.leaf (.int .i64 ((kk : Nat) : Int)), .leaf (.int .i64 ((kk + 1 : Nat) : Int)), .leaf (.int .i64 ((kk + 1 + 1 : Nat) : Int)), .leaf (.int .i64 ((kk + 1 + 1 + 1 : Nat) : Int)), .leaf (.int .i64 (((kk + 1 + 1 + 1 + 1) : Nat) : Int)), .leaf (.int .i64 (((kk + 1 + 1 + 1 + 1) + 1 : Nat) : Int)), .leaf (.int .i64 (((kk + 1 + 1 + 1 + 1) + 1 + 1 : Nat) : Int)), intsT (marksI ((kk + 1 + 1 + 1 + 1) + 1 + 1 + 1) (f z).q.ws.length), boolsT (marksB ((kk + 1 + 1 + 1 + 1) + 1 + 1 + 1 + (f z).q.ws.length) (f z).q.bs.length), .leaf (.int .i64 (((kk + 1 + 1 + 1 + 1) + 1 + 1 + 1 + (f z).q.ws.length + (f z).q.bs.length : Nat) : Int)), .list 8 (f z).np (fun i => trs (pT (nmVP (kk + 1 + 1 + 1 + 1 + ctVQ (f z).q + sumN i (fun i => ctVP ((f z).pt i))) ((f z).pt i)))), boolsT (marksB (kk + 1 + 1 + 1 + 1 + ctVQ (f z).q + sumN (f z).np (fun i => ctVP ((f z).pt i))) (f z).hs.length), .list 6 (f z).nt (fun i => trs (aT ((f z).tl i)))] T0)) (.row g off 13 n' K') (.slice (some ⟨g, off, none⟩) n' c) /\ Cg w W6 (Sk.row g off 13 n' K').bl) := ⟨G5.out.1.subZ HH.out.2.1 hlt 11 (by decide) (by simp) _ HS11.out.2 _ cg9 m9 rfl, G5.out.2.trans (cg9.mono (fun b hb => Sk.bl_in hlt (by decide) hb))⟩
   obtain ⟨k6, hk6⟩ : ∃ k6 : Nat, k6 = kk + 1 + 1 + 1 + 1 + ctVQ (f z).q + sumN (f z).np (fun i => ctVP ((f z).pt i)) + (f z).hs.length := ⟨_, rfl⟩
   rw [<- hk6]
   have HK6 : Hid (k6 = kk + 1 + 1 + 1 + 1 + ctVQ (f z).q + sumN (f z).np (fun i => ctVP ((f z).pt i)) + (f z).hs.length) := hk6
   clear m9 cg9 hk6 e11 G5 HS11
   obtain ⟨u12, q12, t12⟩ := G6.out.1.cellZ hlt 12 (by decide)
   have t12' : Fit W6 (.list 6 (f z).nt (fun i => trs (aT ((f z).tl i)))) (K' z 12) u12 := t12
   obtain ⟨a12, c12, rfl⟩ := t12'.shape
   have HS12 : Hid (Fit W6 (.list 6 (f z).nt (fun i => trs (aT ((f z).tl i)))) (K' z 12) (.slice a12 ((f z).nt) c12) /\ W6.cell? ⟨g, off + z * 13 + 12, none⟩ = some (.slice a12 ((f z).nt) c12)) := ⟨t12', q12⟩
   have e12 : W6.cell? ⟨g, off + z * 13 + 12, none⟩ = some (.slice a12 ((f z).nt) c12) := q12
   clear t12 t12' q12
   go_wp2_with fail
   refine (markRespS_f (f z).nt (f z).tl a12 _ c12 (kk + 1 + 1 + 1 + 1 + ctVQ (f z).q + sumN (f z).np (fun i => ctVP ((f z).pt i)) + (f z).hs.length) _ (K' z 12) _ (by have := HC.out; have := HK0.out; have := HK2.out; have := HK3.out; have := HK5.out; have := HK6.out; omega) HS12.out.1 (HH.out.2.1.1 z 12 hlt (by decide)).1 (by have := HC.out; have := HK0.out; have := HK2.out; have := HK3.out; have := HK5.out; have := HK6.out; omega)).mono ?_
   rintro e W7 ⟨rfl, m9, cg9⟩
   have G7 : Hid (Fit W7 (.list 13 n' (atZ z [.leaf (.int .i64 ((kk : Nat) : Int)), .leaf (.int .i64 ((kk + 1 : Nat) : Int)), .leaf (.int .i64 ((kk + 1 + 1 : Nat) : Int)), .leaf (.int .i64 ((kk + 1 + 1 + 1 : Nat) : Int)), .leaf (.int .i64 (((kk + 1 + 1 + 1 + 1) : Nat) : Int)), .leaf (.int .i64 (((kk + 1 + 1 + 1 + 1) + 1 : Nat) : Int)), .leaf (.int .i64 (((kk + 1 + 1 + 1 + 1) + 1 + 1 : Nat) : Int)), intsT (marksI ((kk + 1 + 1 + 1 + 1) + 1 + 1 + 1) (f z).q.ws.length), boolsT (marksB ((kk + 1 + 1 + 1 + 1) + 1 + 1 + 1 + (f z).q.ws.length) (f z).q.bs.length), .leaf (.int .i64 (((kk + 1 + 1 + 1 + 1) + 1 + 1 + 1 + (f z).q.ws.length + (f z).q.bs.length : Nat) : Int)), .list 8 (f z).np (fun i => trs (pT (nmVP (kk + 1 + 1 + 1 + 1 + ctVQ (f z).q + sumN i (fun i => ctVP ((f z).pt i))) ((f z).pt i)))), boolsT (marksB (kk + 1 + 1 + 1 + 1 + ctVQ (f z).q + sumN (f z).np (fun i => ctVP ((f z).pt i))) (f z).hs.length), .list 6 (f z).nt (fun i => trs (aT (nmVA (kk + 1 + 1 + 1 + 1 + ctVQ (f z).q + sumN (f z).np (fun i => ctVP ((f z).pt i)) + (f z).hs.length + sumN i (fun i => ctVA ((f z).tl i))) ((f z).tl i))))] T0)) (.row g off 13 n' K') (.slice (some ⟨g, off, none⟩) n' c) /\ Cg w W7 (Sk.row g off 13 n' K').bl) := ⟨G6.out.1.subZ HH.out.2.1 hlt 12 (by decide) (by simp) _ HS12.out.2 _ cg9 m9 rfl, G6.out.2.trans (cg9.mono (fun b hb => Sk.bl_in hlt (by decide) hb))⟩
   obtain ⟨k7, hk7⟩ : ∃ k7 : Nat, k7 = kk + 1 + 1 + 1 + 1 + ctVQ (f z).q + sumN (f z).np (fun i => ctVP ((f z).pt i)) + (f z).hs.length + sumN (f z).nt (fun i => ctVA ((f z).tl i)) := ⟨_, rfl⟩
   rw [<- hk7]
   have HK7 : Hid (k7 = kk + 1 + 1 + 1 + 1 + ctVQ (f z).q + sumN (f z).np (fun i => ctVP ((f z).pt i)) + (f z).hs.length + sumN (f z).nt (fun i => ctVA ((f z).tl i))) := hk7
   clear m9 cg9 hk7 e12 G6 HS12
   have HZ : Hid (Fit W7 (.list 13 n' (fun i => trs (dT (if i < z + 1 then nmVD (s + sumN i (fun i => ctVD (f i))) (f i) else f i)))) (.row g off 13 n' K') (.slice (some ⟨g, off, none⟩) n' c) /\ Cg w W7 (Sk.row g off 13 n' K').bl /\ (k7 : Int) = ((s + sumN (z + 1) (fun i => ctVD (f i)) : Nat) : Int)) := ⟨G7.out.1.doneZ (T1 := fun i => trs (dT (if i < z + 1 then nmVD (s + sumN i (fun i => ctVD (f i))) (f i) else f i))) (fun i hi => by rw [HT.out]; simp only [if_lt_succ hi]) (fun j hj => by simp only [if_pos (Nat.lt_succ_self z)]; rw [<- HK0.out.1]; rfl), G7.out.2, by have := HC.out; have := HK0.out; have := HK2.out; have := HK3.out; have := HK5.out; have := HK6.out; have := HK7.out; omega⟩
   clear G7 HT
   go_wp2
   go_roundw
   case rel => exact ⟨z + 1, by omega, by go_num, congrArg (Value.int .i64) HZ.out.2.2, HZ.out.1, HZ.out.2.1⟩
   case measure => simp [intOf]; omega
  have hi : ¬ (z : Int) < (n' : Int) := by omega
  have e9 : z = n' := by omega
  subst e9
  have H1 : Hid (_ /\ _) := ⟨HE.out _ hF, hC⟩
  clear hF hC
  go_wp2
  go_ret
  exact ⟨rfl, H1.out.1, H1.out.2⟩
end Go.Proofs.YtkfgijkkffbpmaaGreat
