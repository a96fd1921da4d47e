/- Texts that the proof needs, joined: Mk10. -/
import Derived.Test.YtkfgijkkffbpmaaGreatV13
import Derived.Test.YtkfgijkkffbpmaaGreatV3
set_option linter.unusedVariables false
set_option linter.unusedSimpArgs false
set_option maxHeartbeats 8000000
set_option maxRecDepth 20000
namespace Go.Proofs.YtkfgijkkffbpmaaGreat
open Go.RowKit Go.Joins
def ctVI (X : VI) : Nat := X.co.length + X.ip.length + X.ho.length + X.wd.length
def nmVI (k : Nat) (X : VI) : VI := ⟨marksB (k) X.co.length, marksB (k + X.co.length) X.ip.length, marksI (k + X.co.length + X.ip.length) X.ho.length, marksI (k + X.co.length + X.ip.length + X.ho.length) X.wd.length⟩
def ctVS (X : VS) : Nat := 1 + 1 + ctVI X.d
def nmVS (k : Nat) (X : VS) : VS := ⟨((k : Nat) : Int), ((k + 1 : Nat) : Int), nmVI (k + 1 + 1) X.d⟩
def ctVK (X : VK) : Nat := 1 + 1 + 1 + 1 + ctVQ X.q + ctVA X.a
def nmVK (k : Nat) (X : VK) : VK := ⟨(((k : Nat) : Int) % 3 == 0), ((k + 1 : Nat) : Int), ((k + 1 + 1 : Nat) : Int), ((k + 1 + 1 + 1 : Nat) : Int), nmVQ (k + 1 + 1 + 1 + 1) X.q, nmVA (k + 1 + 1 + 1 + 1 + ctVQ X.q) X.a⟩
def ctVR (X : VR) : Nat := 1 + 1 + ctVQ X.q + sumN X.np (fun i => ctVP (X.pt i)) + sumN X.nt (fun i => ctVA (X.tl i)) + ctVA X.a
def nmVR (k : Nat) (X : VR) : VR := ⟨((k : Nat) : Int), ((k + 1 : Nat) : Int), nmVQ (k + 1 + 1) X.q, X.np, fun i => nmVP (k + 1 + 1 + ctVQ X.q + sumN i (fun i => ctVP (X.pt i))) (X.pt i), X.nt, fun i => nmVA (k + 1 + 1 + ctVQ X.q + sumN X.np (fun i => ctVP (X.pt i)) + sumN i (fun i => ctVA (X.tl i))) (X.tl i), nmVA (k + 1 + 1 + ctVQ X.q + sumN X.np (fun i => ctVP (X.pt i)) + sumN X.nt (fun i => ctVA (X.tl i))) X.a⟩
def ctVE (X : VE) : Nat := 1 + 1 + 1 + ctVQ X.q + ctVA X.a
def nmVE (k : Nat) (X : VE) : VE := ⟨((k : Nat) : Int), ((k + 1 : Nat) : Int), ((k + 1 + 1 : Nat) : Int), nmVQ (k + 1 + 1 + 1) X.q, nmVA (k + 1 + 1 + 1 + ctVQ X.q) X.a⟩
theorem markPostS_f (n : Nat) (f : Nat -> VS) (a : Option Addr) (n' c s : Nat) (x : Int) (K : Sk) (w : World) (hx : x = ((s : Nat) : Int)) (h : Fit w (.list 6 n (fun i => trs (xsT (f i)))) K (.slice a n' c)) (hok : K.ok) (hB : s + sumN n (fun i => ctVS (f i)) <= 1125899906842624) :
 Calls Tryz.prog 33 #[.slice a n' c, .int .i64 x] w fun e w' => e = .returned (.int .i64 ((s + sumN n (fun i => ctVS (f i)) : Nat) : Int)) /\ Fit w' (.list 6 n (fun i => trs (xsT (nmVS (s + sumN i (fun i => ctVS (f i))) (f i))))) K (.slice a n' c) /\ Cg w w' K.bl := by
 subst hx
 obtain ⟨rfl, hc1, hm⟩ := h.len
 unfold maxLen at hm
 have HE : Hid (∀ w', Fit w' (.list 6 n' (fun i => trs (xsT (if i < n' then nmVS (s + sumN i (fun i => ctVS (f i))) (f i) else f i)))) K (.slice a n' c) -> Fit w' (.list 6 n' (fun i => trs (xsT (nmVS (s + sumN i (fun i => ctVS (f i))) (f i))))) K (.slice a n' c)) := by
  show ∀ w', _
  intro w' h9
  exact h9.congr (fun k j hk hj => by simp only [if_pos hk])
 have h1 : Fit w (.list 6 n' (fun i => trs (xsT (if i < 0 then nmVS (s + sumN i (fun i => ctVS (f i))) (f i) else f i)))) K (.slice a n' c) := h.congr (fun k j hk hj => by simp)
 clear h
 by_cases h0 : n' = 0
 ·subst h0
  have h2 := HE.out w h1
  clear h1
  go_enter Tryz.func33, Tryz.ntmps33
  go_wp2
  refine wp_loop_rounds 1 ?_
  rw [rounds_succ]
  go_wp2
  go_ret
  exact ⟨rfl, h2, Cg.refl _ _⟩
 obtain ⟨g, off, K', rfl, rfl, -, -, -, hg, -⟩ := h1.row (by omega)
 have HH : Hid (Fit w (.list 6 n' (fun i => trs (xsT (if i < 0 then nmVS (s + sumN i (fun i => ctVS (f i))) (f i) else f i)))) (.row g off 6 n' K') (.slice (some ⟨g, off, none⟩) n' c) /\ (Sk.row g off 6 n' K').ok /\ s + sumN n' (fun i => ctVS (f i)) <= 1125899906842624) := ⟨h1, hok, hB⟩
 clear h1 hok hB
 go_enter Tryz.func33, Tryz.ntmps33
 go_wp2
 go_loopw [1, 5] (fun kv i wr => ∃ z : Nat, z <= n' /\ i = .int .i64 z /\ kv = .int .i64 ((s + sumN z (fun i => ctVS (f i)) : Nat) : Int) /\ Fit wr (.list 6 n' (fun i => trs (xsT (if i < z then nmVS (s + sumN i (fun i => ctVS (f i))) (f i) else f i)))) (.row g off 6 n' K') (.slice (some ⟨g, off, none⟩) n' c) /\ Cg w wr (Sk.row g off 6 n' K').bl) (fun _ i _ => n' - (intOf i).toNat)
 case atStart => exact ⟨0, Nat.zero_le _, rfl, rfl, HH.out.1, Cg.refl _ _⟩
 case round =>
  obtain ⟨z, hz, rfl, rfl, hF, hC⟩ := hrel
  by_cases hlt : z < n'
  ·have hi : (z : Int) < (n' : Int) := by omega
   obtain ⟨kk, hkk⟩ : ∃ kk, kk = s + sumN z (fun i => ctVS (f i)) := ⟨_, rfl⟩
   rw [<- hkk]
   have HC : Hid (ctVS (f z) = 1 + 1 + ctVI (f z).d /\ ctVI (f z).d = (f z).d.co.length + (f z).d.ip.length + (f z).d.ho.length + (f z).d.wd.length /\ True) := ⟨rfl, rfl, trivial⟩
   have HK0 : Hid (kk = s + sumN z (fun i => ctVS (f i)) /\ kk + ctVS (f z) <= 1125899906842624 /\ s + sumN (z + 1) (fun i => ctVS (f i)) = kk + ctVS (f z)) := ⟨hkk, by have h7 := sumN_le (g := (fun i => ctVS (f i))) hlt; have h8 := HH.out.2.2; omega, by rw [hkk]; simp only [sumN]; omega⟩
   obtain ⟨T0, hT0⟩ : ∃ T0 : Nat -> Nat -> Tr, T0 = (fun i => trs (xsT (if i < z then nmVS (s + sumN i (fun i => ctVS (f i))) (f i) else f i))) := ⟨_, rfl⟩
   rw [<- hT0] at hF
   have F0 := hF.toZ (z := z) (L := [.leaf (.int .i64 (f z).po), .leaf (.int .i64 (f z).un), boolsT (f z).d.co, boolsT (f z).d.ip, intsT (f z).d.ho, intsT (f z).d.wd]) (fun j hj => by rw [hT0]; simp only [if_neg (Nat.lt_irrefl z)]; rfl)
   have HT : Hid (T0 = (fun i => trs (xsT (if i < z then nmVS (s + sumN i (fun i => ctVS (f i))) (f i) else f i)))) := hT0
   have G0 : Hid (Fit wr (.list 6 n' (atZ z [.leaf (.int .i64 (f z).po), .leaf (.int .i64 (f z).un), boolsT (f z).d.co, boolsT (f z).d.ip, intsT (f z).d.ho, intsT (f z).d.wd] T0)) (.row g off 6 n' K') (.slice (some ⟨g, off, none⟩) n' c) /\ Cg w wr (Sk.row g off 6 n' K').bl) := ⟨F0, hC⟩
   clear hF hC F0 hT0 hkk
   obtain ⟨u0, q0, -⟩ := G0.out.1.cellZ hlt 0 (by decide)
   have e0 : wr.cell? ⟨g, off + z * 6, none⟩ = some u0 := q0
   clear q0
   have f0 := G0.out.1.fro (off + z * 6)
   obtain ⟨u1, q1, -⟩ := G0.out.1.cellZ hlt 1 (by decide)
   have e1 : wr.cell? ⟨g, off + z * 6 + 1, none⟩ = some u1 := q1
   clear q1
   have f1 := G0.out.1.fro (off + z * 6 + 1)
   have v0 : IntKind.i64.wrap ((kk : Int) + 1) = (kk : Int) + 1 := by have := HC.out; have := HK0.out; rw [IntKind.wrap_i64]; omega
   have v1 : IntKind.i64.wrap ((kk : Int) + 1 + 1) = (kk : Int) + 2 := by have := HC.out; have := HK0.out; rw [IntKind.wrap_i64]; omega
   have G1 : Hid (Fit ((wr.setCell ⟨g, off + z * 6, none⟩ (.int .i64 ((kk : Int)))).setCell ⟨g, off + z * 6 + 1, none⟩ (.int .i64 ((kk : Int) + 1))) (.list 6 n' (atZ z [.leaf (.int .i64 ((kk : Nat) : Int)), .leaf (.int .i64 ((kk + 1 : Nat) : Int)), boolsT (f z).d.co, boolsT (f z).d.ip, intsT (f z).d.ho, intsT (f z).d.wd] T0)) (.row g off 6 n' K') (.slice (some ⟨g, off, none⟩) n' c) /\ Cg w ((wr.setCell ⟨g, off + z * 6, none⟩ (.int .i64 ((kk : Int)))).setCell ⟨g, off + z * 6 + 1, none⟩ (.int .i64 ((kk : Int) + 1))) (Sk.row g off 6 n' K').bl) := ⟨((G0.out.1.setZ HH.out.2.1 hlt 0 (by decide) (by simp) _ (.int .i64 ((kk : Int))) (.int .i64 ((kk : Nat) : Int)) rfl (congrArg (Value.int .i64) (by have := HC.out; have := HK0.out; omega)) rfl).setZ HH.out.2.1 hlt 1 (by decide) (by simp) _ (.int .i64 ((kk : Int) + 1)) (.int .i64 ((kk + 1 : Nat) : Int)) rfl (congrArg (Value.int .i64) (by have := HC.out; have := HK0.out; omega)) rfl), ((G0.out.2.set (p := ⟨g, off + z * 6, none⟩) (.inl rfl) (.int .i64 ((kk : Int)))).set (p := ⟨g, off + z * 6 + 1, none⟩) (.inl rfl) (.int .i64 ((kk : Int) + 1)))⟩
   go_upto_region 8 with fail
   obtain ⟨W1, hW1⟩ : ∃ W, W = ((wr.setCell ⟨g, off + z * 6, none⟩ (.int .i64 ((kk : Int)))).setCell ⟨g, off + z * 6 + 1, none⟩ (.int .i64 ((kk : Int) + 1))) := ⟨_, rfl⟩
   rw [<- hW1] at G1 ⊢
   clear hW1 e0 f0 e1 f1 v0 v1 G0 u0 u1
   obtain ⟨u2, q2, t2⟩ := G1.out.1.cellZ hlt 2 (by decide)
   have t2' : Fit W1 (boolsT (f z).d.co) (K' z 2) u2 := t2
   obtain ⟨a2, c2, rfl⟩ := t2'.shape
   have HS2 : Hid (Fit W1 (boolsT (f z).d.co) (K' z 2) (.slice a2 ((f z).d.co.length) c2) /\ W1.cell? ⟨g, off + z * 6 + 2, none⟩ = some (.slice a2 ((f z).d.co.length) c2)) := ⟨t2', q2⟩
   have e2 : W1.cell? ⟨g, off + z * 6 + 2, none⟩ = some (.slice a2 ((f z).d.co.length) c2) := q2
   clear t2 t2' q2
   go_wp2_with fail
   refine (markBoolS_f (f z).d.co a2 _ c2 ((kk + 1 + 1)) _ (K' z 2) _ (by have := HC.out; have := HK0.out; omega) HS2.out.1 (HH.out.2.1.1 z 2 hlt (by decide)).1 (by have := HC.out; have := HK0.out; omega)).mono ?_
   rintro e W2 ⟨rfl, m9, cg9⟩
   have G2 : Hid (Fit W2 (.list 6 n' (atZ z [.leaf (.int .i64 ((kk : Nat) : Int)), .leaf (.int .i64 ((kk + 1 : Nat) : Int)), boolsT (marksB ((kk + 1 + 1)) (f z).d.co.length), boolsT (f z).d.ip, intsT (f z).d.ho, intsT (f z).d.wd] T0)) (.row g off 6 n' K') (.slice (some ⟨g, off, none⟩) n' c) /\ Cg w W2 (Sk.row g off 6 n' K').bl) := ⟨G1.out.1.subZ HH.out.2.1 hlt 2 (by decide) (by simp) _ HS2.out.2 _ cg9 m9 rfl, G1.out.2.trans (cg9.mono (fun b hb => Sk.bl_in hlt (by decide) hb))⟩
   obtain ⟨k2, hk2⟩ : ∃ k2 : Nat, k2 = (kk + 1 + 1) + (f z).d.co.length := ⟨_, rfl⟩
   rw [<- hk2]
   have HK2 : Hid (k2 = (kk + 1 + 1) + (f z).d.co.length) := hk2
   clear m9 cg9 hk2 e2 G1 HS2
   obtain ⟨u3, q3, t3⟩ := G2.out.1.cellZ hlt 3 (by decide)
   have t3' : Fit W2 (boolsT (f z).d.ip) (K' z 3) u3 := t3
   obtain ⟨a3, c3, rfl⟩ := t3'.shape
   have HS3 : Hid (Fit W2 (boolsT (f z).d.ip) (K' z 3) (.slice a3 ((f z).d.ip.length) c3) /\ W2.cell? ⟨g, off + z * 6 + 3, none⟩ = some (.slice a3 ((f z).d.ip.length) c3)) := ⟨t3', q3⟩
   have e3 : W2.cell? ⟨g, off + z * 6 + 3, none⟩ = some (.slice a3 ((f z).d.ip.length) c3) := q3
   clear t3 t3' q3
   go_wp2_with fail
   refine (markBoolS_f (f z).d.ip a3 _ c3 ((kk + 1 + 1) + (f z).d.co.length) _ (K' z 3) _ (by have := HC.out; have := HK0.out; have := HK2.out; omega) HS3.out.1 (HH.out.2.1.1 z 3 hlt (by decide)).1 (by have := HC.out; have := HK0.out; have := HK2.out; omega)).mono ?_
   rintro e W3 ⟨rfl, m9, cg9⟩
   have G3 : Hid (Fit W3 (.list 6 n' (atZ z [.leaf (.int .i64 ((kk : Nat) : Int)), .leaf (.int .i64 ((kk + 1 : Nat) : Int)), boolsT (marksB ((kk + 1 + 1)) (f z).d.co.length), boolsT (marksB ((kk + 1 + 1) + (f z).d.co.length) (f z).d.ip.length), intsT (f z).d.ho, intsT (f z).d.wd] T0)) (.row g off 6 n' K') (.slice (some ⟨g, off, none⟩) n' c) /\ Cg w W3 (Sk.row g off 6 n' K').bl) := ⟨G2.out.1.subZ HH.out.2.1 hlt 3 (by decide) (by simp) _ HS3.out.2 _ cg9 m9 rfl, G2.out.2.trans (cg9.mono (fun b hb => Sk.bl_in hlt (by decide) hb))⟩
   obtain ⟨k3, hk3⟩ : ∃ k3 : Nat, k3 = (kk + 1 + 1) + (f z).d.co.length + (f z).d.ip.length := ⟨_, rfl⟩
   rw [<- hk3]
   have HK3 : Hid (k3 = (kk + 1 + 1) + (f z).d.co.length + (f z).d.ip.length) := hk3
   clear m9 cg9 hk3 e3 G2 HS3
   obtain ⟨u4, q4, t4⟩ := G3.out.1.cellZ hlt 4 (by decide)
   have t4' : Fit W3 (intsT (f z).d.ho) (K' z 4) u4 := t4
   obtain ⟨a4, c4, rfl⟩ := t4'.shape
   have HS4 : Hid (Fit W3 (intsT (f z).d.ho) (K' z 4) (.slice a4 ((f z).d.ho.length) c4) /\ W3.cell? ⟨g, off + z * 6 + 4, none⟩ = some (.slice a4 ((f z).d.ho.length) c4)) := ⟨t4', q4⟩
   have e4 : W3.cell? ⟨g, off + z * 6 + 4, none⟩ = some (.slice a4 ((f z).d.ho.length) c4) := q4
   clear t4 t4' q4
   go_wp2_with fail
   refine (markIntS_f (f z).d.ho a4 _ c4 ((kk + 1 + 1) + (f z).d.co.length + (f z).d.ip.length) _ (K' z 4) _ (by have := HC.out; have := HK0.out; have := HK2.out; have := HK3.out; omega) HS4.out.1 (HH.out.2.1.1 z 4 hlt (by decide)).1 (by have := HC.out; have := HK0.out; have := HK2.out; have := HK3.out; omega)).mono ?_
   rintro e W4 ⟨rfl, m9, cg9⟩
   have G4 : Hid (Fit W4 (.list 6 n' (atZ z [.leaf (.int .i64 ((kk : Nat) : Int)), .leaf (.int .i64 ((kk + 1 : Nat) : Int)), boolsT (marksB ((kk + 1 + 1)) (f z).d.co.length), boolsT (marksB ((kk + 1 + 1) + (f z).d.co.length) (f z).d.ip.length), intsT (marksI ((kk + 1 + 1) + (f z).d.co.length + (f z).d.ip.length) (f z).d.ho.length), intsT (f z).d.wd] T0)) (.row g off 6 n' K') (.slice (some ⟨g, off, none⟩) n' c) /\ Cg w W4 (Sk.row g off 6 n' K').bl) := ⟨G3.out.1.subZ HH.out.2.1 hlt 4 (by decide) (by simp) _ HS4.out.2 _ cg9 m9 rfl, G3.out.2.trans (cg9.mono (fun b hb => Sk.bl_in hlt (by decide) hb))⟩
   obtain ⟨k4, hk4⟩ : ∃ k4 : Nat, k4 = (kk + 1 + 1) + (f z).d.co.length + (f z).d.ip.length + (f z).d.ho.length := ⟨_, rfl⟩
   rw [<- hk4]
   have HK4 : Hid (k4 = (kk + 1 + 1) + (f z).d.co.length + (f z).d.ip.length + (f z).d.ho.length) := hk4
   clear m9 cg9 hk4 e4 G3 HS4
   obtain ⟨u5, q5, t5⟩ := G4.out.1.cellZ hlt 5 (by decide)
   have t5' : Fit W4 (intsT (f z).d.wd) (K' z 5) u5 := t5
   obtain ⟨a5, c5, rfl⟩ := t5'.shape
   have HS5 : Hid (Fit W4 (intsT (f z).d.wd) (K' z 5) (.slice a5 ((f z).d.wd.length) c5) /\ W4.cell? ⟨g, off + z * 6 + 5, none⟩ = some (.slice a5 ((f z).d.wd.length) c5)) := ⟨t5', q5⟩
   have e5 : W4.cell? ⟨g, off + z * 6 + 5, none⟩ = some (.slice a5 ((f z).d.wd.length) c5) := q5
   clear t5 t5' q5
   go_wp2_with fail
   refine (markIntS_f (f z).d.wd a5 _ c5 ((kk + 1 + 1) + (f z).d.co.length + (f z).d.ip.length + (f z).d.ho.length) _ (K' z 5) _ (by have := HC.out; have := HK0.out; have := HK2.out; have := HK3.out; have := HK4.out; omega) HS5.out.1 (HH.out.2.1.1 z 5 hlt (by decide)).1 (by have := HC.out; have := HK0.out; have := HK2.out; have := HK3.out; have := HK4.out; omega)).mono ?_
   rintro e W5 ⟨rfl, m9, cg9⟩
   have G5 : Hid (Fit W5 (.list 6 n' (atZ z [.leaf (.int .i64 ((kk : Nat) : Int)), .leaf (.int .i64 ((kk + 1 : Nat) : Int)), boolsT (marksB ((kk + 1 + 1)) (f z).d.co.length), boolsT (marksB ((kk + 1 + 1) + (f z).d.co.length) (f z).d.ip.length), intsT (marksI ((kk + 1 + 1) + (f z).d.co.length + (f z).d.ip.length) (f z).d.ho.length), intsT (marksI ((kk + 1 + 1) + (f z).d.co.length + (f z).d.ip.length + (f z).d.ho.length) (f z).d.wd.length)] T0)) (.row g off 6 n' K') (.slice (some ⟨g, off, none⟩) n' c) /\ Cg w W5 (Sk.row g off 6 n' K').bl) := ⟨G4.out.1.subZ HH.out.2.1 hlt 5 (by decide) (by simp) _ HS5.out.2 _ cg9 m9 rfl, G4.out.2.trans (cg9.mono (fun b hb => Sk.bl_in hlt (by decide) hb))⟩
   obtain ⟨k5, hk5⟩ : ∃ k5 : Nat, k5 = (kk + 1 + 1) + (f z).d.co.length + (f z).d.ip.length + (f z).d.ho.length + (f z).d.wd.length := ⟨_, rfl⟩
   rw [<- hk5]
   have HK5 : Hid (k5 = (kk + 1 + 1) + (f z).d.co.length + (f z).d.ip.length + (f z).d.ho.length + (f z).d.wd.length) := hk5
   clear m9 cg9 hk5 e5 G4 HS5
   have HZ : Hid (Fit W5 (.list 6 n' (fun i => trs (xsT (if i < z + 1 then nmVS (s + sumN i (fun i => ctVS (f i))) (f i) else f i)))) (.row g off 6 n' K') (.slice (some ⟨g, off, none⟩) n' c) /\ Cg w W5 (Sk.row g off 6 n' K').bl /\ (k5 : Int) = ((s + sumN (z + 1) (fun i => ctVS (f i)) : Nat) : Int)) := ⟨G5.out.1.doneZ (T1 := fun i => trs (xsT (if i < z + 1 then nmVS (s + sumN i (fun i => ctVS (f i))) (f i) else f i))) (fun i hi => by rw [HT.out]; simp only [if_lt_succ hi]) (fun j hj => by simp only [if_pos (Nat.lt_succ_self z)]; rw [<- HK0.out.1]; rfl), G5.out.2, by have := HC.out; have := HK0.out; have := HK2.out; have := HK3.out; have := HK4.out; have := HK5.out; omega⟩
   clear G5 HT
   go_wp2
   go_roundw
   case rel => exact ⟨z + 1, by omega, by go_num, congrArg (Value.int .i64) HZ.out.2.2, HZ.out.1, HZ.out.2.1⟩
   case measure => simp [intOf]; omega
  have hi : ¬ (z : Int) < (n' : Int) := by omega
  have e9 : z = n' := by omega
  subst e9
  have H1 : Hid (_ /\ _) := ⟨HE.out _ hF, hC⟩
  clear hF hC
  go_wp2
  go_ret
  exact ⟨rfl, H1.out.1, H1.out.2⟩
theorem markPacketS_f (n : Nat) (f : Nat -> VK) (a : Option Addr) (n' c s : Nat) (x : Int) (K : Sk) (w : World) (hx : x = ((s : Nat) : Int)) (h : Fit w (.list 16 n (fun i => trs (xkT (f i)))) K (.slice a n' c)) (hok : K.ok) (hB : s + sumN n (fun i => ctVK (f i)) <= 1125899906842624) :
 Calls Tryz.prog 84 #[.slice a n' c, .int .i64 x] w fun e w' => e = .returned (.int .i64 ((s + sumN n (fun i => ctVK (f i)) : Nat) : Int)) /\ Fit w' (.list 16 n (fun i => trs (xkT (nmVK (s + sumN i (fun i => ctVK (f i))) (f i))))) K (.slice a n' c) /\ Cg w w' K.bl := by
 subst hx
 obtain ⟨rfl, hc1, hm⟩ := h.len
 unfold maxLen at hm
 have HE : Hid (∀ w', Fit w' (.list 16 n' (fun i => trs (xkT (if i < n' then nmVK (s + sumN i (fun i => ctVK (f i))) (f i) else f i)))) K (.slice a n' c) -> Fit w' (.list 16 n' (fun i => trs (xkT (nmVK (s + sumN i (fun i => ctVK (f i))) (f i))))) K (.slice a n' c)) := by
  show ∀ w', _
  intro w' h9
  exact h9.congr (fun k j hk hj => by simp only [if_pos hk])
 have h1 : Fit w (.list 16 n' (fun i => trs (xkT (if i < 0 then nmVK (s + sumN i (fun i => ctVK (f i))) (f i) else f i)))) K (.slice a n' c) := h.congr (fun k j hk hj => by simp)
 clear h
 by_cases h0 : n' = 0
 ·subst h0
  have h2 := HE.out w h1
  clear h1
  go_enter Tryz.func84, Tryz.ntmps84
  go_wp2
  refine wp_loop_rounds 1 ?_
  rw [rounds_succ]
  go_wp2
  go_ret
  exact ⟨rfl, h2, Cg.refl _ _⟩
 obtain ⟨g, off, K', rfl, rfl, -, -, -, hg, -⟩ := h1.row (by omega)
 have HH : Hid (Fit w (.list 16 n' (fun i => trs (xkT (if i < 0 then nmVK (s + sumN i (fun i => ctVK (f i))) (f i) else f i)))) (.row g off 16 n' K') (.slice (some ⟨g, off, none⟩) n' c) /\ (Sk.row g off 16 n' K').ok /\ s + sumN n' (fun i => ctVK (f i)) <= 1125899906842624) := ⟨h1, hok, hB⟩
 clear h1 hok hB
 go_enter Tryz.func84, Tryz.ntmps84
 go_wp2
 go_loopw [1, 5] (fun kv i wr => ∃ z : Nat, z <= n' /\ i = .int .i64 z /\ kv = .int .i64 ((s + sumN z (fun i => ctVK (f i)) : Nat) : Int) /\ Fit wr (.list 16 n' (fun i => trs (xkT (if i < z then nmVK (s + sumN i (fun i => ctVK (f i))) (f i) else f i)))) (.row g off 16 n' K') (.slice (some ⟨g, off, none⟩) n' c) /\ Cg w wr (Sk.row g off 16 n' K').bl) (fun _ i _ => n' - (intOf i).toNat)
 case atStart => exact ⟨0, Nat.zero_le _, rfl, rfl, HH.out.1, Cg.refl _ _⟩
 case round =>
  obtain ⟨z, hz, rfl, rfl, hF, hC⟩ := hrel
  by_cases hlt : z < n'
  ·have hi : (z : Int) < (n' : Int) := by omega
   obtain ⟨kk, hkk⟩ : ∃ kk, kk = s + sumN z (fun i => ctVK (f i)) := ⟨_, rfl⟩
   rw [<- hkk]
   have HC : Hid (ctVK (f z) = 1 + 1 + 1 + 1 + ctVQ (f z).q + ctVA (f z).a /\ ctVQ (f z).q = 1 + 1 + 1 + (f z).q.ws.length + (f z).q.bs.length + 1 /\ ctVA (f z).a = 1 + 1 + 1 + 1 + (f z).a.ws.length + (f z).a.bs.length /\ True) := ⟨rfl, rfl, rfl, trivial⟩
   have HK0 : Hid (kk = s + sumN z (fun i => ctVK (f i)) /\ kk + ctVK (f z) <= 1125899906842624 /\ s + sumN (z + 1) (fun i => ctVK (f i)) = kk + ctVK (f z)) := ⟨hkk, by have h7 := sumN_le (g := (fun i => ctVK (f i))) hlt; have h8 := HH.out.2.2; omega, by rw [hkk]; simp only [sumN]; omega⟩
   obtain ⟨T0, hT0⟩ : ∃ T0 : Nat -> Nat -> Tr, T0 = (fun i => trs (xkT (if i < z then nmVK (s + sumN i (fun i => ctVK (f i))) (f i) else f i))) := ⟨_, rfl⟩
   rw [<- hT0] at hF
   have F0 := hF.toZ (z := z) (L := [.leaf (.bool (f z).bk), .leaf (.int .i64 (f z).po), .leaf (.int .i64 (f z).nu), .leaf (.int .i64 (f z).un), .leaf (.int .i64 (f z).q.kd), .leaf (.int .i64 (f z).q.pl), .leaf (.int .i64 (f z).q.n), intsT (f z).q.ws, boolsT (f z).q.bs, .leaf (.int .i64 (f z).q.wa), .leaf (.int .i64 (f z).a.kd), .leaf (.int .i64 (f z).a.fl), .leaf (.int .i64 (f z).a.pl), .leaf (.int .i64 (f z).a.n), intsT (f z).a.ws, boolsT (f z).a.bs]) (fun j hj => by rw [hT0]; simp only [if_neg (Nat.lt_irrefl z)]; rfl)
   have HT : Hid (T0 = (fun i => trs (xkT (if i < z then nmVK (s + sumN i (fun i => ctVK (f i))) (f i) else f i)))) := hT0
   have G0 : Hid (Fit wr (.list 16 n' (atZ z [.leaf (.bool (f z).bk), .leaf (.int .i64 (f z).po), .leaf (.int .i64 (f z).nu), .leaf (.int .i64 (f z).un), .leaf (.int .i64 (f z).q.kd), .leaf (.int .i64 (f z).q.pl), .leaf (.int .i64 (f z).q.n), intsT (f z).q.ws, boolsT (f z).q.bs, .leaf (.int .i64 (f z).q.wa), .leaf (.int .i64 (f z).a.kd), .leaf (.int .i64 (f z).a.fl), .leaf (.int .i64 (f z).a.pl), .leaf (.int .i64 (f z).a.n), intsT (f z).a.ws, boolsT (f z).a.bs] T0)) (.row g off 16 n' K') (.slice (some ⟨g, off, none⟩) n' c) /\ Cg w wr (Sk.row g off 16 n' K').bl) := ⟨F0, hC⟩
   clear hF hC F0 hT0 hkk
   obtain ⟨u0, q0, -⟩ := G0.out.1.cellZ hlt 0 (by decide)
   have e0 : wr.cell? ⟨g, off + z * 16, none⟩ = some u0 := q0
   clear q0
   have f0 := G0.out.1.fro (off + z * 16)
   obtain ⟨u1, q1, -⟩ := G0.out.1.cellZ hlt 1 (by decide)
   have e1 : wr.cell? ⟨g, off + z * 16 + 1, none⟩ = some u1 := q1
   clear q1
   have f1 := G0.out.1.fro (off + z * 16 + 1)
   obtain ⟨u2, q2, -⟩ := G0.out.1.cellZ hlt 2 (by decide)
   have e2 : wr.cell? ⟨g, off + z * 16 + 2, none⟩ = some u2 := q2
   clear q2
   have f2 := G0.out.1.fro (off + z * 16 + 2)
   obtain ⟨u3, q3, -⟩ := G0.out.1.cellZ hlt 3 (by decide)
   have e3 : wr.cell? ⟨g, off + z * 16 + 3, none⟩ = some u3 := q3
   clear q3
   have f3 := G0.out.1.fro (off + z * 16 + 3)
   obtain ⟨u4, q4, -⟩ := G0.out.1.cellZ hlt 4 (by decide)
   have e4 : wr.cell? ⟨g, off + z * 16 + 4, none⟩ = some u4 := q4
   clear q4
   have f4 := G0.out.1.fro (off + z * 16 + 4)
   obtain ⟨u5, q5, -⟩ := G0.out.1.cellZ hlt 5 (by decide)
   have e5 : wr.cell? ⟨g, off + z * 16 + 5, none⟩ = some u5 := q5
   clear q5
   have f5 := G0.out.1.fro (off + z * 16 + 5)
   obtain ⟨u6, q6, -⟩ := G0.out.1.cellZ hlt 6 (by decide)
   have e6 : wr.cell? ⟨g, off + z * 16 + 6, none⟩ = some u6 := q6
   clear q6
   have f6 := G0.out.1.fro (off + z * 16 + 6)
   have v0 : IntKind.i64.wrap ((kk : Int) + 1) = (kk : Int) + 1 := by have := HC.out; have := HK0.out; rw [IntKind.wrap_i64]; omega
   have v1 : IntKind.i64.wrap ((kk : Int) + 1 + 1) = (kk : Int) + 2 := by have := HC.out; have := HK0.out; rw [IntKind.wrap_i64]; omega
   have v2 : IntKind.i64.wrap ((kk : Int) + 2 + 1) = (kk : Int) + 3 := by have := HC.out; have := HK0.out; rw [IntKind.wrap_i64]; omega
   have v3 : IntKind.i64.wrap ((kk : Int) + 3 + 1) = (kk : Int) + 4 := by have := HC.out; have := HK0.out; rw [IntKind.wrap_i64]; omega
   have v4 : IntKind.i64.wrap ((kk : Int) + 4 + 1) = (kk : Int) + 5 := by have := HC.out; have := HK0.out; rw [IntKind.wrap_i64]; omega
   have v5 : IntKind.i64.wrap ((kk : Int) + 5 + 1) = (kk : Int) + 6 := by have := HC.out; have := HK0.out; rw [IntKind.wrap_i64]; omega
   have v6 : IntKind.i64.wrap ((kk : Int) + 6 + 1) = (kk : Int) + 7 := by have := HC.out; have := HK0.out; rw [IntKind.wrap_i64]; omega
   have G1 : Hid (Fit (((((((wr.setCell ⟨g, off + z * 16, none⟩ (.bool (((kk : Int)) % 3 == 0))).setCell ⟨g, off + z * 16 + 1, none⟩ (.int .i64 ((kk : Int) + 1))).setCell ⟨g, off + z * 16 + 2, none⟩ (.int .i64 ((kk : Int) + 2))).setCell ⟨g, off + z * 16 + 3, none⟩ (.int .i64 ((kk : Int) + 3))).setCell ⟨g, off + z * 16 + 4, none⟩ (.int .i64 ((kk : Int) + 4))).setCell ⟨g, off + z * 16 + 5, none⟩ (.int .i64 ((kk : Int) + 5))).setCell ⟨g, off + z * 16 + 6, none⟩ (.int .i64 ((kk : Int) + 6))) (.list 16 n' (atZ z [.leaf (.bool (((kk : Nat) : Int) % 3 == 0)), .leaf (.int .i64 ((kk + 1 : Nat) : Int)), .leaf (.int .i64 ((kk + 1 + 1 : Nat) : Int)), .leaf (.int .i64 ((kk + 1 + 1 + 1 : Nat) : Int)), .leaf (.int .i64 (((kk + 1 + 1 + 1 + 1) : Nat) : Int)), .leaf (.int .i64 (((kk + 1 + 1 + 1 + 1) + 1 : Nat) : Int)), .leaf (.int .i64 (((kk + 1 + 1 + 1 + 1) + 1 + 1 : Nat) : Int)), intsT (f z).q.ws, boolsT (f z).q.bs, .leaf (.int .i64 (f z).q.wa), .leaf (.int .i64 (f z).a.kd), .leaf (.int .i64 (f z).a.fl), .leaf (.int .i64 (f z).a.pl), .leaf (.int .i64 (f z).a.n), intsT (f z).a.ws, boolsT (f z).a.bs] T0)) (.row g off 16 n' K') (.slice (some ⟨g, off, none⟩) n' c) /\ Cg w (((((((wr.setCell ⟨g, off + z * 16, none⟩ (.bool (((kk : Int)) % 3 == 0))).setCell ⟨g, off + z * 16 + 1, none⟩ (.int .i64 ((kk : Int) + 1))).setCell ⟨g, off + z * 16 + 2, none⟩ (.int .i64 ((kk : Int) + 2))).setCell ⟨g, off + z * 16 + 3, none⟩ (.int .i64 ((kk : Int) + 3))).setCell ⟨g, off + z * 16 + 4, none⟩ (.int .i64 ((kk : Int) + 4))).setCell ⟨g, off + z * 16 + 5, none⟩ (.int .i64 ((kk : Int) + 5))).setCell ⟨g, off + z * 16 + 6, none⟩ (.int .i64 ((kk : Int) + 6))) (Sk.row g off 16 n' K').bl) := ⟨(((((((G0.out.1.setZ HH.out.2.1 hlt 0 (by decide) (by simp) _ (.bool (((kk : Int)) % 3 == 0)) (.bool (((kk : Nat) : Int) % 3 == 0)) rfl (congrArg (fun x : Int => Value.bool (x % 3 == 0)) (by have := HC.out; have := HK0.out; omega)) rfl).setZ HH.out.2.1 hlt 1 (by decide) (by simp) _ (.int .i64 ((kk : Int) + 1)) (.int .i64 ((kk + 1 : Nat) : Int)) rfl (congrArg (Value.int .i64) (by have := HC.out; have := HK0.out; omega)) rfl).setZ HH.out.2.1 hlt 2 (by decide) (by simp) _ (.int .i64 ((kk : Int) + 2)) (.int .i64 ((kk + 1 + 1 : Nat) : Int)) rfl (congrArg (Value.int .i64) (by have := HC.out; have := HK0.out; omega)) rfl).setZ HH.out.2.1 hlt 3 (by decide) (by simp) _ (.int .i64 ((kk : Int) + 3)) (.int .i64 ((kk + 1 + 1 + 1 : Nat) : Int)) rfl (congrArg (Value.int .i64) (by have := HC.out; have := HK0.out; omega)) rfl).setZ HH.out.2.1 hlt 4 (by decide) (by simp) _ (.int .i64 ((kk : Int) + 4)) (.int .i64 (((kk + 1 + 1 + 1 + 1) : Nat) : Int)) rfl (congrArg (Value.int .i64) (by have := HC.out; have := HK0.out; omega)) rfl).setZ HH.out.2.1 hlt 5 (by decide) (by simp) _ (.int .i64 ((kk : Int) + 5)) (.int .i64 (((kk + 1 + 1 + 1 + 1) + 1 : Nat) : Int)) rfl (congrArg (Value.int .i64) (by have := HC.out; have := HK0.out; omega)) rfl).setZ HH.out.2.1 hlt 6 (by decide) (by simp) _ (.int .i64 ((kk : Int) + 6)) (.int .i64 (((kk + 1 + 1 + 1 + 1) + 1 + 1 : Nat) : Int)) rfl (congrArg (Value.int .i64) (by have := HC.out; have := HK0.out; omega)) rfl), (((((((G0.out.2.set (p := ⟨g, off + z * 16, none⟩) (.inl rfl) (.bool (((kk : Int)) % 3 == 0))).set (p := ⟨g, off + z * 16 + 1, none⟩) (.inl rfl) (.int .i64 ((kk : Int) + 1))).set (p := ⟨g, off + z * 16 + 2, none⟩) (.inl rfl) (.int .i64 ((kk : Int) + 2))).set (p := ⟨g, off + z * 16 + 3, none⟩) (.inl rfl) (.int .i64 ((kk : Int) + 3))).set (p := ⟨g, off + z * 16 + 4, none⟩) (.inl rfl) (.int .i64 ((kk : Int) + 4))).set (p := ⟨g, off + z * 16 + 5, none⟩) (.inl rfl) (.int .i64 ((kk : Int) + 5))).set (p := ⟨g, off + z * 16 + 6, none⟩) (.inl rfl) (.int .i64 ((kk : Int) + 6)))⟩
   go_upto_region 18 with fail
   obtain ⟨W1, hW1⟩ : ∃ W, W = (((((((wr.setCell ⟨g, off + z * 16, none⟩ (.bool (((kk : Int)) % 3 == 0))).setCell ⟨g, off + z * 16 + 1, none⟩ (.int .i64 ((kk : Int) + 1))).setCell ⟨g, off + z * 16 + 2, none⟩ (.int .i64 ((kk : Int) + 2))).setCell ⟨g, off + z * 16 + 3, none⟩ (.int .i64 ((kk : Int) + 3))).setCell ⟨g, off + z * 16 + 4, none⟩ (.int .i64 ((kk : Int) + 4))).setCell ⟨g, off + z * 16 + 5, none⟩ (.int .i64 ((kk : Int) + 5))).setCell ⟨g, off + z * 16 + 6, none⟩ (.int .i64 ((kk : Int) + 6))) := ⟨_, rfl⟩
   rw [<- hW1] at G1 ⊢
   clear hW1 e0 f0 e1 f1 e2 f2 e3 f3 e4 f4 e5 f5 e6 f6 v0 v1 v2 v3 v4 v5 v6 G0 u0 u1 u2 u3 u4 u5 u6
   obtain ⟨u7, q7, t7⟩ := G1.out.1.cellZ hlt 7 (by decide)
   have t7' : Fit W1 (intsT (f z).q.ws) (K' z 7) u7 := t7
   obtain ⟨a7, c7, rfl⟩ := t7'.shape
   have HS7 : Hid (Fit W1 (intsT (f z).q.ws) (K' z 7) (.slice a7 ((f z).q.ws.length) c7) /\ W1.cell? ⟨g, off + z * 16 + 7, none⟩ = some (.slice a7 ((f z).q.ws.length) c7)) := ⟨t7', q7⟩
   have e7 : W1.cell? ⟨g, off + z * 16 + 7, none⟩ = some (.slice a7 ((f z).q.ws.length) c7) := q7
   clear t7 t7' q7
   go_wp2_with fail
   refine (markIntS_f (f z).q.ws a7 _ c7 ((kk + 1 + 1 + 1 + 1) + 1 + 1 + 1) _ (K' z 7) _ (by have := HC.out; have := HK0.out; omega) HS7.out.1 (HH.out.2.1.1 z 7 hlt (by decide)).1 (by have := HC.out; have := HK0.out; omega)).mono ?_
   rintro e W2 ⟨rfl, m9, cg9⟩
   have G2 : Hid (Fit W2 (.list 16 n' (atZ z [.leaf (.bool (((kk : Nat) : Int) % 3 == 0)), .leaf (.int .i64 ((kk + 1 : Nat) : Int)), .leaf (.int .i64 ((kk + 1 + 1 : Nat) : Int)), .leaf (.int .i64 ((kk + 1 + 1 + 1 : Nat) : Int)), .leaf (.int .i64 (((kk + 1 + 1 + 1 + 1) : Nat) : Int)), .leaf (.int .i64 (((kk + 1 + 1 + 1 + 1) + 1 : Nat) : Int)), .leaf (.int .i64 (((kk + 1 + 1 + 1 + 1) + 1 + 1 : Nat) : Int)), intsT (marksI ((kk + 1 + 1 + 1 + 1) + 1 + 1 + 1) (f z).q.ws.length), boolsT (f z).q.bs, .leaf (.int .i64 (f z).q.wa), .leaf (.int .i64 (f z).a.kd), .leaf (.int .i64 (f z).a.fl), .leaf (.int .i64 (f z).a.pl), .leaf (.int .i64 (f z).a.n), intsT (f z).a.ws, boolsT (f z).a.bs] T0)) (.row g off 16 n' K') (.slice (some ⟨g, off, none⟩) n' c) /\ Cg w W2 (Sk.row g off 16 n' K').bl) := ⟨G1.out.1.subZ HH.out.2.1 hlt 7 (by decide) (by simp) _ HS7.out.2 _ cg9 m9 rfl, G1.out.2.trans (cg9.mono (fun b hb => Sk.bl_in hlt (by decide) hb))⟩
   obtain ⟨k2, hk2⟩ : ∃ k2 : Nat, k2 = (kk + 1 + 1 + 1 + 1) + 1 + 1 + 1 + (f z).q.ws.length := ⟨_, rfl⟩
   rw [<- hk2]
   have HK2 : Hid (k2 = (kk + 1 + 1 + 1 + 1) + 1 + 1 + 1 + (f z).q.ws.length) := hk2
   clear m9 cg9 hk2 e7 G1 HS7
   obtain ⟨u8, q8, t8⟩ := G2.out.1.cellZ hlt 8 (by decide)
   have t8' : Fit W2 (boolsT (f z).q.bs) (K' z 8) u8 := t8
   obtain ⟨a8, c8, rfl⟩ := t8'.shape
   have HS8 : Hid (Fit W2 (boolsT (f z).q.bs) (K' z 8) (.slice a8 ((f z).q.bs.length) c8) /\ W2.cell? ⟨g, off + z * 16 + 8, none⟩ = some (.slice a8 ((f z).q.bs.length) c8)) := ⟨t8', q8⟩
   have e8 : W2.cell? ⟨g, off + z * 16 + 8, none⟩ = some (.slice a8 ((f z).q.bs.length) c8) := q8
   clear t8 t8' q8
   go_wp2_with fail
   refine (markBoolS_f (f z).q.bs a8 _ c8 ((kk + 1 + 1 + 1 + 1) + 1 + 1 + 1 + (f z).q.ws.length) _ (K' z 8) _ (by have := HC.out; have := HK0.out; have := HK2.out; omega) HS8.out.1 (HH.out.2.1.1 z 8 hlt (by decide)).1 (by have := HC.out; have := HK0.out; have := HK2.out; omega)).mono ?_
   rintro e W3 ⟨rfl, m9, cg9⟩
   have G3 : Hid (Fit W3 (.list 16 n' (atZ z [.leaf (.bool (((kk : Nat) : Int) % 3 == 0)), .leaf (.int .i64 ((kk + 1 : Nat) : Int)), .leaf (.int .i64 ((kk + 1 + 1 : Nat) : Int)), .leaf (.int .i64 ((kk + 1 + 1 + 1 : Nat) : Int)), .leaf (.int .i64 (((kk + 1 + 1 + 1 + 1) : Nat) : Int)), .leaf (.int .i64 (((kk + 1 + 1 + 1 + 1) + 1 : Nat) : Int)), .leaf (.int .i64 (((kk + 1 + 1 + 1 + 1) + 1 + 1 : Nat) : Int)), intsT (marksI ((kk + 1 + 1 + 1 + 1) + 1 + 1 + 1) (f z).q.ws.length), boolsT (marksB ((kk + 1 + 1 + 1 + 1) + 1 + 1 + 1 + (f z).q.ws.length) (f z).q.bs.length), .leaf (.int .i64 (f z).q.wa), .leaf (.int .i64 (f z).a.kd), .leaf (.int .i64 (f z).a.fl), .leaf (.int .i64 (f z).a.pl), .leaf (.int .i64 (f z).a.n), intsT (f z).a.ws, boolsT (f z).a.bs] T0)) (.row g off 16 n' K') (.slice (some ⟨g, off, none⟩) n' c) /\ Cg w W3 (Sk.row g off 16 n' K').bl) := ⟨G2.out.1.subZ HH.out.2.1 hlt 8 (by decide) (by simp) _ HS8.out.2 _ cg9 m9 rfl, G2.out.2.trans (cg9.mono (fun b hb => Sk.bl_in hlt (by decide) hb))⟩
   obtain ⟨k3, hk3⟩ : ∃ k3 : Nat, k3 = (kk + 1 + 1 + 1 + 1) + 1 + 1 + 1 + (f z).q.ws.length + (f z).q.bs.length := ⟨_, rfl⟩
   rw [<- hk3]
   have HK3 : Hid (k3 = (kk + 1 + 1 + 1 + 1) + 1 + 1 + 1 + (f z).q.ws.length + (f z).q.bs.length) := hk3
   clear m9 cg9 hk3 e8 G2 HS8
   obtain ⟨u9, q9, -⟩ := G3.out.1.cellZ hlt 9 (by decide)
   have e9 : W3.cell? ⟨g, off + z * 16 + 9, none⟩ = some u9 := q9
   clear q9
   have f9 := G3.out.1.fro (off + z * 16 + 9)
   obtain ⟨u10, q10, -⟩ := G3.out.1.cellZ hlt 10 (by decide)
   have e10 : W3.cell? ⟨g, off + z * 16 + 10, none⟩ = some u10 := q10
   clear q10
   have f10 := G3.out.1.fro (off + z * 16 + 10)
   obtain ⟨u11, q11, -⟩ := G3.out.1.cellZ hlt 11 (by decide)
   have e11 : W3.cell? ⟨g, off + z * 16 + 11, none⟩ = some u11 := q11
   clear q11
   have f11 := G3.out.1.fro (off + z * 16 + 11)
   obtain ⟨u12, q12, -⟩ := G3.out.1.cellZ hlt 12 (by decide)
   have e12 : W3.cell? ⟨g, off + z * 16 + 12, none⟩ = some u12 := q12
   clear q12
   have f12 := G3.out.1.fro (off + z * 16 + 12)
   obtain ⟨u13, q13, -⟩ := G3.out.1.cellZ hlt 13 (by decide)
   have e13 : W3.cell? ⟨g, off + z * 16 + 13, none⟩ = some u13 := q13
   clear q13
   have f13 := G3.out.1.fro (off + z * 16 + 13)
   have v0 : IntKind.i64.wrap ((k3 : Int) + 1) = (k3 : Int) + 1 := by have := HC.out; have := HK0.out; have := HK2.out; have := HK3.out; rw [IntKind.wrap_i64]; omega
   have v1 : IntKind.i64.wrap ((k3 : Int) + 1 + 1) = (k3 : Int) + 2 := by have := HC.out; have := HK0.out; have := HK2.out; have := HK3.out; rw [IntKind.wrap_i64]; omega
   have v2 : IntKind.i64.wrap ((k3 : Int) + 2 + 1) = (k3 : Int) + 3 := by have := HC.out; have := HK0.out; have := HK2.out; have := HK3.out; rw [IntKind.wrap_i64]; omega
   have v3 : IntKind.i64.wrap ((k3 : Int) + 3 + 1) = (k3 : Int) + 4 := by have := HC.out; have := HK0.out; have := HK2.out; have := HK3.out; rw [IntKind.wrap_i64]; omega
   have v4 : IntKind.i64.wrap ((k3 : Int) + 4 + 1) = (k3 : Int) + 5 := by have := HC.out; have := HK0.out; have := HK2.out; have := HK3.out; rw [IntKind.wrap_i64]; omega
   have G4 : Hid (Fit (((((W3.setCell ⟨g, off + z * 16 + 9, none⟩ (.int .i64 ((k3 : Int)))).setCell ⟨g, off + z * 16 + 10, none⟩ (.int .i64 ((k3 : Int) + 1))).setCell ⟨g, off + z * 16 + 11, none⟩ (.int .i64 ((k3 : Int) + 2))).setCell ⟨g, off + z * 16 + 12, none⟩ (.int .i64 ((k3 : Int) + 3))).setCell ⟨g, off + z * 16 + 13, none⟩ (.int .i64 ((k3 : Int) + 4))) (.list 16 n' (atZ z [.leaf (.bool (((kk : Nat) : Int) % 3 == 0)), .leaf (.int .i64 ((kk + 1 : Nat) : Int)), .leaf (.int .i64 ((kk + 1 + 1 : Nat) : Int)), .leaf (.int .i64 ((kk + 1 + 1 + 1 : Nat) : Int)), .leaf (.int .i64 (((kk + 1 + 1 + 1 + 1) : Nat) : Int)), .leaf (.int .i64 (((kk + 1 + 1 + 1 + 1) + 1 : Nat) : Int)), .leaf (.int .i64 (((kk + 1 + 1 + 1 + 1) + 1 + 1 : Nat) : Int)), intsT (marksI ((kk + 1 + 1 + 1 + 1) + 1 + 1 + 1) (f z).q.ws.length), boolsT (marksB ((kk + 1 + 1 + 1 + 1) + 1 + 1 + 1 + (f z).q.ws.length) (f z).q.bs.length), .leaf (.int .i64 (((kk + 1 + 1 + 1 + 1) + 1 + 1 + 1 + (f z).q.ws.length + (f z).q.bs.length : Nat) : Int)), .leaf (.int .i64 (((kk + 1 + 1 + 1 + 1 + ctVQ (f z).q) : Nat) : Int)), .leaf (.int .i64 (((kk + 1 + 1 + 1 + 1 + ctVQ (f z).q) + 1 : Nat) : Int)), .leaf (.int .i64 (((kk + 1 + 1 + 1 + 1 + ctVQ (f z).q) + 1 + 1 : Nat) : Int)), .leaf (.int .i64 (((kk + 1 + 1 + 1 + 1 + ctVQ (f z).q) + 1 + 1 + 1 : Nat) : Int)), intsT (f z).a.ws, boolsT (f z).a.bs] T0)) (.row g off 16 n' K') (.slice (some ⟨g, off, none⟩) n' c) /\ Cg w (((((W3.setCell ⟨g, off + z * 16 + 9, none⟩ (.int .i64 ((k3 : Int)))).setCell ⟨g, off + z * 16 + 10, none⟩ (.int .i64 ((k3 : Int) + 1))).setCell ⟨g, off + z * 16 + 11, none⟩ (.int .i64 ((k3 : Int) + 2))).setCell ⟨g, off + z * 16 + 12, none⟩ (.int .i64 ((k3 : Int) + 3))).setCell ⟨g, off + z * 16 + 13, none⟩ (.int .i64 ((k3 : Int) + 4))) (Sk.row g off 16 n' K').bl) := ⟨(((((G3.out.1.setZ HH.out.2.1 hlt 9 (by decide) (by simp) _ (.int .i64 ((k3 : Int))) (.int .i64 (((kk + 1 + 1 + 1 + 1) + 1 + 1 + 1 + (f z).q.ws.length + (f z).q.bs.length : Nat) : Int)) rfl (congrArg (Value.int .i64) (by have := HC.out; have := HK0.out; have := HK2.out; have := HK3.out; omega)) rfl).setZ HH.out.2.1 hlt 10 (by decide) (by simp) _ (.int .i64 ((k3 : Int) + 1)) (.int .i64 (((kk + 1 + 1 + 1 + 1 + ctVQ (f z).q) : Nat) : Int)) rfl (congrArg (Value.int .i64) (by have := HC.out; have := HK0.out; have := HK2.out; have := HK3.out; omega)) rfl).setZ HH.out.2.1 hlt 11 (by decide) (by simp) _ (.int .i64 ((k3 : Int) + 2)) (.int .i64 (((kk + 1 + 1 + 1 + 1 + ctVQ (f z).q) + 1 : Nat) : Int)) rfl (congrArg (Value.int .i64) (by have := HC.out; have := HK0.out; have := HK2.out; have := HK3.out; omega)) rfl).setZ HH.out.2.1 hlt 12 (by decide) (by simp) _ (.int .i64 ((k3 : Int) + 3)) (.int .i64 (((kk + 1 + 1 + 1 + 1 + ctVQ (f z).q) + 1 + 1 : Nat) : Int)) rfl (congrArg (Value.int .i64) (by have := HC.out; have := HK0.out; have := HK2.out; have := HK3.out; omega)) rfl).setZ HH.out.2.1 hlt 13 (by decide) (by simp) _ (.int .i64 ((k3 : Int) + 4)) (.int .i64 (((kk + 1 + 1 + 1 + 1 + ctVQ (f z).q) + 1 + 1 + 1 : Nat) : Int)) rfl (congrArg (Value.int .i64) (by have := HC.out; have := HK0.out; have := HK2.out; have := HK3.out; omega)) rfl), (((((G3.out.2.set (p := ⟨g, off + z * 16 + 9, none⟩) (.inl rfl) (.int .i64 ((k3 : Int)))).set (p := ⟨g, off + z * 16 + 10, none⟩) (.inl rfl) (.int .i64 ((k3 : Int) + 1))).set (p := ⟨g, off + z * 16 + 11, none⟩) (.inl rfl) (.int .i64 ((k3 : Int) + 2))).set (p := ⟨g, off + z * 16 + 12, none⟩) (.inl rfl) (.int .i64 ((k3 : Int) + 3))).set (p := ⟨g, off + z * 16 + 13, none⟩) (.inl rfl) (.int .i64 ((k3 : Int) + 4)))⟩
   go_upto_region 30 with fail
   obtain ⟨W4, hW4⟩ : ∃ W, W = (((((W3.setCell ⟨g, off + z * 16 + 9, none⟩ (.int .i64 ((k3 : Int)))).setCell ⟨g, off + z * 16 + 10, none⟩ (.int .i64 ((k3 : Int) + 1))).setCell ⟨g, off + z * 16 + 11, none⟩ (.int .i64 ((k3 : Int) + 2))).setCell ⟨g, off + z * 16 + 12, none⟩ (.int .i64 ((k3 : Int) + 3))).setCell ⟨g, off + z * 16 + 13, none⟩ (.int .i64 ((k3 : Int) + 4))) := ⟨_, rfl⟩
   rw [<- hW4] at G4 ⊢
   clear hW4 e9 f9 e10 f10 e11 f11 e12 f12 e13 f13 v0 v1 v2 v3 v4 G3 u9 u10 u11 u12 u13
   obtain ⟨u14, q14, t14⟩ := G4.out.1.cellZ hlt 14 (by decide)
   have t14' : Fit W4 (intsT (f z).a.ws) (K' z 14) u14 := t14
   obtain ⟨a14, c14, rfl⟩ := t14'.shape
   have HS14 : Hid (Fit W4 (intsT (f z).a.ws) (K' z 14) (.slice a14 ((f z).a.ws.length) c14) /\ W4.cell? ⟨g, off + z * 16 + 14, none⟩ = some (.slice a14 ((f z).a.ws.length) c14)) := ⟨t14', q14⟩
   have e14 : W4.cell? ⟨g, off + z * 16 + 14, none⟩ = some (.slice a14 ((f z).a.ws.length) c14) := q14
   clear t14 t14' q14
   go_wp2_with fail
   refine (markIntS_f (f z).a.ws a14 _ c14 ((kk + 1 + 1 + 1 + 1 + ctVQ (f z).q) + 1 + 1 + 1 + 1) _ (K' z 14) _ (by have := HC.out; have := HK0.out; have := HK2.out; have := HK3.out; omega) HS14.out.1 (HH.out.2.1.1 z 14 hlt (by decide)).1 (by have := HC.out; have := HK0.out; have := HK2.out; have := HK3.out; omega)).mono ?_
   rintro e W5 ⟨rfl, m9, cg9⟩
   have G5 : Hid (Fit W5 (.list 16 n' (atZ z [.leaf (.bool (((kk : Nat) : Int) % 3 == 0)), .leaf (.int .i64 ((kk + 1 : Nat) : Int)), .leaf (.int .i64 ((kk + 1 + 1 : Nat) : Int)), .leaf (.int .i64 ((kk + 1 + 1 + 1 : Nat) : Int)), .leaf (.int .i64 (((kk + 1 + 1 + 1 + 1) : Nat) : Int)), .leaf (.int .i64 (((kk + 1 + 1 + 1 + 1) + 1 : Nat) : Int)), .leaf (.int .i64 (((kk + 1 + 1 + 1 + 1) + 1 + 1 : Nat) : Int)), intsT (marksI ((kk + 1 + 1 + 1 + 1) + 1 + 1 + 1) (f z).q.ws.length), boolsT (marksB ((kk + 1 + 1 + 1 + 1) + 1 + 1 + 1 + (f z).q.ws.length) (f z).q.bs.length), .leaf (.int .i64 (((kk + 1 + 1 + 1 + 1) + 1 + 1 + 1 + (f z).q.ws.length + (f z).q.bs.length : Nat) : Int)), .leaf (.int .i64 (((kk + 1 + 1 + 1 + 1 + ctVQ (f z).q) : Nat) : Int)), .leaf (.int .i64 (((kk + 1 + 1 + 1 + 1 + ctVQ (f z).q) + 1 : Nat) : Int)), .leaf (.int .i64 (((kk + 1 + 1 + 1 + 1 + ctVQ (f z).q) + 1 + 1 : Nat) : Int)), .leaf (.int .i64 (((kk + 1 + 1 + 1 + 1 + ctVQ (f z).q) + 1 + 1 + 1 : Nat) : Int)), intsT (marksI ((kk + 1 + 1 + 1 + 1 + ctVQ (f z).q) + 1 + 1 + 1 + 1) (f z).a.ws.length), boolsT (f z).a.bs] T0)) (.row g off 16 n' K') (.slice (some ⟨g, off, none⟩) n' c) /\ Cg w W5 (Sk.row g off 16 n' K').bl) := ⟨G4.out.1.subZ HH.out.2.1 hlt 14 (by decide) (by simp) _ HS14.out.2 _ cg9 m9 rfl, G4.out.2.trans (cg9.mono (fun b hb => Sk.bl_in hlt (by decide) hb))⟩
   obtain ⟨k5, hk5⟩ : ∃ k5 : Nat, k5 = (kk + 1 + 1 + 1 + 1 + ctVQ (f z).q) + 1 + 1 + 1 + 1 + (f z).a.ws.length := ⟨_, rfl⟩
   rw [<- hk5]
   have HK5 : Hid (k5 = (kk + 1 + 1 + 1 + 1 + ctVQ (f z).q) + 1 + 1 + 1 + 1 + (f z).a.ws.length) := hk5
   clear m9 cg9 hk5 e14 G4 HS14
   obtain ⟨u15, q15, t15⟩ := G5.out.1.cellZ hlt 15 (by decide)
   have t15' : Fit W5 (boolsT (f z).a.bs) (K' z 15) u15 := t15
   obtain ⟨a15, c15, rfl⟩ := t15'.shape
   have HS15 : Hid (Fit W5 (boolsT (f z).a.bs) (K' z 15) (.slice a15 ((f z).a.bs.length) c15) /\ W5.cell? ⟨g, off + z * 16 + 15, none⟩ = some (.slice a15 ((f z).a.bs.length) c15)) := ⟨t15', q15⟩
   have e15 : W5.cell? ⟨g, off + z * 16 + 15, none⟩ = some (.slice a15 ((f z).a.bs.length) c15) := q15
   clear t15 t15' q15
   go_wp2_with fail
   refine (markBoolS_f (f z).a.bs a15 _ c15 ((kk + 1 + 1 + 1 + 1 + ctVQ (f z).q) + 1 + 1 + 1 + 1 + (f z).a.ws.length) _ (K' z 15) _ (by have := HC.out; have := HK0.out; have := HK2.out; have := HK3.out; have := HK5.out; omega) HS15.out.1 (HH.out.2.1.1 z 15 hlt (by decide)).1 (by have := HC.out; have := HK0.out; have := HK2.out; have := HK3.out; have := HK5.out; omega)).mono ?_
   rintro e W6 ⟨rfl, m9, cg9⟩
   have G6 : Hid (Fit W6 (.list 16 n' (atZ z [.leaf (.bool (((kk : Nat) : Int) % 3 == 0)), .leaf (.int .i64 ((kk + 1 : Nat) : Int)), .leaf (.int .i64 ((kk + 1 + 1 : Nat) : Int)), .leaf (.int .i64 ((kk + 1 + 1 + 1 : Nat) : Int)), .leaf (.int .i64 (((kk + 1 + 1 + 1 + 1) : Nat) : Int)), .leaf (.int .i64 (((kk + 1 + 1 + 1 + 1) + 1 : Nat) : Int)), .leaf (.int .i64 (((kk + 1 + 1 + 1 + 1) + 1 + 1 : Nat) : Int)), intsT (marksI ((kk + 1 + 1 + 1 + 1) + 1 + 1 + 1) (f z).q.ws.length), boolsT (marksB ((kk + 1 + 1 + 1 + 1) + 1 + 1 + 1 + (f z).q.ws.length) (f z).q.bs.length), .leaf (.int .i64 (((kk + 1 + 1 + 1 + 1) + 1 + 1 + 1 + (f z).q.ws.length + (f z).q.bs.length : Nat) : Int)), .leaf (.int .i64 (((kk + 1 + 1 + 1 + 1 + ctVQ (f z).q) : Nat) : Int)), .leaf (.int .i64 (((kk + 1 + 1 + 1 + 1 + ctVQ (f z).q) + 1 : Nat) : Int)), .leaf (.int .i64 (((kk + 1 + 1 + 1 + 1 + ctVQ (f z).q) + 1 + 1 : Nat) : Int)), .leaf (.int .i64 (((kk + 1 + 1 + 1 + 1 + ctVQ (f z).q) + 1 + 1 + 1 : Nat) : Int)), intsT (marksI ((kk + 1 + 1 + 1 + 1 + ctVQ (f z).q) + 1 + 1 + 1 + 1) (f z).a.ws.length), boolsT (marksB ((kk + 1 + 1 + 1 + 1 + ctVQ (f z).q) + 1 + 1 + 1 + 1 + (f z).a.ws.length) (f z).a.bs.length)] T0)) (.row g off 16 n' K') (.slice (some ⟨g, off, none⟩) n' c) /\ Cg w W6 (Sk.row g off 16 n' K').bl) := ⟨G5.out.1.subZ HH.out.2.1 hlt 15 (by decide) (by simp) _ HS15.out.2 _ cg9 m9 rfl, G5.out.2.trans (cg9.mono (fun b hb => Sk.bl_in hlt (by decide) hb))⟩
   obtain ⟨k6, hk6⟩ : ∃ k6 : Nat, k6 = (kk + 1 + 1 + 1 + 1 + ctVQ (f z).q) + 1 + 1 + 1 + 1 + (f z).a.ws.length + (f z).a.bs.length := ⟨_, rfl⟩
   rw [<- hk6]
   have HK6 : Hid (k6 = (kk + 1 + 1 + 1 + 1 + ctVQ (f z).q) + 1 + 1 + 1 + 1 + (f z).a.ws.length + (f z).a.bs.length) := hk6
   clear m9 cg9 hk6 e15 G5 HS15
   have HZ : Hid (Fit W6 (.list 16 n' (fun i => trs (xkT (if i < z + 1 then nmVK (s + sumN i (fun i => ctVK (f i))) (f i) else f i)))) (.row g off 16 n' K') (.slice (some ⟨g, off, none⟩) n' c) /\ Cg w W6 (Sk.row g off 16 n' K').bl /\ (k6 : Int) = ((s + sumN (z + 1) (fun i => ctVK (f i)) : Nat) : Int)) := ⟨G6.out.1.doneZ (T1 := fun i => trs (xkT (if i < z + 1 then nmVK (s + sumN i (fun i => ctVK (f i))) (f i) else f i))) (fun i hi => by rw [HT.out]; simp only [if_lt_succ hi]) (fun j hj => by simp only [if_pos (Nat.lt_succ_self z)]; rw [<- HK0.out.1]; rfl), G6.out.2, by have := HC.out; have := HK0.out; have := HK2.out; have := HK3.out; have := HK5.out; have := HK6.out; omega⟩
   clear G6 HT
   go_wp2
   go_roundw
   case rel => exact ⟨z + 1, by omega, by go_num, congrArg (Value.int .i64) HZ.out.2.2, HZ.out.1, HZ.out.2.1⟩
   case measure => simp [intOf]; omega
  have hi : ¬ (z : Int) < (n' : Int) := by omega
  have e9 : z = n' := by omega
  subst e9
  have H1 : Hid (_ /\ _) := ⟨HE.out _ hF, hC⟩
  clear hF hC
  go_wp2
  go_ret
  exact ⟨rfl, H1.out.1, H1.out.2⟩
theorem markReplyS_f (n : Nat) (f : Nat -> VR) (a : Option Addr) (n' c s : Nat) (x : Int) (K : Sk) (w : World) (hx : x = ((s : Nat) : Int)) (h : Fit w (.list 16 n (fun i => trs (xyT (f i)))) K (.slice a n' c)) (hok : K.ok) (hB : s + sumN n (fun i => ctVR (f i)) <= 1125899906842624) :
 Calls Tryz.prog 85 #[.slice a n' c, .int .i64 x] w fun e w' => e = .returned (.int .i64 ((s + sumN n (fun i => ctVR (f i)) : Nat) : Int)) /\ Fit w' (.list 16 n (fun i => trs (xyT (nmVR (s + sumN i (fun i => ctVR (f i))) (f i))))) K (.slice a n' c) /\ Cg w w' K.bl := by
 subst hx
 obtain ⟨rfl, hc1, hm⟩ := h.len
 unfold maxLen at hm
 have HE : Hid (∀ w', Fit w' (.list 16 n' (fun i => trs (xyT (if i < n' then nmVR (s + sumN i (fun i => ctVR (f i))) (f i) else f i)))) K (.slice a n' c) -> Fit w' (.list 16 n' (fun i => trs (xyT (nmVR (s + sumN i (fun i => ctVR (f i))) (f i))))) K (.slice a n' c)) := by
  show ∀ w', _
  intro w' h9
  exact h9.congr (fun k j hk hj => by simp only [if_pos hk])
 have h1 : Fit w (.list 16 n' (fun i => trs (xyT (if i < 0 then nmVR (s + sumN i (fun i => ctVR (f i))) (f i) else f i)))) K (.slice a n' c) := h.congr (fun k j hk hj => by simp)
 clear h
 by_cases h0 : n' = 0
 ·subst h0
  have h2 := HE.out w h1
  clear h1
  go_enter Tryz.func85, Tryz.ntmps85
  go_wp2
  refine wp_loop_rounds 1 ?_
  rw [rounds_succ]
  go_wp2
  go_ret
  exact ⟨rfl, h2, Cg.refl _ _⟩
 obtain ⟨g, off, K', rfl, rfl, -, -, -, hg, -⟩ := h1.row (by omega)
 have HH : Hid (Fit w (.list 16 n' (fun i => trs (xyT (if i < 0 then nmVR (s + sumN i (fun i => ctVR (f i))) (f i) else f i)))) (.row g off 16 n' K') (.slice (some ⟨g, off, none⟩) n' c) /\ (Sk.row g off 16 n' K').ok /\ s + sumN n' (fun i => ctVR (f i)) <= 1125899906842624) := ⟨h1, hok, hB⟩
 clear h1 hok hB
 go_enter Tryz.func85, Tryz.ntmps85
 go_wp2
 go_loopw [1, 5] (fun kv i wr => ∃ z : Nat, z <= n' /\ i = .int .i64 z /\ kv = .int .i64 ((s + sumN z (fun i => ctVR (f i)) : Nat) : Int) /\ Fit wr (.list 16 n' (fun i => trs (xyT (if i < z then nmVR (s + sumN i (fun i => ctVR (f i))) (f i) else f i)))) (.row g off 16 n' K') (.slice (some ⟨g, off, none⟩) n' c) /\ Cg w wr (Sk.row g off 16 n' K').bl) (fun _ i _ => n' - (intOf i).toNat)
 case atStart => exact ⟨0, Nat.zero_le _, rfl, rfl, HH.out.1, Cg.refl _ _⟩
 case round =>
  obtain ⟨z, hz, rfl, rfl, hF, hC⟩ := hrel
  by_cases hlt : z < n'
  ·have hi : (z : Int) < (n' : Int) := by omega
   obtain ⟨kk, hkk⟩ : ∃ kk, kk = s + sumN z (fun i => ctVR (f i)) := ⟨_, rfl⟩
   rw [<- hkk]
   have HC : Hid (ctVR (f z) = 1 + 1 + ctVQ (f z).q + sumN (f z).np (fun i => ctVP ((f z).pt i)) + sumN (f z).nt (fun i => ctVA ((f z).tl i)) + ctVA (f z).a /\ ctVQ (f z).q = 1 + 1 + 1 + (f z).q.ws.length + (f z).q.bs.length + 1 /\ ctVA (f z).a = 1 + 1 + 1 + 1 + (f z).a.ws.length + (f z).a.bs.length /\ True) := ⟨rfl, rfl, rfl, trivial⟩
   have HK0 : Hid (kk = s + sumN z (fun i => ctVR (f i)) /\ kk + ctVR (f z) <= 1125899906842624 /\ s + sumN (z + 1) (fun i => ctVR (f i)) = kk + ctVR (f z)) := ⟨hkk, by have h7 := sumN_le (g := (fun i => ctVR (f i))) hlt; have h8 := HH.out.2.2; omega, by rw [hkk]; simp only [sumN]; omega⟩
   obtain ⟨T0, hT0⟩ : ∃ T0 : Nat -> Nat -> Tr, T0 = (fun i => trs (xyT (if i < z then nmVR (s + sumN i (fun i => ctVR (f i))) (f i) else f i))) := ⟨_, rfl⟩
   rw [<- hT0] at hF
   have F0 := hF.toZ (z := z) (L := [.leaf (.int .i64 (f z).so), .leaf (.int .i64 (f z).ta), .leaf (.int .i64 (f z).q.kd), .leaf (.int .i64 (f z).q.pl), .leaf (.int .i64 (f z).q.n), intsT (f z).q.ws, boolsT (f z).q.bs, .leaf (.int .i64 (f z).q.wa), .list 8 (f z).np (fun i => trs (pT ((f z).pt i))), .list 6 (f z).nt (fun i => trs (aT ((f z).tl i))), .leaf (.int .i64 (f z).a.kd), .leaf (.int .i64 (f z).a.fl), .leaf (.int .i64 (f z).a.pl), .leaf (.int .i64 (f z).a.n), intsT (f z).a.ws, boolsT (f z).a.bs]) (fun j hj => by rw [hT0]; simp only [if_neg (Nat.lt_irrefl z)]; rfl)
   have HT : Hid (T0 = (fun i => trs (xyT (if i < z then nmVR (s + sumN i (fun i => ctVR (f i))) (f i) else f i)))) := hT0
   have G0 : Hid (Fit wr (.list 16 n' (atZ z [.leaf (.int .i64 (f z).so), .leaf (.int .i64 (f z).ta), .leaf (.int .i64 (f z).q.kd), .leaf (.int .i64 (f z).q.pl), .leaf (.int .i64 (f z).q.n), intsT (f z).q.ws, boolsT (f z).q.bs, .leaf (.int .i64 (f z).q.wa), .list 8 (f z).np (fun i => trs (pT ((f z).pt i))), .list 6 (f z).nt (fun i => trs (aT ((f z).tl i))), .leaf (.int .i64 (f z).a.kd), .leaf (.int .i64 (f z).a.fl), .leaf (.int .i64 (f z).a.pl), .leaf (.int .i64 (f z).a.n), intsT (f z).a.ws, boolsT (f z).a.bs] T0)) (.row g off 16 n' K') (.slice (some ⟨g, off, none⟩) n' c) /\ Cg w wr (Sk.row g off 16 n' K').bl) := ⟨F0, hC⟩
   clear hF hC F0 hT0 hkk
   obtain ⟨u0, q0, -⟩ := G0.out.1.cellZ hlt 0 (by decide)
   have e0 : wr.cell? ⟨g, off + z * 16, none⟩ = some u0 := q0
   clear q0
   have f0 := G0.out.1.fro (off + z * 16)
   obtain ⟨u1, q1, -⟩ := G0.out.1.cellZ hlt 1 (by decide)
   have e1 : wr.cell? ⟨g, off + z * 16 + 1, none⟩ = some u1 := q1
   clear q1
   have f1 := G0.out.1.fro (off + z * 16 + 1)
   obtain ⟨u2, q2, -⟩ := G0.out.1.cellZ hlt 2 (by decide)
   have e2 : wr.cell? ⟨g, off + z * 16 + 2, none⟩ = some u2 := q2
   clear q2
   have f2 := G0.out.1.fro (off + z * 16 + 2)
   obtain ⟨u3, q3, -⟩ := G0.out.1.cellZ hlt 3 (by decide)
   have e3 : wr.cell? ⟨g, off + z * 16 + 3, none⟩ = some u3 := q3
   clear q3
   have f3 := G0.out.1.fro (off + z * 16 + 3)
   obtain ⟨u4, q4, -⟩ := G0.out.1.cellZ hlt 4 (by decide)
   have e4 : wr.cell? ⟨g, off + z * 16 + 4, none⟩ = some u4 := q4
   clear q4
   have f4 := G0.out.1.fro (off + z * 16 + 4)
   have v0 : IntKind.i64.wrap ((kk : Int) + 1) = (kk : Int) + 1 := by have := HC.out; have := HK0.out; rw [IntKind.wrap_i64]; omega
   have v1 : IntKind.i64.wrap ((kk : Int) + 1 + 1) = (kk : Int) + 2 := by have := HC.out; have := HK0.out; rw [IntKind.wrap_i64]; omega
   have v2 : IntKind.i64.wrap ((kk : Int) + 2 + 1) = (kk : Int) + 3 := by have := HC.out; have := HK0.out; rw [IntKind.wrap_i64]; omega
   have v3 : IntKind.i64.wrap ((kk : Int) + 3 + 1) = (kk : Int) + 4 := by have := HC.out; have := HK0.out; rw [IntKind.wrap_i64]; omega
   have v4 : IntKind.i64.wrap ((kk : Int) + 4 + 1) = (kk : Int) + 5 := by have := HC.out; have := HK0.out; rw [IntKind.wrap_i64]; omega
   have G1 : Hid (Fit (((((wr.setCell ⟨g, off + z * 16, none⟩ (.int .i64 ((kk : Int)))).setCell ⟨g, off + z * 16 + 1, none⟩ (.int .i64 ((kk : Int) + 1))).setCell ⟨g, off + z * 16 + 2, none⟩ (.int .i64 ((kk : Int) + 2))).setCell ⟨g, off + z * 16 + 3, none⟩ (.int .i64 ((kk : Int) + 3))).setCell ⟨g, off + z * 16 + 4, none⟩ (.int .i64 ((kk : Int) + 4))) (.list 16 n' (atZ z [.leaf (.int .i64 ((kk : Nat) : Int)), .leaf (.int .i64 ((kk + 1 : Nat) : Int)), .leaf (.int .i64 (((kk + 1 + 1) : Nat) : Int)), .leaf (.int .i64 (((kk + 1 + 1) + 1 : Nat) : Int)), .leaf (.int .i64 (((kk + 1 + 1) + 1 + 1 : Nat) : Int)), intsT (f z).q.ws, boolsT (f z).q.bs, .leaf (.int .i64 (f z).q.wa), .list 8 (f z).np (fun i => trs (pT ((f z).pt i))), .list 6 (f z).nt (fun i => trs (aT ((f z).tl i))), .leaf (.int .i64 (f z).a.kd), .leaf (.int .i64 (f z).a.fl), .leaf (.int .i64 (f z).a.pl), .leaf (.int .i64 (f z).a.n), intsT (f z).a.ws, boolsT (f z).a.bs] T0)) (.row g off 16 n' K') (.slice (some ⟨g, off, none⟩) n' c) /\ Cg w (((((wr.setCell ⟨g, off + z * 16, none⟩ (.int .i64 ((kk : Int)))).setCell ⟨g, off + z * 16 + 1, none⟩ (.int .i64 ((kk : Int) + 1))).setCell ⟨g, off + z * 16 + 2, none⟩ (.int .i64 ((kk : Int) + 2))).setCell ⟨g, off + z * 16 + 3, none⟩ (.int .i64 ((kk : Int) + 3))).setCell ⟨g, off + z * 16 + 4, none⟩ (.int .i64 ((kk : Int) + 4))) (Sk.row g off 16 n' K').bl) := ⟨(((((G0.out.1.setZ HH.out.2.1 hlt 0 (by decide) (by simp) _ (.int .i64 ((kk : Int))) (.int .i64 ((kk : Nat) : Int)) rfl (congrArg (Value.int .i64) (by have := HC.out; have := HK0.out; omega)) rfl).setZ HH.out.2.1 hlt 1 (by decide) (by simp) _ (.int .i64 ((kk : Int) + 1)) (.int .i64 ((kk + 1 : Nat) : Int)) rfl (congrArg (Value.int .i64) (by have := HC.out; have := HK0.out; omega)) rfl).setZ HH.out.2.1 hlt 2 (by decide) (by simp) _ (.int .i64 ((kk : Int) + 2)) (.int .i64 (((kk + 1 + 1) : Nat) : Int)) rfl (congrArg (Value.int .i64) (by have := HC.out; have := HK0.out; omega)) rfl).setZ HH.out.2.1 hlt 3 (by decide) (by simp) _ (.int .i64 ((kk : Int) + 3)) (.int .i64 (((kk + 1 + 1) + 1 : Nat) : Int)) rfl (congrArg (Value.int .i64) (by have := HC.out; have := HK0.out; omega)) rfl).setZ HH.out.2.1 hlt 4 (by decide) (by simp) _ (.int .i64 ((kk : Int) + 4)) (.int .i64 (((kk + 1 + 1) + 1 + 1 : Nat) : Int)) rfl (congrArg (Value.int .i64) (by have := HC.out; have := HK0.out; omega)) rfl), (((((G0.out.2.set (p := ⟨g, off + z * 16, none⟩) (.inl rfl) (.int .i64 ((kk : Int)))).set (p := ⟨g, off + z * 16 + 1, none⟩) (.inl rfl) (.int .i64 ((kk : Int) + 1))).set (p := ⟨g, off + z * 16 + 2, none⟩) (.inl rfl) (.int .i64 ((kk : Int) + 2))).set (p := ⟨g, off + z * 16 + 3, none⟩) (.inl rfl) (.int .i64 ((kk : Int) + 3))).set (p := ⟨g, off + z * 16 + 4, none⟩) (.inl rfl) (.int .i64 ((kk : Int) + 4)))⟩
   go_upto_region 14 with fail
   obtain ⟨W1, hW1⟩ : ∃ W, W = (((((wr.setCell ⟨g, off + z * 16, none⟩ (.int .i64 ((kk : Int)))).setCell ⟨g, off + z * 16 + 1, none⟩ (.int .i64 ((kk : Int) + 1))).setCell ⟨g, off + z * 16 + 2, none⟩ (.int .i64 ((kk : Int) + 2))).setCell ⟨g, off + z * 16 + 3, none⟩ (.int .i64 ((kk : Int) + 3))).setCell ⟨g, off + z * 16 + 4, none⟩ (.int .i64 ((kk : Int) + 4))) := ⟨_, rfl⟩
   rw [<- hW1] at G1 ⊢
   clear hW1 e0 f0 e1 f1 e2 f2 e3 f3 e4 f4 v0 v1 v2 v3 v4 G0 u0 u1 u2 u3 u4
   obtain ⟨u5, q5, t5⟩ := G1.out.1.cellZ hlt 5 (by decide)
   have t5' : Fit W1 (intsT (f z).q.ws) (K' z 5) u5 := t5
   obtain ⟨a5, c5, rfl⟩ := t5'.shape
   have HS5 : Hid (Fit W1 (intsT (f z).q.ws) (K' z 5) (.slice a5 ((f z).q.ws.length) c5) /\ W1.cell? ⟨g, off + z * 16 + 5, none⟩ = some (.slice a5 ((f z).q.ws.length) c5)) := ⟨t5', q5⟩
   have e5 : W1.cell? ⟨g, off + z * 16 + 5, none⟩ = some (.slice a5 ((f z).q.ws.length) c5) := q5
   clear t5 t5' q5
   go_wp2_with fail
   refine (markIntS_f (f z).q.ws a5 _ c5 ((kk + 1 + 1) + 1 + 1 + 1) _ (K' z 5) _ (by have := HC.out; have := HK0.out; omega) HS5.out.1 (HH.out.2.1.1 z 5 hlt (by decide)).1 (by have := HC.out; have := HK0.out; omega)).mono ?_
   rintro e W2 ⟨rfl, m9, cg9⟩
   have G2 : Hid (Fit W2 (.list 16 n' (atZ z [.leaf (.int .i64 ((kk : Nat) : Int)), .leaf (.int .i64 ((kk + 1 : Nat) : Int)), .leaf (.int .i64 (((kk + 1 + 1) : Nat) : Int)), .leaf (.int .i64 (((kk + 1 + 1) + 1 : Nat) : Int)), .leaf (.int .i64 (((kk + 1 + 1) + 1 + 1 : Nat) : Int)), intsT (marksI ((kk + 1 + 1) + 1 + 1 + 1) (f z).q.ws.length), boolsT (f z).q.bs, .leaf (.int .i64 (f z).q.wa), .list 8 (f z).np (fun i => trs (pT ((f z).pt i))), .list 6 (f z).nt (fun i => trs (aT ((f z).tl i))), .leaf (.int .i64 (f z).a.kd), .leaf (.int .i64 (f z).a.fl), .leaf (.int .i64 (f z).a.pl), .leaf (.int .i64 (f z).a.n), intsT (f z).a.ws, boolsT (f z).a.bs] T0)) (.row g off 16 n' K') (.slice (some ⟨g, off, none⟩) n' c) /\ Cg w W2 (Sk.row g off 16 n' K').bl) := ⟨G1.out.1.subZ HH.out.2.1 hlt 5 (by decide) (by simp) _ HS5.out.2 _ cg9 m9 rfl, G1.out.2.trans (cg9.mono (fun b hb => Sk.bl_in hlt (by decide) hb))⟩
   obtain ⟨k2, hk2⟩ : ∃ k2 : Nat, k2 = (kk + 1 + 1) + 1 + 1 + 1 + (f z).q.ws.length := ⟨_, rfl⟩
   rw [<- hk2]
   have HK2 : Hid (k2 = (kk + 1 + 1) + 1 + 1 + 1 + (f z).q.ws.length) := hk2
   clear m9 cg9 hk2 e5 G1 HS5
   obtain ⟨u6, q6, t6⟩ := G2.out.1.cellZ hlt 6 (by decide)
   have t6' : Fit W2 (boolsT (f z).q.bs) (K' z 6) u6 := t6
   obtain ⟨a6, c6, rfl⟩ := t6'.shape
   have HS6 : Hid (Fit W2 (boolsT (f z).q.bs) (K' z 6) (.slice a6 ((f z).q.bs.length) c6) /\ W2.cell? ⟨g, off + z * 16 + 6, none⟩ = some (.slice a6 ((f z).q.bs.length) c6)) := ⟨t6', q6⟩
   have e6 : W2.cell? ⟨g, off + z * 16 + 6, none⟩ = some (.slice a6 ((f z).q.bs.length) c6) := q6
   clear t6 t6' q6
   go_wp2_with fail
   refine (markBoolS_f (f z).q.bs a6 _ c6 ((kk + 1 + 1) + 1 + 1 + 1 + (f z).q.ws.length) _ (K' z 6) _ (by have := HC.out; have := HK0.out; have := HK2.out; omega) HS6.out.1 (HH.out.2.1.1 z 6 hlt (by decide)).1 (by have := HC.out; have := HK0.out; have := HK2.out; omega)).mono ?_
   rintro e W3 ⟨rfl, m9, cg9⟩
   have G3 : Hid (Fit W3 (.list 16 n' (atZ z [.leaf (.int .i64 ((kk : Nat) : Int)), .leaf (.int .i64 ((kk + 1 : Nat) : Int)), .leaf (.int .i64 (((kk + 1 + 1) : Nat) : Int)), .leaf (.int .i64 (((kk + 1 + 1) + 1 : Nat) : Int)), .leaf (.int .i64 (((kk + 1 + 1) + 1 + 1 : Nat) : Int)), intsT (marksI ((kk + 1 + 1) + 1 + 1 + 1) (f z).q.ws.length), boolsT (marksB ((kk + 1 + 1) + 1 + 1 + 1 + (f z).q.ws.length) (f z).q.bs.length), .leaf (.int .i64 (f z).q.wa), .list 8 (f z).np (fun i => trs (pT ((f z).pt i))), .list 6 (f z).nt (fun i => trs (aT ((f z).tl i))), .leaf (.int .i64 (f z).a.kd), .leaf (.int .i64 (f z).a.fl), .leaf (.int .i64 (f z).a.pl), .leaf (.int .i64 (f z).a.n), intsT (f z).a.ws, boolsT (f z).a.bs] T0)) (.row g off 16 n' K') (.slice (some ⟨g, off, none⟩) n' c) /\ Cg w W3 (Sk.row g off 16 n' K').bl) := ⟨G2.out.1.subZ HH.out.2.1 hlt 6 (by decide) (by simp) _ HS6.out.2 _ cg9 m9 rfl, G2.out.2.trans (cg9.mono (fun b hb => Sk.bl_in hlt (by decide) hb))⟩
   obtain ⟨k3, hk3⟩ : ∃ k3 : Nat, k3 = (kk + 1 + 1) + 1 + 1 + 1 + (f z).q.ws.length + (f z).q.bs.length := ⟨_, rfl⟩
   rw [<- hk3]
   have HK3 : Hid (k3 = (kk + 1 + 1) + 1 + 1 + 1 + (f z).q.ws.length + (f z).q.bs.length) := hk3
   clear m9 cg9 hk3 e6 G2 HS6
   obtain ⟨u7, q7, -⟩ := G3.out.1.cellZ hlt 7 (by decide)
   have e7 : W3.cell? ⟨g, off + z * 16 + 7, none⟩ = some u7 := q7
   clear q7
   have f7 := G3.out.1.fro (off + z * 16 + 7)
   have v0 : IntKind.i64.wrap ((k3 : Int) + 1) = (k3 : Int) + 1 := by have := HC.out; have := HK0.out; have := HK2.out; have := HK3.out; rw [IntKind.wrap_i64]; omega
   have G4 : Hid (Fit (W3.setCell ⟨g, off + z * 16 + 7, none⟩ (.int .i64 ((k3 : Int)))) (.list 16 n' (atZ z [.leaf (.int .i64 ((kk : Nat) : Int)), .leaf (.int .i64 ((kk + 1 : Nat) : Int)), .leaf (.int .i64 (((kk + 1 + 1) : Nat) : Int)), .leaf (.int .i64 (((kk + 1 + 1) + 1 : Nat) : Int)), .leaf (.int .i64 (((kk + 1 + 1) + 1 + 1 : Nat) : Int)), intsT (marksI ((kk + 1 + 1) + 1 + 1 + 1) (f z).q.ws.length), boolsT (marksB ((kk + 1 + 1) + 1 + 1 + 1 + (f z).q.ws.length) (f z).q.bs.length), .leaf (.int .i64 (((kk + 1 + 1) + 1 + 1 + 1 + (f z).q.ws.length + (f z).q.bs.length : Nat) : Int)), .list 8 (f z).np (fun i => trs (pT ((f z).pt i))), .list 6 (f z).nt (fun i => trs (aT ((f z).tl i))), .leaf (.int .i64 (f z).a.kd), .leaf (.int .i64 (f z).a.fl), .leaf (.int .i64 (f z).a.pl), .leaf (.int .i64 (f z).a.n), intsT (f z).a.ws, boolsT (f z).a.bs] T0)) (.row g off 16 n' K') (.slice (some ⟨g, off, none⟩) n' c) /\ Cg w (W3.setCell ⟨g, off + z * 16 + 7, none⟩ (.int .i64 ((k3 : Int)))) (Sk.row g off 16 n' K').bl) := ⟨(G3.out.1.setZ HH.out.2.1 hlt 7 (by decide) (by simp) _ (.int .i64 ((k3 : Int))) (.int .i64 (((kk + 1 + 1) + 1 + 1 + 1 + (f z).q.ws.length + (f z).q.bs.length : Nat) : Int)) rfl (congrArg (Value.int .i64) (by have := HC.out; have := HK0.out; have := HK2.out; have := HK3.out; omega)) rfl), (G3.out.2.set (p := ⟨g, off + z * 16 + 7, none⟩) (.inl rfl) (.int .i64 ((k3 : Int))))⟩
   go_upto_region 18 with fail
   obtain ⟨W4, hW4⟩ : ∃ W, W = (W3.setCell ⟨g, off + z * 16 + 7, none⟩ (.int .i64 ((k3 : Int)))) := ⟨_, rfl⟩
   rw [<- hW4] at G4 ⊢
   clear hW4 e7 f7 v0 G3 u7
   obtain ⟨u8, q8, t8⟩ := G4.out.1.cellZ hlt 8 (by decide)
   have t8' : Fit W4 (.list 8 (f z).np (fun i => trs (pT ((f z).pt i)))) (K' z 8) u8 := t8
   obtain ⟨a8, c8, rfl⟩ := t8'.shape
   have HS8 : Hid (Fit W4 (.list 8 (f z).np (fun i => trs (pT ((f z).pt i)))) (K' z 8) (.slice a8 ((f z).np) c8) /\ W4.cell? ⟨g, off + z * 16 + 8, none⟩ = some (.slice a8 ((f z).np) c8)) := ⟨t8', q8⟩
   have e8 : W4.cell? ⟨g, off + z * 16 + 8, none⟩ = some (.slice a8 ((f z).np) c8) := q8
   clear t8 t8' q8
   go_wp2_with fail
   refine (markPartS_f (f z).np (f z).pt a8 _ c8 (kk + 1 + 1 + ctVQ (f z).q) _ (K' z 8) _ (by have := HC.out; have := HK0.out; have := HK2.out; have := HK3.out; omega) HS8.out.1 (HH.out.2.1.1 z 8 hlt (by decide)).1 (by have := HC.out; have := HK0.out; have := HK2.out; have := HK3.out; omega)).mono ?_
   rintro e W5 ⟨rfl, m9, cg9⟩
   have G5 : Hid (Fit W5 (.list 16 n' (atZ z [.leaf (.int .i64 ((kk : Nat) : Int)), .leaf (.int .i64 ((kk + 1 : Nat) : Int)), .leaf (.int .i64 (((kk + 1 + 1) : Nat) : Int)), .leaf (.int .i64 (((kk + 1 + 1) + 1 : Nat) : Int)), .leaf (.int .i64 (((kk + 1 + 1) + 1 + 1 : Nat) : Int)), intsT (marksI ((kk + 1 + 1) + 1 + 1 + 1) (f z).q.ws.length), boolsT (marksB ((kk + 1 + 1) + 1 + 1 + 1 + (f z).q.ws.length) (f z).q.bs.length), .leaf (.int .i64 (((kk + 1 + 1) + 1 + 1 + 1 + (f z).q.ws.length + (f z).q.bs.length : Nat) : Int)), .list 8 (f z).np (fun i => trs (pT (nmVP (kk + 1 + 1 + ctVQ (f z).q + sumN i (fun i => ctVP ((f z).pt i))) ((f z).pt i)))), .list 6 (f z).nt (fun i => trs (aT ((f z).tl i))), .leaf (.int .i64 (f z).a.kd), .leaf (.int .i64 (f z).a.fl), .leaf (.int .i64 (f z).a.pl), .leaf (.int .i64 (f z).a.n), intsT (f z).a.ws, boolsT (f z).a.bs] T0)) (.row g off 16 n' K') (.slice (some ⟨g, off, none⟩) n' c) /\ Cg w W5 (Sk.row g off 16 n' K').bl) := ⟨G4.out.1.subZ HH.out.2.1 hlt 8 (by decide) (by simp) _ HS8.out.2 _ cg9 m9 rfl, G4.out.2.trans (cg9.mono (fun b hb => Sk.bl_in hlt (by decide) hb))⟩
   obtain ⟨k5, hk5⟩ : ∃ k5 : Nat, k5 = kk + 1 + 1 + ctVQ (f z).q + sumN (f z).np (fun i => ctVP ((f z).pt i)) := ⟨_, rfl⟩
   rw [<- hk5]
   have HK5 : Hid (k5 = kk + 1 + 1 + ctVQ (f z).q + sumN (f z).np (fun i => ctVP ((f z).pt i))) := hk5
   clear m9 cg9 hk5 e8 G4 HS8
   obtain ⟨u9, q9, t9⟩ := G5.out.1.cellZ hlt 9 (by decide)
   have t9' : Fit W5 (.list 6 (f z).nt (fun i => trs (aT ((f z).tl i)))) (K' z 9) u9 := t9
   obtain ⟨a9, c9, rfl⟩ := t9'.shape
   have HS9 : Hid (Fit W5 (.list 6 (f z).nt (fun i => trs (aT ((f z).tl i)))) (K' z 9) (.slice a9 ((f z).nt) c9) /\ W5.cell? ⟨g, off + z * 16 + 9, none⟩ = some (.slice a9 ((f z).nt) c9)) := ⟨t9', q9⟩
   have e9 : W5.cell? ⟨g, off + z * 16 + 9, none⟩ = some (.slice a9 ((f z).nt) c9) := q9
   clear t9 t9' q9
   go_wp2_with fail
   refine (markRespS_f (f z).nt (f z).tl a9 _ c9 (kk + 1 + 1 + ctVQ (f z).q + sumN (f z).np (fun i => ctVP ((f z).pt i))) _ (K' z 9) _ (by have := HC.out; have := HK0.out; have := HK2.out; have := HK3.out; have := HK5.out; omega) HS9.out.1 (HH.out.2.1.1 z 9 hlt (by decide)).1 (by have := HC.out; have := HK0.out; have := HK2.out; have := HK3.out; have := HK5.out; omega)).mono ?_
   rintro e W6 ⟨rfl, m9, cg9⟩
   have G6 : Hid (Fit W6 (.list 16 n' (atZ z [.leaf (.int .i64 ((kk : Nat) : Int)), .leaf (.int .i64 ((kk + 1 : Nat) : Int)), .leaf (.int .i64 (((kk + 1 + 1) : Nat) : Int)), .leaf (.int .i64 (((kk + 1 + 1) + 1 : Nat) : Int)), .leaf (.int .i64 (((kk + 1 + 1) + 1 + 1 : Nat) : Int)), intsT (marksI ((kk + 1 + 1) + 1 + 1 + 1) (f z).q.ws.length), boolsT (marksB ((kk + 1 + 1) + 1 + 1 + 1 + (f z).q.ws.length) (f z).q.bs.length), .leaf (.int .i64 (((kk + 1 + 1) + 1 + 1 + 1 + (f z).q.ws.length + (f z).q.bs.length : Nat) : Int)), .list 8 (f z).np (fun i => trs (pT (nmVP (kk + 1 + 1 + ctVQ (f z).q + sumN i (fun i => ctVP ((f z).pt i))) ((f z).pt i)))), .list 6 (f z).nt (fun i => trs (aT (nmVA (kk + 1 + 1 + ctVQ (f z).q + sumN (f z).np (fun i => ctVP ((f z).pt i)) + sumN i (fun i => ctVA ((f z).tl i))) ((f z).tl i)))), .leaf (.int .i64 (f z).a.kd), .leaf (.int .i64 (f z).a.fl), .leaf (.int .i64 (f z).a.pl), .leaf (.int .i64 (f z).a.n), intsT (f z).a.ws, boolsT (f z).a.bs] T0)) (.row g off 16 n' K') (.slice (some ⟨g, off, none⟩) n' c) /\ Cg w W6 (Sk.row g off 16 n' K').bl) := ⟨G5.out.1.subZ HH.out.2.1 hlt 9 (by decide) (by simp) _ HS9.out.2 _ cg9 m9 rfl, G5.out.2.trans (cg9.mono (fun b hb => Sk.bl_in hlt (by decide) hb))⟩
   obtain ⟨k6, hk6⟩ : ∃ k6 : Nat, k6 = kk + 1 + 1 + ctVQ (f z).q + sumN (f z).np (fun i => ctVP ((f z).pt i)) + sumN (f z).nt (fun i => ctVA ((f z).tl i)) := ⟨_, rfl⟩
   rw [<- hk6]
   have HK6 : Hid (k6 = kk + 1 + 1 + ctVQ (f z).q + sumN (f z).np (fun i => ctVP ((f z).pt i)) + sumN (f z).nt (fun i => ctVA ((f z).tl i))) := hk6
   clear m9 cg9 hk6 e9 G5 HS9
   obtain ⟨u10, q10, -⟩ := G6.out.1.cellZ hlt 10 (by decide)
   have e10 : W6.cell? ⟨g, off + z * 16 + 10, none⟩ = some u10 := q10
   clear q10
   have f10 := G6.out.1.fro (off + z * 16 + 10)
   obtain ⟨u11, q11, -⟩ := G6.out.1.cellZ hlt 11 (by decide)
   have e11 : W6.cell? ⟨g, off + z * 16 + 11, none⟩ = some u11 := q11
   clear q11
   have f11 := G6.out.1.fro (off + z * 16 + 11)
   obtain ⟨u12, q12, -⟩ := G6.out.1.cellZ hlt 12 (by decide)
   have e12 : W6.cell? ⟨g, off + z * 16 + 12, none⟩ = some u12 := q12
   clear q12
   have f12 := G6.out.1.fro (off + z * 16 + 12)
   obtain ⟨u13, q13, -⟩ := G6.out.1.cellZ hlt 13 (by decide)
   have e13 : W6.cell? ⟨g, off + z * 16 + 13, none⟩ = some u13 := q13
   clear q13
   have f13 := G6.out.1.fro (off + z * 16 + 13)
   have v0 : IntKind.i64.wrap ((k6 : Int) + 1) = (k6 : Int) + 1 := by have := HC.out; have := HK0.out; have := HK2.out; have := HK3.out; have := HK5.out; have := HK6.out; rw [IntKind.wrap_i64]; omega
   have v1 : IntKind.i64.wrap ((k6 : Int) + 1 + 1) = (k6 : Int) + 2 := by have := HC.out; have := HK0.out; have := HK2.out; have := HK3.out; have := HK5.out; have := HK6.out; rw [IntKind.wrap_i64]; omega
   have v2 : IntKind.i64.wrap ((k6 : Int) + 2 + 1) = (k6 : Int) + 3 := by have := HC.out; have := HK0.out; have := HK2.out; have := HK3.out; have := HK5.out; have := HK6.out; rw [IntKind.wrap_i64]; omega
   have v3 : IntKind.i64.wrap ((k6 : Int) + 3 + 1) = (k6 : Int) + 4 := by have := HC.out; have := HK0.out; have := HK2.out; have := HK3.out; have := HK5.out; have := HK6.out; rw [IntKind.wrap_i64]; omega
   have G7 : Hid (Fit ((((W6.setCell ⟨g, off + z * 16 + 10, none⟩ (.int .i64 ((k6 : Int)))).setCell ⟨g, off + z * 16 + 11, none⟩ (.int .i64 ((k6 : Int) + 1))).setCell ⟨g, off + z * 16 + 12, none⟩ (.int .i64 ((k6 : Int) + 2))).setCell ⟨g, off + z * 16 + 13, none⟩ (.int .i64 ((k6 : Int) + 3))) (.list 16 n' (atZ z [.leaf (.int .i64 ((kk : Nat) : Int)), .leaf (.int .i64 ((kk + 1 : Nat) : Int)), .leaf (.int .i64 (((kk + 1 + 1) : Nat) : Int)), .leaf (.int .i64 (((kk + 1 + 1) + 1 : Nat) : Int)), .leaf (.int .i64 (((kk + 1 + 1) + 1 + 1 : Nat) : Int)), intsT (marksI ((kk + 1 + 1) + 1 + 1 + 1) (f z).q.ws.length), boolsT (marksB ((kk + 1 + 1) + 1 + 1 + 1 + (f z).q.ws.length) (f z).q.bs.length), .leaf (.int .i64 (((kk + 1 + 1) + 1 + 1 + 1 + (f z).q.ws.length + (f z).q.bs.length : Nat) : Int)), .list 8 (f z).np (fun i => trs (pT (nmVP (kk + 1 + 1 + ctVQ (f z).q + sumN i (fun i => ctVP ((f z).pt i))) ((f z).pt i)))), .list 6 (f z).nt (fun i => trs (aT (nmVA (kk + 1 + 1 + ctVQ (f z).q + sumN (f z).np (fun i => ctVP ((f z).pt i)) + sumN i (fun i => ctVA ((f z).tl i))) ((f z).tl i)))), .leaf (.int .i64 (((kk + 1 + 1 + ctVQ (f z).q + sumN (f z).np (fun i => ctVP ((f z).pt i)) + sumN (f z).nt (fun i => ctVA ((f z).tl i))) : Nat) : Int)), .leaf (.int .i64 (((kk + 1 + 1 + ctVQ (f z).q + sumN (f z).np (fun i => ctVP ((f z).pt i)) + sumN (f z).nt (fun i => ctVA ((f z).tl i))) + 1 : Nat) : Int)), .leaf (.int .i64 (((kk + 1 + 1 + ctVQ (f z).q + sumN (f z).np (fun i => ctVP ((f z).pt i)) + sumN (f z).nt (fun i => ctVA ((f z).tl i))) + 1 + 1 : Nat) : Int)), .leaf (.int .i64 (((kk + 1 + 1 + ctVQ (f z).q + sumN (f z).np (fun i => ctVP ((f z).pt i)) + sumN (f z).nt (fun i => ctVA ((f z).tl i))) + 1 + 1 + 1 : Nat) : Int)), intsT (f z).a.ws, boolsT (f z).a.bs] T0)) (.row g off 16 n' K') (.slice (some ⟨g, off, none⟩) n' c) /\ Cg w ((((W6.setCell ⟨g, off + z * 16 + 10, none⟩ (.int .i64 ((k6 : Int)))).setCell ⟨g, off + z * 16 + 11, none⟩ (.int .i64 ((k6 : Int) + 1))).setCell ⟨g, off + z * 16 + 12, none⟩ (.int .i64 ((k6 : Int) + 2))).setCell ⟨g, off + z * 16 + 13, none⟩ (.int .i64 ((k6 : Int) + 3))) (Sk.row g off 16 n' K').bl) := ⟨((((G6.out.1.setZ HH.out.2.1 hlt 10 (by decide) (by simp) _ (.int .i64 ((k6 : Int))) (.int .i64 (((kk + 1 + 1 + ctVQ (f z).q + sumN (f z).np (fun i => ctVP ((f z).pt i)) + sumN (f z).nt (fun i => ctVA ((f z).tl i))) : Nat) : Int)) rfl (congrArg (Value.int .i64) (by have := HC.out; have := HK0.out; have := HK2.out; have := HK3.out; have := HK5.out; have := HK6.out; omega)) rfl).setZ HH.out.2.1 hlt 11 (by decide) (by simp) _ (.int .i64 ((k6 : Int) + 1)) (.int .i64 (((kk + 1 + 1 + ctVQ (f z).q + sumN (f z).np (fun i => ctVP ((f z).pt i)) + sumN (f z).nt (fun i => ctVA ((f z).tl i))) + 1 : Nat) : Int)) rfl (congrArg (Value.int .i64) (by have := HC.out; have := HK0.out; have := HK2.out; have := HK3.out; have := HK5.out; have := HK6.out; omega)) rfl).setZ HH.out.2.1 hlt 12 (by decide) (by simp) _ (.int .i64 ((k6 : Int) + 2)) (.int .i64 (((kk + 1 + 1 + ctVQ (f z).q + sumN (f z).np (fun i => ctVP ((f z).pt i)) + sumN (f z).nt (fun i => ctVA ((f z).tl i))) + 1 + 1 : Nat) : Int)) rfl (congrArg (Value.int .i64) (by have := HC.out; have := HK0.out; have := HK2.out; have := HK3.out; have := HK5.out; have := HK6.out; omega)) rfl).setZ HH.out.2.1 hlt 13 (by decide) (by simp) _ (.int .i64 ((k6 : Int) + 3)) (.int .i64 (((kk + 1 + 1 + ctVQ (f z).q + sumN (f z).np (fun i => ctVP ((f z).pt i)) + sumN (f z).nt (fun i => ctVA ((f z).tl i))) + 1 + 1 + 1 : Nat) : Int)) rfl (congrArg (Value.int .i64) (by have := HC.out; have := HK0.out; have := HK2.out; have := HK3.out; have := HK5.out; have := HK6.out; omega)) rfl), ((((G6.out.2.set (p := ⟨g, off + z * 16 + 10, none⟩) (.inl rfl) (.int .i64 ((k6 : Int)))).set (p := ⟨g, off + z * 16 + 11, none⟩) (.inl rfl) (.int .i64 ((k6 : Int) + 1))).set (p := ⟨g, off + z * 16 + 12, none⟩) (.inl rfl) (.int .i64 ((k6 : Int) + 2))).set (p := ⟨g, off + z * 16 + 13, none⟩) (.inl rfl) (.int .i64 ((k6 : Int) + 3)))⟩
   go_upto_region 28 with fail
   obtain ⟨W7, hW7⟩ : ∃ W, W = ((((W6.setCell ⟨g, off + z * 16 + 10, none⟩ (.int .i64 ((k6 : Int)))).setCell ⟨g, off + z * 16 + 11, none⟩ (.int .i64 ((k6 : Int) + 1))).setCell ⟨g, off + z * 16 + 12, none⟩ (.int .i64 ((k6 : Int) + 2))).setCell ⟨g, off + z * 16 + 13, none⟩ (.int .i64 ((k6 : Int) + 3))) := ⟨_, rfl⟩
   rw [<- hW7] at G7 ⊢
   clear hW7 e10 f10 e11 f11 e12 f12 e13 f13 v0 v1 v2 v3 G6 u10 u11 u12 u13
   obtain ⟨u14, q14, t14⟩ := G7.out.1.cellZ hlt 14 (by decide)
   have t14' : Fit W7 (intsT (f z).a.ws) (K' z 14) u14 := t14
   obtain ⟨a14, c14, rfl⟩ := t14'.shape
   have HS14 : Hid (Fit W7 (intsT (f z).a.ws) (K' z 14) (.slice a14 ((f z).a.ws.length) c14) /\ W7.cell? ⟨g, off + z * 16 + 14, none⟩ = some (.slice a14 ((f z).a.ws.length) c14)) := ⟨t14', q14⟩
   have e14 : W7.cell? ⟨g, off + z * 16 + 14, none⟩ = some (.slice a14 ((f z).a.ws.length) c14) := q14
   clear t14 t14' q14
   go_wp2_with fail
   refine (markIntS_f (f z).a.ws a14 _ c14 ((kk + 1 + 1 + ctVQ (f z).q + sumN (f z).np (fun i => ctVP ((f z).pt i)) + sumN (f z).nt (fun i => ctVA ((f z).tl i))) + 1 + 1 + 1 + 1) _ (K' z 14) _ (by have := HC.out; have := HK0.out; have := HK2.out; have := HK3.out; have := HK5.out; have := HK6.out; omega) HS14.out.1 (HH.out.2.1.1 z 14 hlt (by decide)).1 (by have := HC.out; have := HK0.out; have := HK2.out; have := HK3.out; have := HK5.out; have := HK6.out; omega)).mono ?_
   rintro e W8 ⟨rfl, m9, cg9⟩
   have G8 : Hid (Fit W8 (.list 16 n' (atZ z [.leaf (.int .i64 ((kk : Nat) : Int)), .leaf (.int .i64 ((kk + 1 : Nat) : Int)), .leaf (.int .i64 (((kk + 1 + 1) : Nat) : Int)), .leaf (.int .i64 (((kk + 1 + 1) + 1 : Nat) : Int)), .leaf (.int .i64 (((kk + 1 + 1) + 1 + 1 : Nat) : Int)), intsT (marksI ((kk + 1 + 1) + 1 + 1 + 1) (f z).q.ws.length), boolsT (marksB ((kk + 1 + 1) + 1 + 1 + 1 + (f z).q.ws.length) (f z).q.bs.length), .leaf (.int .i64 (((kk + 1 + 1) + 1 + 1 + 1 + (f z).q.ws.length + (f z).q.bs.length : Nat) : Int)), .list 8 (f z).np (fun i => trs (pT (nmVP (kk + 1 + 1 + ctVQ (f z).q + sumN i (fun i => ctVP ((f z).pt i))) ((f z).pt i)))), .list 6 (f z).nt (fun i => trs (aT (nmVA (kk + 1 + 1 + ctVQ (f z).q + sumN (f z).np (fun i => ctVP ((f z).pt i)) + sumN i (fun i => ctVA ((f z).tl i))) ((f z).tl i)))), .leaf (.int .i64 (((kk + 1 + 1 + ctVQ (f z).q + sumN (f z).np (fun i => ctVP ((f z).pt i)) + sumN (f z).nt (fun i => ctVA ((f z).tl i))) : Nat) : Int)), .leaf (.int .i64 (((kk + 1 + 1 + ctVQ (f z).q + sumN (f z).np (fun i => ctVP ((f z).pt i)) + sumN (f z).nt (fun i => ctVA ((f z).tl i))) + 1 : Nat) : Int)), .leaf (.int .i64 (((kk + 1 + 1 + ctVQ (f z).q + sumN (f z).np (fun i => ctVP ((f z).pt i)) + sumN (f z).nt (fun i => ctVA ((f z).tl i))) + 1 + 1 : Nat) : Int)), .leaf (.int .i64 (((kk + 1 + 1 + ctVQ (f z).q + sumN (f z).np (fun i => ctVP ((f z).pt i)) + sumN (f z).nt (fun i => ctVA ((f z).tl i))) + 1 + 1 + 1 : Nat) : Int)), intsT (marksI ((kk + 1 + 1 + ctVQ (f z).q + sumN (f z).np (fun i => ctVP ((f z).pt i)) + sumN (f z).nt (fun i => ctVA ((f z).tl i))) + 1 + 1 + 1 + 1) (f z).a.ws.length), boolsT (f z).a.bs] T0)) (.row g off 16 n' K') (.slice (some ⟨g, off, none⟩) n' c) /\ Cg w W8 (Sk.row g off 16 n' K').bl) := ⟨G7.out.1.subZ HH.out.2.1 hlt 14 (by decide) (by simp) _ HS14.out.2 _ cg9 m9 rfl, G7.out.2.trans (cg9.mono (fun b hb => Sk.bl_in hlt (by decide) hb))⟩
   obtain ⟨k8, hk8⟩ : ∃ k8 : Nat, k8 = (kk + 1 + 1 + ctVQ (f z).q + sumN (f z).np (fun i => ctVP ((f z).pt i)) + sumN (f z).nt (fun i => ctVA ((f z).tl i))) + 1 + 1 + 1 + 1 + (f z).a.ws.length := ⟨_, rfl⟩
   rw [<- hk8]
   have HK8 : Hid (k8 = (kk + 1 + 1 + ctVQ (f z).q + sumN (f z).np (fun i => ctVP ((f z).pt i)) + sumN (f z).nt (fun i => ctVA ((f z).tl i))) + 1 + 1 + 1 + 1 + (f z).a.ws.length) := hk8
   clear m9 cg9 hk8 e14 G7 HS14
   obtain ⟨u15, q15, t15⟩ := G8.out.1.cellZ hlt 15 (by decide)
   have t15' : Fit W8 (boolsT (f z).a.bs) (K' z 15) u15 := t15
   obtain ⟨a15, c15, rfl⟩ := t15'.shape
   have HS15 : Hid (Fit W8 (boolsT (f z).a.bs) (K' z 15) (.slice a15 ((f z).a.bs.length) c15) /\ W8.cell? ⟨g, off + z * 16 + 15, none⟩ = some (.slice a15 ((f z).a.bs.length) c15)) := ⟨t15', q15⟩
   have e15 : W8.cell? ⟨g, off + z * 16 + 15, none⟩ = some (.slice a15 ((f z).a.bs.length) c15) := q15
   clear t15 t15' q15
   go_wp2_with fail
   refine (markBoolS_f (f z).a.bs a15 _ c15 ((kk + 1 + 1 + ctVQ (f z).q + sumN (f z).np (fun i => ctVP ((f z).pt i)) + sumN (f z).nt (fun i => ctVA ((f z).tl i))) + 1 + 1 + 1 + 1 + (f z).a.ws.length) _ (K' z 15) _ (by have := HC.out; have := HK0.out; have := HK2.out; have := HK3.out; have := HK5.out; have := HK6.out; have := HK8.out; omega) HS15.out.1 (HH.out.2.1.1 z 15 hlt (by decide)).1 (by have := HC.out; have := HK0.out; have := HK2.out; have := HK3.out; have := HK5.out; have := HK6.out; have := HK8.out; omega)).mono ?_
   rintro e W9 ⟨rfl, m9, cg9⟩
   have G9 : Hid (Fit W9 (.list 16 n' (atZ z [.leaf (.int .i64 ((kk : Nat) : Int)), .leaf (.int .i64 ((kk + 1 : Nat) : Int)), .leaf (.int .i64 (((kk + 1 + 1) : Nat) : Int)), .leaf (.int .i64 (((kk + 1 + 1) + 1 : Nat) : Int)), .leaf (.int .i64 (((kk + 1 + 1) + 1 + 1 : Nat) : Int)), intsT (marksI ((kk + 1 + 1) + 1 + 1 + 1) (f z).q.ws.length), boolsT (marksB ((kk + 1 + 1) + 1 + 1 + 1 + (f z).q.ws.length) (f z).q.bs.length), .leaf (.int .i64 (((kk + 1 + 1) + 1 + 1 + 1 + (f z).q.ws.length + (f z).q.bs.length : Nat) : Int)), .list 8 (f z).np (fun i => trs (pT (nmVP (kk + 1 + 1 + ctVQ (f z).q + sumN i (fun i => ctVP ((f z).pt i))) ((f z).pt i)))), .list 6 (f z).nt (fun i => trs (aT (nmVA (kk + 1 + 1 + ctVQ (f z).q + sumN (f z).np (fun i => ctVP ((f z).pt i)) + sumN i (fun i => ctVA ((f z).tl i))) ((f z).tl i)))), .leaf (.int .i64 (((kk + 1 + 1 + ctVQ (f z).q + sumN (f z).np (fun i => ctVP ((f z).pt i)) + sumN (f z).nt (fun i => ctVA ((f z).tl i))) : Nat) : Int)), .leaf (.int .i64 (((kk + 1 + 1 + ctVQ (f z).q + sumN (f z).np (fun i => ctVP ((f z).pt i)) + sumN (f z).nt (fun i => ctVA ((f z).tl i))) + 1 : Nat) : Int)), .leaf (.int .i64 (((kk + 1 + 1 + ctVQ (f z).q + sumN (f z).np (fun i => ctVP ((f z).pt i)) + sumN (f z).nt (fun i => ctVA ((f z).tl i))) + 1 + 1 : Nat) : Int)), .leaf (.int .i64 (((kk + 1 + 1 + ctVQ (f z).q + sumN (f z).np (fun i => ctVP ((f z).pt i)) + sumN (f z).nt (fun i => ctVA ((f z).tl i))) + 1 + 1 + 1 : Nat) : Int)), intsT (marksI ((kk + 1 + 1 + ctVQ (f z).q + sumN (f z).np (fun i => ctVP ((f z).pt i)) + sumN (f z).nt (fun i => ctVA ((f z).tl i))) + 1 + 1 + 1 + 1) (f z).a.ws.length), boolsT (marksB ((kk + 1 + 1 + ctVQ (f z).q + sumN (f z).np (fun i => ctVP ((f z).pt i)) + sumN (f z).nt (fun i => ctVA ((f z).tl i))) + 1 + 1 + 1 + 1 + (f z).a.ws.length) (f z).a.bs.length)] T0)) (.row g off 16 n' K') (.slice (some ⟨g, off, none⟩) n' c) /\ Cg w W9 (Sk.row g off 16 n' K').bl) := ⟨G8.out.1.subZ HH.out.2.1 hlt 15 (by decide) (by simp) _ HS15.out.2 _ cg9 m9 rfl, G8.out.2.trans (cg9.mono (fun b hb => Sk.bl_in hlt (by decide) hb))⟩
   obtain ⟨k9, hk9⟩ : ∃ k9 : Nat, k9 = (kk + 1 + 1 + ctVQ (f z).q + sumN (f z).np (fun i => ctVP ((f z).pt i)) + sumN (f z).nt (fun i => ctVA ((f z).tl i))) + 1 + 1 + 1 + 1 + (f z).a.ws.length + (f z).a.bs.length := ⟨_, rfl⟩
   rw [<- hk9]
   have HK9 : Hid (k9 = (kk + 1 + 1 + ctVQ (f z).q + sumN (f z).np (fun i => ctVP ((f z).pt i)) + sumN (f z).nt (fun i => ctVA ((f z).tl i))) + 1 + 1 + 1 + 1 + (f z).a.ws.length + (f z).a.bs.length) := hk9
   clear m9 cg9 hk9 e15 G8 HS15
   have HZ : Hid (Fit W9 (.list 16 n' (fun i => trs (xyT (if i < z + 1 then nmVR (s + sumN i (fun i => ctVR (f i))) (f i) else f i)))) (.row g off 16 n' K') (.slice (some ⟨g, off, none⟩) n' c) /\ Cg w W9 (Sk.row g off 16 n' K').bl /\ (k9 : Int) = ((s + sumN (z + 1) (fun i => ctVR (f i)) : Nat) : Int)) := ⟨G9.out.1.doneZ (T1 := fun i => trs (xyT (if i < z + 1 then nmVR (s + sumN i (fun i => ctVR (f i))) (f i) else f i))) (fun i hi => by rw [HT.out]; simp only [if_lt_succ hi]) (fun j hj => by simp only [if_pos (Nat.lt_succ_self z)]; rw [<- HK0.out.1]; rfl), G9.out.2, by have := HC.out; have := HK0.out; have := HK2.out; have := HK3.out; have := HK5.out; have := HK6.out; have := HK8.out; have := HK9.out; omega⟩
   clear G9 HT
   go_wp2
   go_roundw
   case rel => exact ⟨z + 1, by omega, by go_num, congrArg (Value.int .i64) HZ.out.2.2, HZ.out.1, HZ.out.2.1⟩
   case measure => simp [intOf]; omega
  have hi : ¬ (z : Int) < (n' : Int) := by omega
  have e9 : z = n' := by omega
  subst e9
  have H1 : Hid (_ /\ _) := ⟨HE.out _ hF, hC⟩
  clear hF hC
  go_wp2
  go_ret
  exact ⟨rfl, H1.out.1, H1.out.2⟩
theorem markServedS_f (n : Nat) (f : Nat -> VE) (a : Option Addr) (n' c s : Nat) (x : Int) (K : Sk) (w : World) (hx : x = ((s : Nat) : Int)) (h : Fit w (.list 15 n (fun i => trs (xeT (f i)))) K (.slice a n' c)) (hok : K.ok) (hB : s + sumN n (fun i => ctVE (f i)) <= 1125899906842624) :
 Calls Tryz.prog 86 #[.slice a n' c, .int .i64 x] w fun e w' => e = .returned (.int .i64 ((s + sumN n (fun i => ctVE (f i)) : Nat) : Int)) /\ Fit w' (.list 15 n (fun i => trs (xeT (nmVE (s + sumN i (fun i => ctVE (f i))) (f i))))) K (.slice a n' c) /\ Cg w w' K.bl := by
 subst hx
 obtain ⟨rfl, hc1, hm⟩ := h.len
 unfold maxLen at hm
 have HE : Hid (∀ w', Fit w' (.list 15 n' (fun i => trs (xeT (if i < n' then nmVE (s + sumN i (fun i => ctVE (f i))) (f i) else f i)))) K (.slice a n' c) -> Fit w' (.list 15 n' (fun i => trs (xeT (nmVE (s + sumN i (fun i => ctVE (f i))) (f i))))) K (.slice a n' c)) := by
  show ∀ w', _
  intro w' h9
  exact h9.congr (fun k j hk hj => by simp only [if_pos hk])
 have h1 : Fit w (.list 15 n' (fun i => trs (xeT (if i < 0 then nmVE (s + sumN i (fun i => ctVE (f i))) (f i) else f i)))) K (.slice a n' c) := h.congr (fun k j hk hj => by simp)
 clear h
 by_cases h0 : n' = 0
 ·subst h0
  have h2 := HE.out w h1
  clear h1
  go_enter Tryz.func86, Tryz.ntmps86
  go_wp2
  refine wp_loop_rounds 1 ?_
  rw [rounds_succ]
  go_wp2
  go_ret
  exact ⟨rfl, h2, Cg.refl _ _⟩
 obtain ⟨g, off, K', rfl, rfl, -, -, -, hg, -⟩ := h1.row (by omega)
 have HH : Hid (Fit w (.list 15 n' (fun i => trs (xeT (if i < 0 then nmVE (s + sumN i (fun i => ctVE (f i))) (f i) else f i)))) (.row g off 15 n' K') (.slice (some ⟨g, off, none⟩) n' c) /\ (Sk.row g off 15 n' K').ok /\ s + sumN n' (fun i => ctVE (f i)) <= 1125899906842624) := ⟨h1, hok, hB⟩
 clear h1 hok hB
 go_enter Tryz.func86, Tryz.ntmps86
 go_wp2
 go_loopw [1, 5] (fun kv i wr => ∃ z : Nat, z <= n' /\ i = .int .i64 z /\ kv = .int .i64 ((s + sumN z (fun i => ctVE (f i)) : Nat) : Int) /\ Fit wr (.list 15 n' (fun i => trs (xeT (if i < z then nmVE (s + sumN i (fun i => ctVE (f i))) (f i) else f i)))) (.row g off 15 n' K') (.slice (some ⟨g, off, none⟩) n' c) /\ Cg w wr (Sk.row g off 15 n' K').bl) (fun _ i _ => n' - (intOf i).toNat)
 case atStart => exact ⟨0, Nat.zero_le _, rfl, rfl, HH.out.1, Cg.refl _ _⟩
 case round =>
  obtain ⟨z, hz, rfl, rfl, hF, hC⟩ := hrel
  by_cases hlt : z < n'
  ·have hi : (z : Int) < (n' : Int) := by omega
   obtain ⟨kk, hkk⟩ : ∃ kk, kk = s + sumN z (fun i => ctVE (f i)) := ⟨_, rfl⟩
   rw [<- hkk]
   have HC : Hid (ctVE (f z) = 1 + 1 + 1 + ctVQ (f z).q + ctVA (f z).a /\ ctVQ (f z).q = 1 + 1 + 1 + (f z).q.ws.length + (f z).q.bs.length + 1 /\ ctVA (f z).a = 1 + 1 + 1 + 1 + (f z).a.ws.length + (f z).a.bs.length /\ True) := ⟨rfl, rfl, rfl, trivial⟩
   have HK0 : Hid (kk = s + sumN z (fun i => ctVE (f i)) /\ kk + ctVE (f z) <= 1125899906842624 /\ s + sumN (z + 1) (fun i => ctVE (f i)) = kk + ctVE (f z)) := ⟨hkk, by have h7 := sumN_le (g := (fun i => ctVE (f i))) hlt; have h8 := HH.out.2.2; omega, by rw [hkk]; simp only [sumN]; omega⟩
   obtain ⟨T0, hT0⟩ : ∃ T0 : Nat -> Nat -> Tr, T0 = (fun i => trs (xeT (if i < z then nmVE (s + sumN i (fun i => ctVE (f i))) (f i) else f i))) := ⟨_, rfl⟩
   rw [<- hT0] at hF
   have F0 := hF.toZ (z := z) (L := [.leaf (.int .i64 (f z).po), .leaf (.int .i64 (f z).nu), .leaf (.int .i64 (f z).un), .leaf (.int .i64 (f z).q.kd), .leaf (.int .i64 (f z).q.pl), .leaf (.int .i64 (f z).q.n), intsT (f z).q.ws, boolsT (f z).q.bs, .leaf (.int .i64 (f z).q.wa), .leaf (.int .i64 (f z).a.kd), .leaf (.int .i64 (f z).a.fl), .leaf (.int .i64 (f z).a.pl), .leaf (.int .i64 (f z).a.n), intsT (f z).a.ws, boolsT (f z).a.bs]) (fun j hj => by rw [hT0]; simp only [if_neg (Nat.lt_irrefl z)]; rfl)
   have HT : Hid (T0 = (fun i => trs (xeT (if i < z then nmVE (s + sumN i (fun i => ctVE (f i))) (f i) else f i)))) := hT0
   have G0 : Hid (Fit wr (.list 15 n' (atZ z [.leaf (.int .i64 (f z).po), .leaf (.int .i64 (f z).nu), .leaf (.int .i64 (f z).un), .leaf (.int .i64 (f z).q.kd), .leaf (.int .i64 (f z).q.pl), .leaf (.int .i64 (f z).q.n), intsT (f z).q.ws, boolsT (f z).q.bs, .leaf (.int .i64 (f z).q.wa), .leaf (.int .i64 (f z).a.kd), .leaf (.int .i64 (f z).a.fl), .leaf (.int .i64 (f z).a.pl), .leaf (.int .i64 (f z).a.n), intsT (f z).a.ws, boolsT (f z).a.bs] T0)) (.row g off 15 n' K') (.slice (some ⟨g, off, none⟩) n' c) /\ Cg w wr (Sk.row g off 15 n' K').bl) := ⟨F0, hC⟩
   clear hF hC F0 hT0 hkk
   obtain ⟨u0, q0, -⟩ := G0.out.1.cellZ hlt 0 (by decide)
   have e0 : wr.cell? ⟨g, off + z * 15, none⟩ = some u0 := q0
   clear q0
   have f0 := G0.out.1.fro (off + z * 15)
   obtain ⟨u1, q1, -⟩ := G0.out.1.cellZ hlt 1 (by decide)
   have e1 : wr.cell? ⟨g, off + z * 15 + 1, none⟩ = some u1 := q1
   clear q1
   have f1 := G0.out.1.fro (off + z * 15 + 1)
   obtain ⟨u2, q2, -⟩ := G0.out.1.cellZ hlt 2 (by decide)
   have e2 : wr.cell? ⟨g, off + z * 15 + 2, none⟩ = some u2 := q2
   clear q2
   have f2 := G0.out.1.fro (off + z * 15 + 2)
   obtain ⟨u3, q3, -⟩ := G0.out.1.cellZ hlt 3 (by decide)
   have e3 : wr.cell? ⟨g, off + z * 15 + 3, none⟩ = some u3 := q3
   clear q3
   have f3 := G0.out.1.fro (off + z * 15 + 3)
   obtain ⟨u4, q4, -⟩ := G0.out.1.cellZ hlt 4 (by decide)
   have e4 : wr.cell? ⟨g, off + z * 15 + 4, none⟩ = some u4 := q4
   clear q4
   have f4 := G0.out.1.fro (off + z * 15 + 4)
   obtain ⟨u5, q5, -⟩ := G0.out.1.cellZ hlt 5 (by decide)
   have e5 : wr.cell? ⟨g, off + z * 15 + 5, none⟩ = some u5 := q5
   clear q5
   have f5 := G0.out.1.fro (off + z * 15 + 5)
   have v0 : IntKind.i64.wrap ((kk : Int) + 1) = (kk : Int) + 1 := by have := HC.out; have := HK0.out; rw [IntKind.wrap_i64]; omega
   have v1 : IntKind.i64.wrap ((kk : Int) + 1 + 1) = (kk : Int) + 2 := by have := HC.out; have := HK0.out; rw [IntKind.wrap_i64]; omega
   have v2 : IntKind.i64.wrap ((kk : Int) + 2 + 1) = (kk : Int) + 3 := by have := HC.out; have := HK0.out; rw [IntKind.wrap_i64]; omega
   have v3 : IntKind.i64.wrap ((kk : Int) + 3 + 1) = (kk : Int) + 4 := by have := HC.out; have := HK0.out; rw [IntKind.wrap_i64]; omega
   have v4 : IntKind.i64.wrap ((kk : Int) + 4 + 1) = (kk : Int) + 5 := by have := HC.out; have := HK0.out; rw [IntKind.wrap_i64]; omega
   have v5 : IntKind.i64.wrap ((kk : Int) + 5 + 1) = (kk : Int) + 6 := by have := HC.out; have := HK0.out; rw [IntKind.wrap_i64]; omega
   have G1 : Hid (Fit ((((((wr.setCell ⟨g, off + z * 15, none⟩ (.int .i64 ((kk : Int)))).setCell ⟨g, off + z * 15 + 1, none⟩ (.int .i64 ((kk : Int) + 1))).setCell ⟨g, off + z * 15 + 2, none⟩ (.int .i64 ((kk : Int) + 2))).setCell ⟨g, off + z * 15 + 3, none⟩ (.int .i64 ((kk : Int) + 3))).setCell ⟨g, off + z * 15 + 4, none⟩ (.int .i64 ((kk : Int) + 4))).setCell ⟨g, off + z * 15 + 5, none⟩ (.int .i64 ((kk : Int) + 5))) (.list 15 n' (atZ z [.leaf (.int .i64 ((kk : Nat) : Int)), .leaf (.int .i64 ((kk + 1 : Nat) : Int)), .leaf (.int .i64 ((kk + 1 + 1 : Nat) : Int)), .leaf (.int .i64 (((kk + 1 + 1 + 1) : Nat) : Int)), .leaf (.int .i64 (((kk + 1 + 1 + 1) + 1 : Nat) : Int)), .leaf (.int .i64 (((kk + 1 + 1 + 1) + 1 + 1 : Nat) : Int)), intsT (f z).q.ws, boolsT (f z).q.bs, .leaf (.int .i64 (f z).q.wa), .leaf (.int .i64 (f z).a.kd), .leaf (.int .i64 (f z).a.fl), .leaf (.int .i64 (f z).a.pl), .leaf (.int .i64 (f z).a.n), intsT (f z).a.ws, boolsT (f z).a.bs] T0)) (.row g off 15 n' K') (.slice (some ⟨g, off, none⟩) n' c) /\ Cg w ((((((wr.setCell ⟨g, off + z * 15, none⟩ (.int .i64 ((kk : Int)))).setCell ⟨g, off + z * 15 + 1, none⟩ (.int .i64 ((kk : Int) + 1))).setCell ⟨g, off + z * 15 + 2, none⟩ (.int .i64 ((kk : Int) + 2))).setCell ⟨g, off + z * 15 + 3, none⟩ (.int .i64 ((kk : Int) + 3))).setCell ⟨g, off + z * 15 + 4, none⟩ (.int .i64 ((kk : Int) + 4))).setCell ⟨g, off + z * 15 + 5, none⟩ (.int .i64 ((kk : Int) + 5))) (Sk.row g off 15 n' K').bl) := ⟨((((((G0.out.1.setZ HH.out.2.1 hlt 0 (by decide) (by simp) _ (.int .i64 ((kk : Int))) (.int .i64 ((kk : Nat) : Int)) rfl (congrArg (Value.int .i64) (by have := HC.out; have := HK0.out; omega)) rfl).setZ HH.out.2.1 hlt 1 (by decide) (by simp) _ (.int .i64 ((kk : Int) + 1)) (.int .i64 ((kk + 1 : Nat) : Int)) rfl (congrArg (Value.int .i64) (by have := HC.out; have := HK0.out; omega)) rfl).setZ HH.out.2.1 hlt 2 (by decide) (by simp) _ (.int .i64 ((kk : Int) + 2)) (.int .i64 ((kk + 1 + 1 : Nat) : Int)) rfl (congrArg (Value.int .i64) (by have := HC.out; have := HK0.out; omega)) rfl).setZ HH.out.2.1 hlt 3 (by decide) (by simp) _ (.int .i64 ((kk : Int) + 3)) (.int .i64 (((kk + 1 + 1 + 1) : Nat) : Int)) rfl (congrArg (Value.int .i64) (by have := HC.out; have := HK0.out; omega)) rfl).setZ HH.out.2.1 hlt 4 (by decide) (by simp) _ (.int .i64 ((kk : Int) + 4)) (.int .i64 (((kk + 1 + 1 + 1) + 1 : Nat) : Int)) rfl (congrArg (Value.int .i64) (by have := HC.out; have := HK0.out; omega)) rfl).setZ HH.out.2.1 hlt 5 (by decide) (by simp) _ (.int .i64 ((kk : Int) + 5)) (.int .i64 (((kk + 1 + 1 + 1) + 1 + 1 : Nat) : Int)) rfl (congrArg (Value.int .i64) (by have := HC.out; have := HK0.out; omega)) rfl), ((((((G0.out.2.set (p := ⟨g, off + z * 15, none⟩) (.inl rfl) (.int .i64 ((kk : Int)))).set (p := ⟨g, off + z * 15 + 1, none⟩) (.inl rfl) (.int .i64 ((kk : Int) + 1))).set (p := ⟨g, off + z * 15 + 2, none⟩) (.inl rfl) (.int .i64 ((kk : Int) + 2))).set (p := ⟨g, off + z * 15 + 3, none⟩) (.inl rfl) (.int .i64 ((kk : Int) + 3))).set (p := ⟨g, off + z * 15 + 4, none⟩) (.inl rfl) (.int .i64 ((kk : Int) + 4))).set (p := ⟨g, off + z * 15 + 5, none⟩) (.inl rfl) (.int .i64 ((kk : Int) + 5)))⟩
   go_upto_region 16 with fail
   obtain ⟨W1, hW1⟩ : ∃ W, W = ((((((wr.setCell ⟨g, off + z * 15, none⟩ (.int .i64 ((kk : Int)))).setCell ⟨g, off + z * 15 + 1, none⟩ (.int .i64 ((kk : Int) + 1))).setCell ⟨g, off + z * 15 + 2, none⟩ (.int .i64 ((kk : Int) + 2))).setCell ⟨g, off + z * 15 + 3, none⟩ (.int .i64 ((kk : Int) + 3))).setCell ⟨g, off + z * 15 + 4, none⟩ (.int .i64 ((kk : Int) + 4))).setCell ⟨g, off + z * 15 + 5, none⟩ (.int .i64 ((kk : Int) + 5))) := ⟨_, rfl⟩
   rw [<- hW1] at G1 ⊢
   clear hW1 e0 f0 e1 f1 e2 f2 e3 f3 e4 f4 e5 f5 v0 v1 v2 v3 v4 v5 G0 u0 u1 u2 u3 u4 u5
   obtain ⟨u6, q6, t6⟩ := G1.out.1.cellZ hlt 6 (by decide)
   have t6' : Fit W1 (intsT (f z).q.ws) (K' z 6) u6 := t6
   obtain ⟨a6, c6, rfl⟩ := t6'.shape
   have HS6 : Hid (Fit W1 (intsT (f z).q.ws) (K' z 6) (.slice a6 ((f z).q.ws.length) c6) /\ W1.cell? ⟨g, off + z * 15 + 6, none⟩ = some (.slice a6 ((f z).q.ws.length) c6)) := ⟨t6', q6⟩
   have e6 : W1.cell? ⟨g, off + z * 15 + 6, none⟩ = some (.slice a6 ((f z).q.ws.length) c6) := q6
   clear t6 t6' q6
   go_wp2_with fail
   refine (markIntS_f (f z).q.ws a6 _ c6 ((kk + 1 + 1 + 1) + 1 + 1 + 1) _ (K' z 6) _ (by have := HC.out; have := HK0.out; omega) HS6.out.1 (HH.out.2.1.1 z 6 hlt (by decide)).1 (by have := HC.out; have := HK0.out; omega)).mono ?_
   rintro e W2 ⟨rfl, m9, cg9⟩
   have G2 : Hid (Fit W2 (.list 15 n' (atZ z [.leaf (.int .i64 ((kk : Nat) : Int)), .leaf (.int .i64 ((kk + 1 : Nat) : Int)), .leaf (.int .i64 ((kk + 1 + 1 : Nat) : Int)), .leaf (.int .i64 (((kk + 1 + 1 + 1) : Nat) : Int)), .leaf (.int .i64 (((kk + 1 + 1 + 1) + 1 : Nat) : Int)), .leaf (.int .i64 (((kk + 1 + 1 + 1) + 1 + 1 : Nat) : Int)), intsT (marksI ((kk + 1 + 1 + 1) + 1 + 1 + 1) (f z).q.ws.length), boolsT (f z).q.bs, .leaf (.int .i64 (f z).q.wa), .leaf (.int .i64 (f z).a.kd), .leaf (.int .i64 (f z).a.fl), .leaf (.int .i64 (f z).a.pl), .leaf (.int .i64 (f z).a.n), intsT (f z).a.ws, boolsT (f z).a.bs] T0)) (.row g off 15 n' K') (.slice (some ⟨g, off, none⟩) n' c) /\ Cg w W2 (Sk.row g off 15 n' K').bl) := ⟨G1.out.1.subZ HH.out.2.1 hlt 6 (by decide) (by simp) _ HS6.out.2 _ cg9 m9 rfl, G1.out.2.trans (cg9.mono (fun b hb => Sk.bl_in hlt (by decide) hb))⟩
   obtain ⟨k2, hk2⟩ : ∃ k2 : Nat, k2 = (kk + 1 + 1 + 1) + 1 + 1 + 1 + (f z).q.ws.length := ⟨_, rfl⟩
   rw [<- hk2]
   have HK2 : Hid (k2 = (kk + 1 + 1 + 1) + 1 + 1 + 1 + (f z).q.ws.length) := hk2
   clear m9 cg9 hk2 e6 G1 HS6
   obtain ⟨u7, q7, t7⟩ := G2.out.1.cellZ hlt 7 (by decide)
   have t7' : Fit W2 (boolsT (f z).q.bs) (K' z 7) u7 := t7
   obtain ⟨a7, c7, rfl⟩ := t7'.shape
   have HS7 : Hid (Fit W2 (boolsT (f z).q.bs) (K' z 7) (.slice a7 ((f z).q.bs.length) c7) /\ W2.cell? ⟨g, off + z * 15 + 7, none⟩ = some (.slice a7 ((f z).q.bs.length) c7)) := ⟨t7', q7⟩
   have e7 : W2.cell? ⟨g, off + z * 15 + 7, none⟩ = some (.slice a7 ((f z).q.bs.length) c7) := q7
   clear t7 t7' q7
   go_wp2_with fail
   refine (markBoolS_f (f z).q.bs a7 _ c7 ((kk + 1 + 1 + 1) + 1 + 1 + 1 + (f z).q.ws.length) _ (K' z 7) _ (by have := HC.out; have := HK0.out; have := HK2.out; omega) HS7.out.1 (HH.out.2.1.1 z 7 hlt (by decide)).1 (by have := HC.out; have := HK0.out; have := HK2.out; omega)).mono ?_
   rintro e W3 ⟨rfl, m9, cg9⟩
   have G3 : Hid (Fit W3 (.list 15 n' (atZ z [.leaf (.int .i64 ((kk : Nat) : Int)), .leaf (.int .i64 ((kk + 1 : Nat) : Int)), .leaf (.int .i64 ((kk + 1 + 1 : Nat) : Int)), .leaf (.int .i64 (((kk + 1 + 1 + 1) : Nat) : Int)), .leaf (.int .i64 (((kk + 1 + 1 + 1) + 1 : Nat) : Int)), .leaf (.int .i64 (((kk + 1 + 1 + 1) + 1 + 1 : Nat) : Int)), intsT (marksI ((kk + 1 + 1 + 1) + 1 + 1 + 1) (f z).q.ws.length), boolsT (marksB ((kk + 1 + 1 + 1) + 1 + 1 + 1 + (f z).q.ws.length) (f z).q.bs.length), .leaf (.int .i64 (f z).q.wa), .leaf (.int .i64 (f z).a.kd), .leaf (.int .i64 (f z).a.fl), .leaf (.int .i64 (f z).a.pl), .leaf (.int .i64 (f z).a.n), intsT (f z).a.ws, boolsT (f z).a.bs] T0)) (.row g off 15 n' K') (.slice (some ⟨g, off, none⟩) n' c) /\ Cg w W3 (Sk.row g off 15 n' K').bl) := ⟨G2.out.1.subZ HH.out.2.1 hlt 7 (by decide) (by simp) _ HS7.out.2 _ cg9 m9 rfl, G2.out.2.trans (cg9.mono (fun b hb => Sk.bl_in hlt (by decide) hb))⟩
   obtain ⟨k3, hk3⟩ : ∃ k3 : Nat, k3 = (kk + 1 + 1 + 1) + 1 + 1 + 1 + (f z).q.ws.length + (f z).q.bs.length := ⟨_, rfl⟩
   rw [<- hk3]
   have HK3 : Hid (k3 = (kk + 1 + 1 + 1) + 1 + 1 + 1 + (f z).q.ws.length + (f z).q.bs.length) := hk3
   clear m9 cg9 hk3 e7 G2 HS7
   obtain ⟨u8, q8, -⟩ := G3.out.1.cellZ hlt 8 (by decide)
   have e8 : W3.cell? ⟨g, off + z * 15 + 8, none⟩ = some u8 := q8
   clear q8
   have f8 := G3.out.1.fro (off + z * 15 + 8)
   obtain ⟨u9, q9, -⟩ := G3.out.1.cellZ hlt 9 (by decide)
   have e9 : W3.cell? ⟨g, off + z * 15 + 9, none⟩ = some u9 := q9
   clear q9
   have f9 := G3.out.1.fro (off + z * 15 + 9)
   obtain ⟨u10, q10, -⟩ := G3.out.1.cellZ hlt 10 (by decide)
   have e10 : W3.cell? ⟨g, off + z * 15 + 10, none⟩ = some u10 := q10
   clear q10
   have f10 := G3.out.1.fro (off + z * 15 + 10)
   obtain ⟨u11, q11, -⟩ := G3.out.1.cellZ hlt 11 (by decide)
   have e11 : W3.cell? ⟨g, off + z * 15 + 11, none⟩ = some u11 := q11
   clear q11
   have f11 := G3.out.1.fro (off + z * 15 + 11)
   obtain ⟨u12, q12, -⟩ := G3.out.1.cellZ hlt 12 (by decide)
   have e12 : W3.cell? ⟨g, off + z * 15 + 12, none⟩ = some u12 := q12
   clear q12
   have f12 := G3.out.1.fro (off + z * 15 + 12)
   have v0 : IntKind.i64.wrap ((k3 : Int) + 1) = (k3 : Int) + 1 := by have := HC.out; have := HK0.out; have := HK2.out; have := HK3.out; rw [IntKind.wrap_i64]; omega
   have v1 : IntKind.i64.wrap ((k3 : Int) + 1 + 1) = (k3 : Int) + 2 := by have := HC.out; have := HK0.out; have := HK2.out; have := HK3.out; rw [IntKind.wrap_i64]; omega
   have v2 : IntKind.i64.wrap ((k3 : Int) + 2 + 1) = (k3 : Int) + 3 := by have := HC.out; have := HK0.out; have := HK2.out; have := HK3.out; rw [IntKind.wrap_i64]; omega
   have v3 : IntKind.i64.wrap ((k3 : Int) + 3 + 1) = (k3 : Int) + 4 := by have := HC.out; have := HK0.out; have := HK2.out; have := HK3.out; rw [IntKind.wrap_i64]; omega
   have v4 : IntKind.i64.wrap ((k3 : Int) + 4 + 1) = (k3 : Int) + 5 := by have := HC.out; have := HK0.out; have := HK2.out; have := HK3.out; rw [IntKind.wrap_i64]; omega
   have G4 : Hid (Fit (((((W3.setCell ⟨g, off + z * 15 + 8, none⟩ (.int .i64 ((k3 : Int)))).setCell ⟨g, off + z * 15 + 9, none⟩ (.int .i64 ((k3 : Int) + 1))).setCell ⟨g, off + z * 15 + 10, none⟩ (.int .i64 ((k3 : Int) + 2))).setCell ⟨g, off + z * 15 + 11, none⟩ (.int .i64 ((k3 : Int) + 3))).setCell ⟨g, off + z * 15 + 12, none⟩ (.int .i64 ((k3 : Int) + 4))) (.list 15 n' (atZ z [.leaf (.int .i64 ((kk : Nat) : Int)), .leaf (.int .i64 ((kk + 1 : Nat) : Int)), .leaf (.int .i64 ((kk + 1 + 1 : Nat) : Int)), .leaf (.int .i64 (((kk + 1 + 1 + 1) : Nat) : Int)), .leaf (.int .i64 (((kk + 1 + 1 + 1) + 1 : Nat) : Int)), .leaf (.int .i64 (((kk + 1 + 1 + 1) + 1 + 1 : Nat) : Int)), intsT (marksI ((kk + 1 + 1 + 1) + 1 + 1 + 1) (f z).q.ws.length), boolsT (marksB ((kk + 1 + 1 + 1) + 1 + 1 + 1 + (f z).q.ws.length) (f z).q.bs.length), .leaf (.int .i64 (((kk + 1 + 1 + 1) + 1 + 1 + 1 + (f z).q.ws.length + (f z).q.bs.length : Nat) : Int)), .leaf (.int .i64 (((kk + 1 + 1 + 1 + ctVQ (f z).q) : Nat) : Int)), .leaf (.int .i64 (((kk + 1 + 1 + 1 + ctVQ (f z).q) + 1 : Nat) : Int)), .leaf (.int .i64 (((kk + 1 + 1 + 1 + ctVQ (f z).q) + 1 + 1 : Nat) : Int)), .leaf (.int .i64 (((kk + 1 + 1 + 1 + ctVQ (f z).q) + 1 + 1 + 1 : Nat) : Int)), intsT (f z).a.ws, boolsT (f z).a.bs] T0)) (.row g off 15 n' K') (.slice (some ⟨g, off, none⟩) n' c) /\ Cg w (((((W3.setCell ⟨g, off + z * 15 + 8, none⟩ (.int .i64 ((k3 : Int)))).setCell ⟨g, off + z * 15 + 9, none⟩ (.int .i64 ((k3 : Int) + 1))).setCell ⟨g, off + z * 15 + 10, none⟩ (.int .i64 ((k3 : Int) + 2))).setCell ⟨g, off + z * 15 + 11, none⟩ (.int .i64 ((k3 : Int) + 3))).setCell ⟨g, off + z * 15 + 12, none⟩ (.int .i64 ((k3 : Int) + 4))) (Sk.row g off 15 n' K').bl) := ⟨(((((G3.out.1.setZ HH.out.2.1 hlt 8 (by decide) (by simp) _ (.int .i64 ((k3 : Int))) (.int .i64 (((kk + 1 + 1 + 1) + 1 + 1 + 1 + (f z).q.ws.length + (f z).q.bs.length : Nat) : Int)) rfl (congrArg (Value.int .i64) (by have := HC.out; have := HK0.out; have := HK2.out; have := HK3.out; omega)) rfl).setZ HH.out.2.1 hlt 9 (by decide) (by simp) _ (.int .i64 ((k3 : Int) + 1)) (.int .i64 (((kk + 1 + 1 + 1 + ctVQ (f z).q) : Nat) : Int)) rfl (congrArg (Value.int .i64) (by have := HC.out; have := HK0.out; have := HK2.out; have := HK3.out; omega)) rfl).setZ HH.out.2.1 hlt 10 (by decide) (by simp) _ (.int .i64 ((k3 : Int) + 2)) (.int .i64 (((kk + 1 + 1 + 1 + ctVQ (f z).q) + 1 : Nat) : Int)) rfl (congrArg (Value.int .i64) (by have := HC.out; have := HK0.out; have := HK2.out; have := HK3.out; omega)) rfl).setZ HH.out.2.1 hlt 11 (by decide) (by simp) _ (.int .i64 ((k3 : Int) + 3)) (.int .i64 (((kk + 1 + 1 + 1 + ctVQ (f z).q) + 1 + 1 : Nat) : Int)) rfl (congrArg (Value.int .i64) (by have := HC.out; have := HK0.out; have := HK2.out; have := HK3.out; omega)) rfl).setZ HH.out.2.1 hlt 12 (by decide) (by simp) _ (.int .i64 ((k3 : Int) + 4)) (.int .i64 (((kk + 1 + 1 + 1 + ctVQ (f z).q) + 1 + 1 + 1 : Nat) : Int)) rfl (congrArg (Value.int .i64) (by have := HC.out; have := HK0.out; have := HK2.out; have := HK3.out; omega)) rfl), (((((G3.out.2.set (p := ⟨g, off + z * 15 + 8, none⟩) (.inl rfl) (.int .i64 ((k3 : Int)))).set (p := ⟨g, off + z * 15 + 9, none⟩) (.inl rfl) (.int .i64 ((k3 : Int) + 1))).set (p := ⟨g, off + z * 15 + 10, none⟩) (.inl rfl) (.int .i64 ((k3 : Int) + 2))).set (p := ⟨g, off + z * 15 + 11, none⟩) (.inl rfl) (.int .i64 ((k3 : Int) + 3))).set (p := ⟨g, off + z * 15 + 12, none⟩) (.inl rfl) (.int .i64 ((k3 : Int) + 4)))⟩
   go_upto_region 28 with fail
   obtain ⟨W4, hW4⟩ : ∃ W, W = (((((W3.setCell ⟨g, off + z * 15 + 8, none⟩ (.int .i64 ((k3 : Int)))).setCell ⟨g, off + z * 15 + 9, none⟩ (.int .i64 ((k3 : Int) + 1))).setCell ⟨g, off + z * 15 + 10, none⟩ (.int .i64 ((k3 : Int) + 2))).setCell ⟨g, off + z * 15 + 11, none⟩ (.int .i64 ((k3 : Int) + 3))).setCell ⟨g, off + z * 15 + 12, none⟩ (.int .i64 ((k3 : Int) + 4))) := ⟨_, rfl⟩
   rw [<- hW4] at G4 ⊢
   clear hW4 e8 f8 e9 f9 e10 f10 e11 f11 e12 f12 v0 v1 v2 v3 v4 G3 u8 u9 u10 u11 u12
   obtain ⟨u13, q13, t13⟩ := G4.out.1.cellZ hlt 13 (by decide)
   have t13' : Fit W4 (intsT (f z).a.ws) (K' z 13) u13 := t13
   obtain ⟨a13, c13, rfl⟩ := t13'.shape
   have HS13 : Hid (Fit W4 (intsT (f z).a.ws) (K' z 13) (.slice a13 ((f z).a.ws.length) c13) /\ W4.cell? ⟨g, off + z * 15 + 13, none⟩ = some (.slice a13 ((f z).a.ws.length) c13)) := ⟨t13', q13⟩
   have e13 : W4.cell? ⟨g, off + z * 15 + 13, none⟩ = some (.slice a13 ((f z).a.ws.length) c13) := q13
   clear t13 t13' q13
   go_wp2_with fail
   refine (markIntS_f (f z).a.ws a13 _ c13 ((kk + 1 + 1 + 1 + ctVQ (f z).q) + 1 + 1 + 1 + 1) _ (K' z 13) _ (by have := HC.out; have := HK0.out; have := HK2.out; have := HK3.out; omega) HS13.out.1 (HH.out.2.1.1 z 13 hlt (by decide)).1 (by have := HC.out; have := HK0.out; have := HK2.out; have := HK3.out; omega)).mono ?_
   rintro e W5 ⟨rfl, m9, cg9⟩
   have G5 : Hid (Fit W5 (.list 15 n' (atZ z [.leaf (.int .i64 ((kk : Nat) : Int)), .leaf (.int .i64 ((kk + 1 : Nat) : Int)), .leaf (.int .i64 ((kk + 1 + 1 : Nat) : Int)), .leaf (.int .i64 (((kk + 1 + 1 + 1) : Nat) : Int)), .leaf (.int .i64 (((kk + 1 + 1 + 1) + 1 : Nat) : Int)), .leaf (.int .i64 (((kk + 1 + 1 + 1) + 1 + 1 : Nat) : Int)), intsT (marksI ((kk + 1 + 1 + 1) + 1 + 1 + 1) (f z).q.ws.length), boolsT (marksB ((kk + 1 + 1 + 1) + 1 + 1 + 1 + (f z).q.ws.length) (f z).q.bs.length), .leaf (.int .i64 (((kk + 1 + 1 + 1) + 1 + 1 + 1 + (f z).q.ws.length + (f z).q.bs.length : Nat) : Int)), .leaf (.int .i64 (((kk + 1 + 1 + 1 + ctVQ (f z).q) : Nat) : Int)), .leaf (.int .i64 (((kk + 1 + 1 + 1 + ctVQ (f z).q) + 1 : Nat) : Int)), .leaf (.int .i64 (((kk + 1 + 1 + 1 + ctVQ (f z).q) + 1 + 1 : Nat) : Int)), .leaf (.int .i64 (((kk + 1 + 1 + 1 + ctVQ (f z).q) + 1 + 1 + 1 : Nat) : Int)), intsT (marksI ((kk + 1 + 1 + 1 + ctVQ (f z).q) + 1 + 1 + 1 + 1) (f z).a.ws.length), boolsT (f z).a.bs] T0)) (.row g off 15 n' K') (.slice (some ⟨g, off, none⟩) n' c) /\ Cg w W5 (Sk.row g off 15 n' K').bl) := ⟨G4.out.1.subZ HH.out.2.1 hlt 13 (by decide) (by simp) _ HS13.out.2 _ cg9 m9 rfl, G4.out.2.trans (cg9.mono (fun b hb => Sk.bl_in hlt (by decide) hb))⟩
   obtain ⟨k5, hk5⟩ : ∃ k5 : Nat, k5 = (kk + 1 + 1 + 1 + ctVQ (f z).q) + 1 + 1 + 1 + 1 + (f z).a.ws.length := ⟨_, rfl⟩
   rw [<- hk5]
   have HK5 : Hid (k5 = (kk + 1 + 1 + 1 + ctVQ (f z).q) + 1 + 1 + 1 + 1 + (f z).a.ws.length) := hk5
   clear m9 cg9 hk5 e13 G4 HS13
   obtain ⟨u14, q14, t14⟩ := G5.out.1.cellZ hlt 14 (by decide)
   have t14' : Fit W5 (boolsT (f z).a.bs) (K' z 14) u14 := t14
   obtain ⟨a14, c14, rfl⟩ := t14'.shape
   have HS14 : Hid (Fit W5 (boolsT (f z).a.bs) (K' z 14) (.slice a14 ((f z).a.bs.length) c14) /\ W5.cell? ⟨g, off + z * 15 + 14, none⟩ = some (.slice a14 ((f z).a.bs.length) c14)) := ⟨t14', q14⟩
   have e14 : W5.cell? ⟨g, off + z * 15 + 14, none⟩ = some (.slice a14 ((f z).a.bs.length) c14) := q14
   clear t14 t14' q14
   go_wp2_with fail
   refine (markBoolS_f (f z).a.bs a14 _ c14 ((kk + 1 + 1 + 1 + ctVQ (f z).q) + 1 + 1 + 1 + 1 + (f z).a.ws.length) _ (K' z 14) _ (by have := HC.out; have := HK0.out; have := HK2.out; have := HK3.out; have := HK5.out; omega) HS14.out.1 (HH.out.2.1.1 z 14 hlt (by decide)).1 (by have := HC.out; have := HK0.out; have := HK2.out; have := HK3.out; have := HK5.out; omega)).mono ?_
   rintro e W6 ⟨rfl, m9, cg9⟩
   have G6 : Hid (Fit W6 (.list 15 n' (atZ z [.leaf (.int .i64 ((kk : Nat) : Int)), .leaf (.int .i64 ((kk + 1 : Nat) : Int)), .leaf (.int .i64 ((kk + 1 + 1 : Nat) : Int)), .leaf (.int .i64 (((kk + 1 + 1 + 1) : Nat) : Int)), .leaf (.int .i64 (((kk + 1 + 1 + 1) + 1 : Nat) : Int)), .leaf (.int .i64 (((kk + 1 + 1 + 1) + 1 + 1 : Nat) : Int)), intsT (marksI ((kk + 1 + 1 + 1) + 1 + 1 + 1) (f z).q.ws.length), boolsT (marksB ((kk + 1 + 1 + 1) + 1 + 1 + 1 + (f z).q.ws.length) (f z).q.bs.length), .leaf (.int .i64 (((kk + 1 + 1 + 1) + 1 + 1 + 1 + (f z).q.ws.length + (f z).q.bs.length : Nat) : Int)), .leaf (.int .i64 (((kk + 1 + 1 + 1 + ctVQ (f z).q) : Nat) : Int)), .leaf (.int .i64 (((kk + 1 + 1 + 1 + ctVQ (f z).q) + 1 : Nat) : Int)), .leaf (.int .i64 (((kk + 1 + 1 + 1 + ctVQ (f z).q) + 1 + 1 : Nat) : Int)), .leaf (.int .i64 (((kk + 1 + 1 + 1 + ctVQ (f z).q) + 1 + 1 + 1 : Nat) : Int)), intsT (marksI ((kk + 1 + 1 + 1 + ctVQ (f z).q) + 1 + 1 + 1 + 1) (f z).a.ws.length), boolsT (marksB ((kk + 1 + 1 + 1 + ctVQ (f z).q) + 1 + 1 + 1 + 1 + (f z).a.ws.length) (f z).a.bs.length)] T0)) (.row g off 15 n' K') (.slice (some ⟨g, off, none⟩) n' c) /\ Cg w W6 (Sk.row g off 15 n' K').bl) := ⟨G5.out.1.subZ HH.out.2.1 hlt 14 (by decide) (by simp) _ HS14.out.2 _ cg9 m9 rfl, G5.out.2.trans (cg9.mono (fun b hb => Sk.bl_in hlt (by decide) hb))⟩
   obtain ⟨k6, hk6⟩ : ∃ k6 : Nat, k6 = (kk + 1 + 1 + 1 + ctVQ (f z).q) + 1 + 1 + 1 + 1 + (f z).a.ws.length + (f z).a.bs.length := ⟨_, rfl⟩
   rw [<- hk6]
   have HK6 : Hid (k6 = (kk + 1 + 1 + 1 + ctVQ (f z).q) + 1 + 1 + 1 + 1 + (f z).a.ws.length + (f z).a.bs.length) := hk6
   clear m9 cg9 hk6 e14 G5 HS14
   have HZ : Hid (Fit W6 (.list 15 n' (fun i => trs (xeT (if i < z + 1 then nmVE (s + sumN i (fun i => ctVE (f i))) (f i) else f i)))) (.row g off 15 n' K') (.slice (some ⟨g, off, none⟩) n' c) /\ Cg w W6 (Sk.row g off 15 n' K').bl /\ (k6 : Int) = ((s + sumN (z + 1) (fun i => ctVE (f i)) : Nat) : Int)) := ⟨G6.out.1.doneZ (T1 := fun i => trs (xeT (if i < z + 1 then nmVE (s + sumN i (fun i => ctVE (f i))) (f i) else f i))) (fun i hi => by rw [HT.out]; simp only [if_lt_succ hi]) (fun j hj => by simp only [if_pos (Nat.lt_succ_self z)]; rw [<- HK0.out.1]; rfl), G6.out.2, by have := HC.out; have := HK0.out; have := HK2.out; have := HK3.out; have := HK5.out; have := HK6.out; omega⟩
   clear G6 HT
   go_wp2
   go_roundw
   case rel => exact ⟨z + 1, by omega, by go_num, congrArg (Value.int .i64) HZ.out.2.2, HZ.out.1, HZ.out.2.1⟩
   case measure => simp [intOf]; omega
  have hi : ¬ (z : Int) < (n' : Int) := by omega
  have e9 : z = n' := by omega
  subst e9
  have H1 : Hid (_ /\ _) := ⟨HE.out _ hF, hC⟩
  clear hF hC
  go_wp2
  go_ret
  exact ⟨rfl, H1.out.1, H1.out.2⟩
end Go.Proofs.YtkfgijkkffbpmaaGreat
