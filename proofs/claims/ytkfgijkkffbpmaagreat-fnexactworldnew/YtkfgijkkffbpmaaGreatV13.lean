/- Texts that the proof needs, joined: Mk7 Mk8. -/
import Derived.Test.YtkfgijkkffbpmaaGreatV12
import Derived.Test.YtkfgijkkffbpmaaGreatV3
import Derived.Test.YtkfgijkkffbpmaaGreatV11
set_option linter.unusedVariables false
set_option linter.unusedSimpArgs false
set_option maxHeartbeats 8000000
set_option maxRecDepth 20000
namespace Go.Proofs.YtkfgijkkffbpmaaGreat
open Go.RowKit Go.Joins
def ctRu (X : Ru) : Nat := 1 + 1 + 1 + 1 + 1 + 1 + 1
def nmRu (k : Nat) (X : Ru) : Ru := ⟨((k : Nat) : Int), ((k + 1 : Nat) : Int), ((k + 1 + 1 : Nat) : Int), ((k + 1 + 1 + 1 : Nat) : Int), ((k + 1 + 1 + 1 + 1 : Nat) : Int), ((k + 1 + 1 + 1 + 1 + 1 : Nat) : Int), ((k + 1 + 1 + 1 + 1 + 1 + 1 : Nat) : Int)⟩
def ctVC (X : VC) : Nat := 1 + 1 + sumN X.n (fun i => ctRu (X.f i))
def nmVC (k : Nat) (X : VC) : VC := ⟨((k : Nat) : Int), ((k + 1 : Nat) : Int), X.n, fun i => nmRu (k + 1 + 1 + sumN i (fun i => ctRu (X.f i))) (X.f i)⟩
def ctVL (X : VL) : Nat := 1 + 1 + 1 + ctVQ X.q
def nmVL (k : Nat) (X : VL) : VL := ⟨((k : Nat) : Int), ((k + 1 : Nat) : Int), ((k + 1 + 1 : Nat) : Int), nmVQ (k + 1 + 1 + 1) X.q⟩
def ctVN (X : VN) : Nat := sumN X.nq (fun i => ctVL (X.qf i)) + 1 + ctVL X.c + 1 + 1 + 1 + 1 + 1 + 1
def nmVN (k : Nat) (X : VN) : VN := ⟨X.nq, fun i => nmVL (k + sumN i (fun i => ctVL (X.qf i))) (X.qf i), (((k + sumN X.nq (fun i => ctVL (X.qf i)) : Nat) : Int) % 3 == 0), nmVL (k + sumN X.nq (fun i => ctVL (X.qf i)) + 1) X.c, ((k + sumN X.nq (fun i => ctVL (X.qf i)) + 1 + ctVL X.c : Nat) : Int), ((k + sumN X.nq (fun i => ctVL (X.qf i)) + 1 + ctVL X.c + 1 : Nat) : Int), ((k + sumN X.nq (fun i => ctVL (X.qf i)) + 1 + ctVL X.c + 1 + 1 : Nat) : Int), ((k + sumN X.nq (fun i => ctVL (X.qf i)) + 1 + ctVL X.c + 1 + 1 + 1 : Nat) : Int), ((k + sumN X.nq (fun i => ctVL (X.qf i)) + 1 + ctVL X.c + 1 + 1 + 1 + 1 : Nat) : Int), ((k + sumN X.nq (fun i => ctVL (X.qf i)) + 1 + ctVL X.c + 1 + 1 + 1 + 1 + 1 : Nat) : Int)⟩
def ctVF (X : VF) : Nat := 1 + ctVC X.set + ctVT X.op + sumN X.nl (fun i => ctVN (X.lf i)) + 1 + 1 + 1 + 1
def nmVF (k : Nat) (X : VF) : VF := ⟨((k : Nat) : Int), nmVC (k + 1) X.set, nmVT (k + 1 + ctVC X.set) X.op, X.nl, fun i => nmVN (k + 1 + ctVC X.set + ctVT X.op + sumN i (fun i => ctVN (X.lf i))) (X.lf i), ((k + 1 + ctVC X.set + ctVT X.op + sumN X.nl (fun i => ctVN (X.lf i)) : Nat) : Int), ((k + 1 + ctVC X.set + ctVT X.op + sumN X.nl (fun i => ctVN (X.lf i)) + 1 : Nat) : Int), ((k + 1 + ctVC X.set + ctVT X.op + sumN X.nl (fun i => ctVN (X.lf i)) + 1 + 1 : Nat) : Int), ((k + 1 + ctVC X.set + ctVT X.op + sumN X.nl (fun i => ctVN (X.lf i)) + 1 + 1 + 1 : Nat) : Int)⟩
theorem markRuleS_f (n : Nat) (f : Nat -> Ru) (a : Option Addr) (n' c s : Nat) (x : Int) (K : Sk) (w : World) (hx : x = ((s : Nat) : Int)) (h : Fit w (.list 7 n (fun i => trs (xrT (f i)))) K (.slice a n' c)) (hok : K.ok) (hB : s + sumN n (fun i => ctRu (f i)) <= 1125899906842624) :
 Calls Tryz.prog 19 #[.slice a n' c, .int .i64 x] w fun e w' => e = .returned (.int .i64 ((s + sumN n (fun i => ctRu (f i)) : Nat) : Int)) /\ Fit w' (.list 7 n (fun i => trs (xrT (nmRu (s + sumN i (fun i => ctRu (f i))) (f i))))) K (.slice a n' c) /\ Cg w w' K.bl := by
 subst hx
 obtain ⟨rfl, hc1, hm⟩ := h.len
 unfold maxLen at hm
 have HE : Hid (∀ w', Fit w' (.list 7 n' (fun i => trs (xrT (if i < n' then nmRu (s + sumN i (fun i => ctRu (f i))) (f i) else f i)))) K (.slice a n' c) -> Fit w' (.list 7 n' (fun i => trs (xrT (nmRu (s + sumN i (fun i => ctRu (f i))) (f i))))) K (.slice a n' c)) := by
  show ∀ w', _
  intro w' h9
  exact h9.congr (fun k j hk hj => by simp only [if_pos hk])
 have h1 : Fit w (.list 7 n' (fun i => trs (xrT (if i < 0 then nmRu (s + sumN i (fun i => ctRu (f i))) (f i) else f i)))) K (.slice a n' c) := h.congr (fun k j hk hj => by simp)
 clear h
 by_cases h0 : n' = 0
 ·subst h0
  have h2 := HE.out w h1
  clear h1
  go_enter Tryz.func19, Tryz.ntmps19
  go_wp2
  refine wp_loop_rounds 1 ?_
  rw [rounds_succ]
  go_wp2
  go_ret
  exact ⟨rfl, h2, Cg.refl _ _⟩
 obtain ⟨g, off, K', rfl, rfl, -, -, -, hg, -⟩ := h1.row (by omega)
 have HH : Hid (Fit w (.list 7 n' (fun i => trs (xrT (if i < 0 then nmRu (s + sumN i (fun i => ctRu (f i))) (f i) else f i)))) (.row g off 7 n' K') (.slice (some ⟨g, off, none⟩) n' c) /\ (Sk.row g off 7 n' K').ok /\ s + sumN n' (fun i => ctRu (f i)) <= 1125899906842624) := ⟨h1, hok, hB⟩
 clear h1 hok hB
 go_enter Tryz.func19, Tryz.ntmps19
 go_wp2
 go_loopw [1, 5] (fun kv i wr => ∃ z : Nat, z <= n' /\ i = .int .i64 z /\ kv = .int .i64 ((s + sumN z (fun i => ctRu (f i)) : Nat) : Int) /\ Fit wr (.list 7 n' (fun i => trs (xrT (if i < z then nmRu (s + sumN i (fun i => ctRu (f i))) (f i) else f i)))) (.row g off 7 n' K') (.slice (some ⟨g, off, none⟩) n' c) /\ Cg w wr (Sk.row g off 7 n' K').bl) (fun _ i _ => n' - (intOf i).toNat)
 case atStart => exact ⟨0, Nat.zero_le _, rfl, rfl, HH.out.1, Cg.refl _ _⟩
 case round =>
  obtain ⟨z, hz, rfl, rfl, hF, hC⟩ := hrel
  by_cases hlt : z < n'
  ·have hi : (z : Int) < (n' : Int) := by omega
   obtain ⟨kk, hkk⟩ : ∃ kk, kk = s + sumN z (fun i => ctRu (f i)) := ⟨_, rfl⟩
   rw [<- hkk]
   have HC : Hid (ctRu (f z) = 1 + 1 + 1 + 1 + 1 + 1 + 1 /\ True) := ⟨rfl, trivial⟩
   have HK0 : Hid (kk = s + sumN z (fun i => ctRu (f i)) /\ kk + ctRu (f z) <= 1125899906842624 /\ s + sumN (z + 1) (fun i => ctRu (f i)) = kk + ctRu (f z)) := ⟨hkk, by have h7 := sumN_le (g := (fun i => ctRu (f i))) hlt; have h8 := HH.out.2.2; omega, by rw [hkk]; simp only [sumN]; omega⟩
   obtain ⟨T0, hT0⟩ : ∃ T0 : Nat -> Nat -> Tr, T0 = (fun i => trs (xrT (if i < z then nmRu (s + sumN i (fun i => ctRu (f i))) (f i) else f i))) := ⟨_, rfl⟩
   rw [<- hT0] at hF
   have F0 := hF.toZ (z := z) (L := [.leaf (.int .i64 (f z).u), .leaf (.int .i64 (f z).s), .leaf (.int .i64 (f z).lo), .leaf (.int .i64 (f z).hi), .leaf (.int .i64 (f z).p), .leaf (.int .i64 (f z).t), .leaf (.int .i64 (f z).sh)]) (fun j hj => by rw [hT0]; simp only [if_neg (Nat.lt_irrefl z)]; rfl)
   have HT : Hid (T0 = (fun i => trs (xrT (if i < z then nmRu (s + sumN i (fun i => ctRu (f i))) (f i) else f i)))) := hT0
   have G0 : Hid (Fit wr (.list 7 n' (atZ z [.leaf (.int .i64 (f z).u), .leaf (.int .i64 (f z).s), .leaf (.int .i64 (f z).lo), .leaf (.int .i64 (f z).hi), .leaf (.int .i64 (f z).p), .leaf (.int .i64 (f z).t), .leaf (.int .i64 (f z).sh)] T0)) (.row g off 7 n' K') (.slice (some ⟨g, off, none⟩) n' c) /\ Cg w wr (Sk.row g off 7 n' K').bl) := ⟨F0, hC⟩
   clear hF hC F0 hT0 hkk
   obtain ⟨u0, q0, -⟩ := G0.out.1.cellZ hlt 0 (by decide)
   have e0 : wr.cell? ⟨g, off + z * 7, none⟩ = some u0 := q0
   clear q0
   have f0 := G0.out.1.fro (off + z * 7)
   obtain ⟨u1, q1, -⟩ := G0.out.1.cellZ hlt 1 (by decide)
   have e1 : wr.cell? ⟨g, off + z * 7 + 1, none⟩ = some u1 := q1
   clear q1
   have f1 := G0.out.1.fro (off + z * 7 + 1)
   obtain ⟨u2, q2, -⟩ := G0.out.1.cellZ hlt 2 (by decide)
   have e2 : wr.cell? ⟨g, off + z * 7 + 2, none⟩ = some u2 := q2
   clear q2
   have f2 := G0.out.1.fro (off + z * 7 + 2)
   obtain ⟨u3, q3, -⟩ := G0.out.1.cellZ hlt 3 (by decide)
   have e3 : wr.cell? ⟨g, off + z * 7 + 3, none⟩ = some u3 := q3
   clear q3
   have f3 := G0.out.1.fro (off + z * 7 + 3)
   obtain ⟨u4, q4, -⟩ := G0.out.1.cellZ hlt 4 (by decide)
   have e4 : wr.cell? ⟨g, off + z * 7 + 4, none⟩ = some u4 := q4
   clear q4
   have f4 := G0.out.1.fro (off + z * 7 + 4)
   obtain ⟨u5, q5, -⟩ := G0.out.1.cellZ hlt 5 (by decide)
   have e5 : wr.cell? ⟨g, off + z * 7 + 5, none⟩ = some u5 := q5
   clear q5
   have f5 := G0.out.1.fro (off + z * 7 + 5)
   obtain ⟨u6, q6, -⟩ := G0.out.1.cellZ hlt 6 (by decide)
   have e6 : wr.cell? ⟨g, off + z * 7 + 6, none⟩ = some u6 := q6
   clear q6
   have f6 := G0.out.1.fro (off + z * 7 + 6)
   have v0 : IntKind.i64.wrap ((kk : Int) + 1) = (kk : Int) + 1 := by have := HC.out; have := HK0.out; rw [IntKind.wrap_i64]; omega
   have v1 : IntKind.i64.wrap ((kk : Int) + 1 + 1) = (kk : Int) + 2 := by have := HC.out; have := HK0.out; rw [IntKind.wrap_i64]; omega
   have v2 : IntKind.i64.wrap ((kk : Int) + 2 + 1) = (kk : Int) + 3 := by have := HC.out; have := HK0.out; rw [IntKind.wrap_i64]; omega
   have v3 : IntKind.i64.wrap ((kk : Int) + 3 + 1) = (kk : Int) + 4 := by have := HC.out; have := HK0.out; rw [IntKind.wrap_i64]; omega
   have v4 : IntKind.i64.wrap ((kk : Int) + 4 + 1) = (kk : Int) + 5 := by have := HC.out; have := HK0.out; rw [IntKind.wrap_i64]; omega
   have v5 : IntKind.i64.wrap ((kk : Int) + 5 + 1) = (kk : Int) + 6 := by have := HC.out; have := HK0.out; rw [IntKind.wrap_i64]; omega
   have v6 : IntKind.i64.wrap ((kk : Int) + 6 + 1) = (kk : Int) + 7 := by have := HC.out; have := HK0.out; rw [IntKind.wrap_i64]; omega
   have G1 : Hid (Fit (((((((wr.setCell ⟨g, off + z * 7, none⟩ (.int .i64 ((kk : Int)))).setCell ⟨g, off + z * 7 + 1, none⟩ (.int .i64 ((kk : Int) + 1))).setCell ⟨g, off + z * 7 + 2, none⟩ (.int .i64 ((kk : Int) + 2))).setCell ⟨g, off + z * 7 + 3, none⟩ (.int .i64 ((kk : Int) + 3))).setCell ⟨g, off + z * 7 + 4, none⟩ (.int .i64 ((kk : Int) + 4))).setCell ⟨g, off + z * 7 + 5, none⟩ (.int .i64 ((kk : Int) + 5))).setCell ⟨g, off + z * 7 + 6, none⟩ (.int .i64 ((kk : Int) + 6))) (.list 7 n' (atZ z [.leaf (.int .i64 ((kk : Nat) : Int)), .leaf (.int .i64 ((kk + 1 : Nat) : Int)), .leaf (.int .i64 ((kk + 1 + 1 : Nat) : Int)), .leaf (.int .i64 ((kk + 1 + 1 + 1 : Nat) : Int)), .leaf (.int .i64 ((kk + 1 + 1 + 1 + 1 : Nat) : Int)), .leaf (.int .i64 ((kk + 1 + 1 + 1 + 1 + 1 : Nat) : Int)), .leaf (.int .i64 ((kk + 1 + 1 + 1 + 1 + 1 + 1 : Nat) : Int))] T0)) (.row g off 7 n' K') (.slice (some ⟨g, off, none⟩) n' c) /\ Cg w (((((((wr.setCell ⟨g, off + z * 7, none⟩ (.int .i64 ((kk : Int)))).setCell ⟨g, off + z * 7 + 1, none⟩ (.int .i64 ((kk : Int) + 1))).setCell ⟨g, off + z * 7 + 2, none⟩ (.int .i64 ((kk : Int) + 2))).setCell ⟨g, off + z * 7 + 3, none⟩ (.int .i64 ((kk : Int) + 3))).setCell ⟨g, off + z * 7 + 4, none⟩ (.int .i64 ((kk : Int) + 4))).setCell ⟨g, off + z * 7 + 5, none⟩ (.int .i64 ((kk : Int) + 5))).setCell ⟨g, off + z * 7 + 6, none⟩ (.int .i64 ((kk : Int) + 6))) (Sk.row g off 7 n' K').bl) := ⟨(((((((G0.out.1.setZ HH.out.2.1 hlt 0 (by decide) (by simp) _ (.int .i64 ((kk : Int))) (.int .i64 ((kk : Nat) : Int)) rfl (congrArg (Value.int .i64) (by have := HC.out; have := HK0.out; omega)) rfl).setZ HH.out.2.1 hlt 1 (by decide) (by simp) _ (.int .i64 ((kk : Int) + 1)) (.int .i64 ((kk + 1 : Nat) : Int)) rfl (congrArg (Value.int .i64) (by have := HC.out; have := HK0.out; omega)) rfl).setZ HH.out.2.1 hlt 2 (by decide) (by simp) _ (.int .i64 ((kk : Int) + 2)) (.int .i64 ((kk + 1 + 1 : Nat) : Int)) rfl (congrArg (Value.int .i64) (by have := HC.out; have := HK0.out; omega)) rfl).setZ HH.out.2.1 hlt 3 (by decide) (by simp) _ (.int .i64 ((kk : Int) + 3)) (.int .i64 ((kk + 1 + 1 + 1 : Nat) : Int)) rfl (congrArg (Value.int .i64) (by have := HC.out; have := HK0.out; omega)) rfl).setZ HH.out.2.1 hlt 4 (by decide) (by simp) _ (.int .i64 ((kk : Int) + 4)) (.int .i64 ((kk + 1 + 1 + 1 + 1 : Nat) : Int)) rfl (congrArg (Value.int .i64) (by have := HC.out; have := HK0.out; omega)) rfl).setZ HH.out.2.1 hlt 5 (by decide) (by simp) _ (.int .i64 ((kk : Int) + 5)) (.int .i64 ((kk + 1 + 1 + 1 + 1 + 1 : Nat) : Int)) rfl (congrArg (Value.int .i64) (by have := HC.out; have := HK0.out; omega)) rfl).setZ HH.out.2.1 hlt 6 (by decide) (by simp) _ (.int .i64 ((kk : Int) + 6)) (.int .i64 ((kk + 1 + 1 + 1 + 1 + 1 + 1 : Nat) : Int)) rfl (congrArg (Value.int .i64) (by have := HC.out; have := HK0.out; omega)) rfl), (((((((G0.out.2.set (p := ⟨g, off + z * 7, none⟩) (.inl rfl) (.int .i64 ((kk : Int)))).set (p := ⟨g, off + z * 7 + 1, none⟩) (.inl rfl) (.int .i64 ((kk : Int) + 1))).set (p := ⟨g, off + z * 7 + 2, none⟩) (.inl rfl) (.int .i64 ((kk : Int) + 2))).set (p := ⟨g, off + z * 7 + 3, none⟩) (.inl rfl) (.int .i64 ((kk : Int) + 3))).set (p := ⟨g, off + z * 7 + 4, none⟩) (.inl rfl) (.int .i64 ((kk : Int) + 4))).set (p := ⟨g, off + z * 7 + 5, none⟩) (.inl rfl) (.int .i64 ((kk : Int) + 5))).set (p := ⟨g, off + z * 7 + 6, none⟩) (.inl rfl) (.int .i64 ((kk : Int) + 6)))⟩
   clear G0
   have HZ : Hid (Fit (((((((wr.setCell ⟨g, off + z * 7, none⟩ (.int .i64 ((kk : Int)))).setCell ⟨g, off + z * 7 + 1, none⟩ (.int .i64 ((kk : Int) + 1))).setCell ⟨g, off + z * 7 + 2, none⟩ (.int .i64 ((kk : Int) + 2))).setCell ⟨g, off + z * 7 + 3, none⟩ (.int .i64 ((kk : Int) + 3))).setCell ⟨g, off + z * 7 + 4, none⟩ (.int .i64 ((kk : Int) + 4))).setCell ⟨g, off + z * 7 + 5, none⟩ (.int .i64 ((kk : Int) + 5))).setCell ⟨g, off + z * 7 + 6, none⟩ (.int .i64 ((kk : Int) + 6))) (.list 7 n' (fun i => trs (xrT (if i < z + 1 then nmRu (s + sumN i (fun i => ctRu (f i))) (f i) else f i)))) (.row g off 7 n' K') (.slice (some ⟨g, off, none⟩) n' c) /\ Cg w (((((((wr.setCell ⟨g, off + z * 7, none⟩ (.int .i64 ((kk : Int)))).setCell ⟨g, off + z * 7 + 1, none⟩ (.int .i64 ((kk : Int) + 1))).setCell ⟨g, off + z * 7 + 2, none⟩ (.int .i64 ((kk : Int) + 2))).setCell ⟨g, off + z * 7 + 3, none⟩ (.int .i64 ((kk : Int) + 3))).setCell ⟨g, off + z * 7 + 4, none⟩ (.int .i64 ((kk : Int) + 4))).setCell ⟨g, off + z * 7 + 5, none⟩ (.int .i64 ((kk : Int) + 5))).setCell ⟨g, off + z * 7 + 6, none⟩ (.int .i64 ((kk : Int) + 6))) (Sk.row g off 7 n' K').bl /\ (kk : Int) + 7 = ((s + sumN (z + 1) (fun i => ctRu (f i)) : Nat) : Int)) := ⟨G1.out.1.doneZ (T1 := fun i => trs (xrT (if i < z + 1 then nmRu (s + sumN i (fun i => ctRu (f i))) (f i) else f i))) (fun i hi => by rw [HT.out]; simp only [if_lt_succ hi]) (fun j hj => by simp only [if_pos (Nat.lt_succ_self z)]; rw [<- HK0.out.1]; rfl), G1.out.2, by have := HC.out; have := HK0.out; omega⟩
   clear G1 HT
   go_wp2
   go_roundw
   case rel => exact ⟨z + 1, by omega, by go_num, congrArg (Value.int .i64) HZ.out.2.2, HZ.out.1, HZ.out.2.1⟩
   case measure => simp [intOf]; omega
  have hi : ¬ (z : Int) < (n' : Int) := by omega
  have e9 : z = n' := by omega
  subst e9
  have H1 : Hid (_ /\ _) := ⟨HE.out _ hF, hC⟩
  clear hF hC
  go_wp2
  go_ret
  exact ⟨rfl, H1.out.1, H1.out.2⟩
theorem markCallS_f (n : Nat) (f : Nat -> VL) (a : Option Addr) (n' c s : Nat) (x : Int) (K : Sk) (w : World) (hx : x = ((s : Nat) : Int)) (h : Fit w (.list 9 n (fun i => trs (xlT (f i)))) K (.slice a n' c)) (hok : K.ok) (hB : s + sumN n (fun i => ctVL (f i)) <= 1125899906842624) :
 Calls Tryz.prog 125 #[.slice a n' c, .int .i64 x] w fun e w' => e = .returned (.int .i64 ((s + sumN n (fun i => ctVL (f i)) : Nat) : Int)) /\ Fit w' (.list 9 n (fun i => trs (xlT (nmVL (s + sumN i (fun i => ctVL (f i))) (f i))))) K (.slice a n' c) /\ Cg w w' K.bl := by
 subst hx
 obtain ⟨rfl, hc1, hm⟩ := h.len
 unfold maxLen at hm
 have HE : Hid (∀ w', Fit w' (.list 9 n' (fun i => trs (xlT (if i < n' then nmVL (s + sumN i (fun i => ctVL (f i))) (f i) else f i)))) K (.slice a n' c) -> Fit w' (.list 9 n' (fun i => trs (xlT (nmVL (s + sumN i (fun i => ctVL (f i))) (f i))))) K (.slice a n' c)) := by
  show ∀ w', _
  intro w' h9
  exact h9.congr (fun k j hk hj => by simp only [if_pos hk])
 have h1 : Fit w (.list 9 n' (fun i => trs (xlT (if i < 0 then nmVL (s + sumN i (fun i => ctVL (f i))) (f i) else f i)))) K (.slice a n' c) := h.congr (fun k j hk hj => by simp)
 clear h
 by_cases h0 : n' = 0
 ·subst h0
  have h2 := HE.out w h1
  clear h1
  go_enter Tryz.func125, Tryz.ntmps125
  go_wp2
  refine wp_loop_rounds 1 ?_
  rw [rounds_succ]
  go_wp2
  go_ret
  exact ⟨rfl, h2, Cg.refl _ _⟩
 obtain ⟨g, off, K', rfl, rfl, -, -, -, hg, -⟩ := h1.row (by omega)
 have HH : Hid (Fit w (.list 9 n' (fun i => trs (xlT (if i < 0 then nmVL (s + sumN i (fun i => ctVL (f i))) (f i) else f i)))) (.row g off 9 n' K') (.slice (some ⟨g, off, none⟩) n' c) /\ (Sk.row g off 9 n' K').ok /\ s + sumN n' (fun i => ctVL (f i)) <= 1125899906842624) := ⟨h1, hok, hB⟩
 clear h1 hok hB
 go_enter Tryz.func125, Tryz.ntmps125
 go_wp2
 go_loopw [1, 5] (fun kv i wr => ∃ z : Nat, z <= n' /\ i = .int .i64 z /\ kv = .int .i64 ((s + sumN z (fun i => ctVL (f i)) : Nat) : Int) /\ Fit wr (.list 9 n' (fun i => trs (xlT (if i < z then nmVL (s + sumN i (fun i => ctVL (f i))) (f i) else f i)))) (.row g off 9 n' K') (.slice (some ⟨g, off, none⟩) n' c) /\ Cg w wr (Sk.row g off 9 n' K').bl) (fun _ i _ => n' - (intOf i).toNat)
 case atStart => exact ⟨0, Nat.zero_le _, rfl, rfl, HH.out.1, Cg.refl _ _⟩
 case round =>
  obtain ⟨z, hz, rfl, rfl, hF, hC⟩ := hrel
  by_cases hlt : z < n'
  ·have hi : (z : Int) < (n' : Int) := by omega
   obtain ⟨kk, hkk⟩ : ∃ kk, kk = s + sumN z (fun i => ctVL (f i)) := ⟨_, rfl⟩
   rw [<- hkk]
   have HC : Hid (ctVL (f z) = 1 + 1 + 1 + ctVQ (f z).q /\ ctVQ (f z).q = 1 + 1 + 1 + (f z).q.ws.length + (f z).q.bs.length + 1 /\ True) := ⟨rfl, rfl, trivial⟩
   have HK0 : Hid (kk = s + sumN z (fun i => ctVL (f i)) /\ kk + ctVL (f z) <= 1125899906842624 /\ s + sumN (z + 1) (fun i => ctVL (f i)) = kk + ctVL (f z)) := ⟨hkk, by have h7 := sumN_le (g := (fun i => ctVL (f i))) hlt; have h8 := HH.out.2.2; omega, by rw [hkk]; simp only [sumN]; omega⟩
   obtain ⟨T0, hT0⟩ : ∃ T0 : Nat -> Nat -> Tr, T0 = (fun i => trs (xlT (if i < z then nmVL (s + sumN i (fun i => ctVL (f i))) (f i) else f i))) := ⟨_, rfl⟩
   rw [<- hT0] at hF
   have F0 := hF.toZ (z := z) (L := [.leaf (.int .i64 (f z).id), .leaf (.int .i64 (f z).pa), .leaf (.int .i64 (f z).un), .leaf (.int .i64 (f z).q.kd), .leaf (.int .i64 (f z).q.pl), .leaf (.int .i64 (f z).q.n), intsT (f z).q.ws, boolsT (f z).q.bs, .leaf (.int .i64 (f z).q.wa)]) (fun j hj => by rw [hT0]; simp only [if_neg (Nat.lt_irrefl z)]; rfl)
   have HT : Hid (T0 = (fun i => trs (xlT (if i < z then nmVL (s + sumN i (fun i => ctVL (f i))) (f i) else f i)))) := hT0
   have G0 : Hid (Fit wr (.list 9 n' (atZ z [.leaf (.int .i64 (f z).id), .leaf (.int .i64 (f z).pa), .leaf (.int .i64 (f z).un), .leaf (.int .i64 (f z).q.kd), .leaf (.int .i64 (f z).q.pl), .leaf (.int .i64 (f z).q.n), intsT (f z).q.ws, boolsT (f z).q.bs, .leaf (.int .i64 (f z).q.wa)] T0)) (.row g off 9 n' K') (.slice (some ⟨g, off, none⟩) n' c) /\ Cg w wr (Sk.row g off 9 n' K').bl) := ⟨F0, hC⟩
   clear hF hC F0 hT0 hkk
   obtain ⟨u0, q0, -⟩ := G0.out.1.cellZ hlt 0 (by decide)
   have e0 : wr.cell? ⟨g, off + z * 9, none⟩ = some u0 := q0
   clear q0
   have f0 := G0.out.1.fro (off + z * 9)
   obtain ⟨u1, q1, -⟩ := G0.out.1.cellZ hlt 1 (by decide)
   have e1 : wr.cell? ⟨g, off + z * 9 + 1, none⟩ = some u1 := q1
   clear q1
   have f1 := G0.out.1.fro (off + z * 9 + 1)
   obtain ⟨u2, q2, -⟩ := G0.out.1.cellZ hlt 2 (by decide)
   have e2 : wr.cell? ⟨g, off + z * 9 + 2, none⟩ = some u2 := q2
   clear q2
   have f2 := G0.out.1.fro (off + z * 9 + 2)
   obtain ⟨u3, q3, -⟩ := G0.out.1.cellZ hlt 3 (by decide)
   have e3 : wr.cell? ⟨g, off + z * 9 + 3, none⟩ = some u3 := q3
   clear q3
   have f3 := G0.out.1.fro (off + z * 9 + 3)
   obtain ⟨u4, q4, -⟩ := G0.out.1.cellZ hlt 4 (by decide)
   have e4 : wr.cell? ⟨g, off + z * 9 + 4, none⟩ = some u4 := q4
   clear q4
   have f4 := G0.out.1.fro (off + z * 9 + 4)
   obtain ⟨u5, q5, -⟩ := G0.out.1.cellZ hlt 5 (by decide)
   have e5 : wr.cell? ⟨g, off + z * 9 + 5, none⟩ = some u5 := q5
   clear q5
   have f5 := G0.out.1.fro (off + z * 9 + 5)
   have v0 : IntKind.i64.wrap ((kk : Int) + 1) = (kk : Int) + 1 := by have := HC.out; have := HK0.out; rw [IntKind.wrap_i64]; omega
   have v1 : IntKind.i64.wrap ((kk : Int) + 1 + 1) = (kk : Int) + 2 := by have := HC.out; have := HK0.out; rw [IntKind.wrap_i64]; omega
   have v2 : IntKind.i64.wrap ((kk : Int) + 2 + 1) = (kk : Int) + 3 := by have := HC.out; have := HK0.out; rw [IntKind.wrap_i64]; omega
   have v3 : IntKind.i64.wrap ((kk : Int) + 3 + 1) = (kk : Int) + 4 := by have := HC.out; have := HK0.out; rw [IntKind.wrap_i64]; omega
   have v4 : IntKind.i64.wrap ((kk : Int) + 4 + 1) = (kk : Int) + 5 := by have := HC.out; have := HK0.out; rw [IntKind.wrap_i64]; omega
   have v5 : IntKind.i64.wrap ((kk : Int) + 5 + 1) = (kk : Int) + 6 := by have := HC.out; have := HK0.out; rw [IntKind.wrap_i64]; omega
   have G1 : Hid (Fit ((((((wr.setCell ⟨g, off + z * 9, none⟩ (.int .i64 ((kk : Int)))).setCell ⟨g, off + z * 9 + 1, none⟩ (.int .i64 ((kk : Int) + 1))).setCell ⟨g, off + z * 9 + 2, none⟩ (.int .i64 ((kk : Int) + 2))).setCell ⟨g, off + z * 9 + 3, none⟩ (.int .i64 ((kk : Int) + 3))).setCell ⟨g, off + z * 9 + 4, none⟩ (.int .i64 ((kk : Int) + 4))).setCell ⟨g, off + z * 9 + 5, none⟩ (.int .i64 ((kk : Int) + 5))) (.list 9 n' (atZ z [.leaf (.int .i64 ((kk : Nat) : Int)), .leaf (.int .i64 ((kk + 1 : Nat) : Int)), .leaf (.int .i64 ((kk + 1 + 1 : Nat) : Int)), .leaf (.int .i64 (((kk + 1 + 1 + 1) : Nat) : Int)), .leaf (.int .i64 (((kk + 1 + 1 + 1) + 1 : Nat) : Int)), .leaf (.int .i64 (((kk + 1 + 1 + 1) + 1 + 1 : Nat) : Int)), intsT (f z).q.ws, boolsT (f z).q.bs, .leaf (.int .i64 (f z).q.wa)] T0)) (.row g off 9 n' K') (.slice (some ⟨g, off, none⟩) n' c) /\ Cg w ((((((wr.setCell ⟨g, off + z * 9, none⟩ (.int .i64 ((kk : Int)))).setCell ⟨g, off + z * 9 + 1, none⟩ (.int .i64 ((kk : Int) + 1))).setCell ⟨g, off + z * 9 + 2, none⟩ (.int .i64 ((kk : Int) + 2))).setCell ⟨g, off + z * 9 + 3, none⟩ (.int .i64 ((kk : Int) + 3))).setCell ⟨g, off + z * 9 + 4, none⟩ (.int .i64 ((kk : Int) + 4))).setCell ⟨g, off + z * 9 + 5, none⟩ (.int .i64 ((kk : Int) + 5))) (Sk.row g off 9 n' K').bl) := ⟨((((((G0.out.1.setZ HH.out.2.1 hlt 0 (by decide) (by simp) _ (.int .i64 ((kk : Int))) (.int .i64 ((kk : Nat) : Int)) rfl (congrArg (Value.int .i64) (by have := HC.out; have := HK0.out; omega)) rfl).setZ HH.out.2.1 hlt 1 (by decide) (by simp) _ (.int .i64 ((kk : Int) + 1)) (.int .i64 ((kk + 1 : Nat) : Int)) rfl (congrArg (Value.int .i64) (by have := HC.out; have := HK0.out; omega)) rfl).setZ HH.out.2.1 hlt 2 (by decide) (by simp) _ (.int .i64 ((kk : Int) + 2)) (.int .i64 ((kk + 1 + 1 : Nat) : Int)) rfl (congrArg (Value.int .i64) (by have := HC.out; have := HK0.out; omega)) rfl).setZ HH.out.2.1 hlt 3 (by decide) (by simp) _ (.int .i64 ((kk : Int) + 3)) (.int .i64 (((kk + 1 + 1 + 1) : Nat) : Int)) rfl (congrArg (Value.int .i64) (by have := HC.out; have := HK0.out; omega)) rfl).setZ HH.out.2.1 hlt 4 (by decide) (by simp) _ (.int .i64 ((kk : Int) + 4)) (.int .i64 (((kk + 1 + 1 + 1) + 1 : Nat) : Int)) rfl (congrArg (Value.int .i64) (by have := HC.out; have := HK0.out; omega)) rfl).setZ HH.out.2.1 hlt 5 (by decide) (by simp) _ (.int .i64 ((kk : Int) + 5)) (.int .i64 (((kk + 1 + 1 + 1) + 1 + 1 : Nat) : Int)) rfl (congrArg (Value.int .i64) (by have := HC.out; have := HK0.out; omega)) rfl), ((((((G0.out.2.set (p := ⟨g, off + z * 9, none⟩) (.inl rfl) (.int .i64 ((kk : Int)))).set (p := ⟨g, off + z * 9 + 1, none⟩) (.inl rfl) (.int .i64 ((kk : Int) + 1))).set (p := ⟨g, off + z * 9 + 2, none⟩) (.inl rfl) (.int .i64 ((kk : Int) + 2))).set (p := ⟨g, off + z * 9 + 3, none⟩) (.inl rfl) (.int .i64 ((kk : Int) + 3))).set (p := ⟨g, off + z * 9 + 4, none⟩) (.inl rfl) (.int .i64 ((kk : Int) + 4))).set (p := ⟨g, off + z * 9 + 5, none⟩) (.inl rfl) (.int .i64 ((kk : Int) + 5)))⟩
   go_upto_region 16 with fail
   obtain ⟨W1, hW1⟩ : ∃ W, W = ((((((wr.setCell ⟨g, off + z * 9, none⟩ (.int .i64 ((kk : Int)))).setCell ⟨g, off + z * 9 + 1, none⟩ (.int .i64 ((kk : Int) + 1))).setCell ⟨g, off + z * 9 + 2, none⟩ (.int .i64 ((kk : Int) + 2))).setCell ⟨g, off + z * 9 + 3, none⟩ (.int .i64 ((kk : Int) + 3))).setCell ⟨g, off + z * 9 + 4, none⟩ (.int .i64 ((kk : Int) + 4))).setCell ⟨g, off + z * 9 + 5, none⟩ (.int .i64 ((kk : Int) + 5))) := ⟨_, rfl⟩
   rw [<- hW1] at G1 ⊢
   clear hW1 e0 f0 e1 f1 e2 f2 e3 f3 e4 f4 e5 f5 v0 v1 v2 v3 v4 v5 G0 u0 u1 u2 u3 u4 u5
   obtain ⟨u6, q6, t6⟩ := G1.out.1.cellZ hlt 6 (by decide)
   have t6' : Fit W1 (intsT (f z).q.ws) (K' z 6) u6 := t6
   obtain ⟨a6, c6, rfl⟩ := t6'.shape
   have HS6 : Hid (Fit W1 (intsT (f z).q.ws) (K' z 6) (.slice a6 ((f z).q.ws.length) c6) /\ W1.cell? ⟨g, off + z * 9 + 6, none⟩ = some (.slice a6 ((f z).q.ws.length) c6)) := ⟨t6', q6⟩
   have e6 : W1.cell? ⟨g, off + z * 9 + 6, none⟩ = some (.slice a6 ((f z).q.ws.length) c6) := q6
   clear t6 t6' q6
   go_wp2_with fail
   refine (markIntS_f (f z).q.ws a6 _ c6 ((kk + 1 + 1 + 1) + 1 + 1 + 1) _ (K' z 6) _ (by have := HC.out; have := HK0.out; omega) HS6.out.1 (HH.out.2.1.1 z 6 hlt (by decide)).1 (by have := HC.out; have := HK0.out; omega)).mono ?_
   rintro e W2 ⟨rfl, m9, cg9⟩
   have G2 : Hid (Fit W2 (.list 9 n' (atZ z [.leaf (.int .i64 ((kk : Nat) : Int)), .leaf (.int .i64 ((kk + 1 : Nat) : Int)), .leaf (.int .i64 ((kk + 1 + 1 : Nat) : Int)), .leaf (.int .i64 (((kk + 1 + 1 + 1) : Nat) : Int)), .leaf (.int .i64 (((kk + 1 + 1 + 1) + 1 : Nat) : Int)), .leaf (.int .i64 (((kk + 1 + 1 + 1) + 1 + 1 : Nat) : Int)), intsT (marksI ((kk + 1 + 1 + 1) + 1 + 1 + 1) (f z).q.ws.length), boolsT (f z).q.bs, .leaf (.int .i64 (f z).q.wa)] T0)) (.row g off 9 n' K') (.slice (some ⟨g, off, none⟩) n' c) /\ Cg w W2 (Sk.row g off 9 n' K').bl) := ⟨G1.out.1.subZ HH.out.2.1 hlt 6 (by decide) (by simp) _ HS6.out.2 _ cg9 m9 rfl, G1.out.2.trans (cg9.mono (fun b hb => Sk.bl_in hlt (by decide) hb))⟩
   obtain ⟨k2, hk2⟩ : ∃ k2 : Nat, k2 = (kk + 1 + 1 + 1) + 1 + 1 + 1 + (f z).q.ws.length := ⟨_, rfl⟩
   rw [<- hk2]
   have HK2 : Hid (k2 = (kk + 1 + 1 + 1) + 1 + 1 + 1 + (f z).q.ws.length) := hk2
   clear m9 cg9 hk2 e6 G1 HS6
   obtain ⟨u7, q7, t7⟩ := G2.out.1.cellZ hlt 7 (by decide)
   have t7' : Fit W2 (boolsT (f z).q.bs) (K' z 7) u7 := t7
   obtain ⟨a7, c7, rfl⟩ := t7'.shape
   have HS7 : Hid (Fit W2 (boolsT (f z).q.bs) (K' z 7) (.slice a7 ((f z).q.bs.length) c7) /\ W2.cell? ⟨g, off + z * 9 + 7, none⟩ = some (.slice a7 ((f z).q.bs.length) c7)) := ⟨t7', q7⟩
   have e7 : W2.cell? ⟨g, off + z * 9 + 7, none⟩ = some (.slice a7 ((f z).q.bs.length) c7) := q7
   clear t7 t7' q7
   go_wp2_with fail
   refine (markBoolS_f (f z).q.bs a7 _ c7 ((kk + 1 + 1 + 1) + 1 + 1 + 1 + (f z).q.ws.length) _ (K' z 7) _ (by have := HC.out; have := HK0.out; have := HK2.out; omega) HS7.out.1 (HH.out.2.1.1 z 7 hlt (by decide)).1 (by have := HC.out; have := HK0.out; have := HK2.out; omega)).mono ?_
   rintro e W3 ⟨rfl, m9, cg9⟩
   have G3 : Hid (Fit W3 (.list 9 n' (atZ z [.leaf (.int .i64 ((kk : Nat) : Int)), .leaf (.int .i64 ((kk + 1 : Nat) : Int)), .leaf (.int .i64 ((kk + 1 + 1 : Nat) : Int)), .leaf (.int .i64 (((kk + 1 + 1 + 1) : Nat) : Int)), .leaf (.int .i64 (((kk + 1 + 1 + 1) + 1 : Nat) : Int)), .leaf (.int .i64 (((kk + 1 + 1 + 1) + 1 + 1 : Nat) : Int)), intsT (marksI ((kk + 1 + 1 + 1) + 1 + 1 + 1) (f z).q.ws.length), boolsT (marksB ((kk + 1 + 1 + 1) + 1 + 1 + 1 + (f z).q.ws.length) (f z).q.bs.length), .leaf (.int .i64 (f z).q.wa)] T0)) (.row g off 9 n' K') (.slice (some ⟨g, off, none⟩) n' c) /\ Cg w W3 (Sk.row g off 9 n' K').bl) := ⟨G2.out.1.subZ HH.out.2.1 hlt 7 (by decide) (by simp) _ HS7.out.2 _ cg9 m9 rfl, G2.out.2.trans (cg9.mono (fun b hb => Sk.bl_in hlt (by decide) hb))⟩
   obtain ⟨k3, hk3⟩ : ∃ k3 : Nat, k3 = (kk + 1 + 1 + 1) + 1 + 1 + 1 + (f z).q.ws.length + (f z).q.bs.length := ⟨_, rfl⟩
   rw [<- hk3]
   have HK3 : Hid (k3 = (kk + 1 + 1 + 1) + 1 + 1 + 1 + (f z).q.ws.length + (f z).q.bs.length) := hk3
   clear m9 cg9 hk3 e7 G2 HS7
   obtain ⟨u8, q8, -⟩ := G3.out.1.cellZ hlt 8 (by decide)
   have e8 : W3.cell? ⟨g, off + z * 9 + 8, none⟩ = some u8 := q8
   clear q8
   have f8 := G3.out.1.fro (off + z * 9 + 8)
   have v0 : IntKind.i64.wrap ((k3 : Int) + 1) = (k3 : Int) + 1 := by have := HC.out; have := HK0.out; have := HK2.out; have := HK3.out; rw [IntKind.wrap_i64]; omega
   have G4 : Hid (Fit (W3.setCell ⟨g, off + z * 9 + 8, none⟩ (.int .i64 ((k3 : Int)))) (.list 9 n' (atZ z [.leaf (.int .i64 ((kk : Nat) : Int)), .leaf (.int .i64 ((kk + 1 : Nat) : Int)), .leaf (.int .i64 ((kk + 1 + 1 : Nat) : Int)), .leaf (.int .i64 (((kk + 1 + 1 + 1) : Nat) : Int)), .leaf (.int .i64 (((kk + 1 + 1 + 1) + 1 : Nat) : Int)), .leaf (.int .i64 (((kk + 1 + 1 + 1) + 1 + 1 : Nat) : Int)), intsT (marksI ((kk + 1 + 1 + 1) + 1 + 1 + 1) (f z).q.ws.length), boolsT (marksB ((kk + 1 + 1 + 1) + 1 + 1 + 1 + (f z).q.ws.length) (f z).q.bs.length), .leaf (.int .i64 (((kk + 1 + 1 + 1) + 1 + 1 + 1 + (f z).q.ws.length + (f z).q.bs.length : Nat) : Int))] T0)) (.row g off 9 n' K') (.slice (some ⟨g, off, none⟩) n' c) /\ Cg w (W3.setCell ⟨g, off + z * 9 + 8, none⟩ (.int .i64 ((k3 : Int)))) (Sk.row g off 9 n' K').bl) := ⟨(G3.out.1.setZ HH.out.2.1 hlt 8 (by decide) (by simp) _ (.int .i64 ((k3 : Int))) (.int .i64 (((kk + 1 + 1 + 1) + 1 + 1 + 1 + (f z).q.ws.length + (f z).q.bs.length : Nat) : Int)) rfl (congrArg (Value.int .i64) (by have := HC.out; have := HK0.out; have := HK2.out; have := HK3.out; omega)) rfl), (G3.out.2.set (p := ⟨g, off + z * 9 + 8, none⟩) (.inl rfl) (.int .i64 ((k3 : Int))))⟩
   clear G3
   have HZ : Hid (Fit (W3.setCell ⟨g, off + z * 9 + 8, none⟩ (.int .i64 ((k3 : Int)))) (.list 9 n' (fun i => trs (xlT (if i < z + 1 then nmVL (s + sumN i (fun i => ctVL (f i))) (f i) else f i)))) (.row g off 9 n' K') (.slice (some ⟨g, off, none⟩) n' c) /\ Cg w (W3.setCell ⟨g, off + z * 9 + 8, none⟩ (.int .i64 ((k3 : Int)))) (Sk.row g off 9 n' K').bl /\ (k3 : Int) + 1 = ((s + sumN (z + 1) (fun i => ctVL (f i)) : Nat) : Int)) := ⟨G4.out.1.doneZ (T1 := fun i => trs (xlT (if i < z + 1 then nmVL (s + sumN i (fun i => ctVL (f i))) (f i) else f i))) (fun i hi => by rw [HT.out]; simp only [if_lt_succ hi]) (fun j hj => by simp only [if_pos (Nat.lt_succ_self z)]; rw [<- HK0.out.1]; rfl), G4.out.2, by have := HC.out; have := HK0.out; have := HK2.out; have := HK3.out; omega⟩
   clear G4 HT
   go_wp2
   go_roundw
   case rel => exact ⟨z + 1, by omega, by go_num, congrArg (Value.int .i64) HZ.out.2.2, HZ.out.1, HZ.out.2.1⟩
   case measure => simp [intOf]; omega
  have hi : ¬ (z : Int) < (n' : Int) := by omega
  have e9 : z = n' := by omega
  subst e9
  have H1 : Hid (_ /\ _) := ⟨HE.out _ hF, hC⟩
  clear hF hC
  go_wp2
  go_ret
  exact ⟨rfl, H1.out.1, H1.out.2⟩
theorem markLineS_f (n : Nat) (f : Nat -> VN) (a : Option Addr) (n' c s : Nat) (x : Int) (K : Sk) (w : World) (hx : x = ((s : Nat) : Int)) (h : Fit w (.list 17 n (fun i => trs (xnT (f i)))) K (.slice a n' c)) (hok : K.ok) (hB : s + sumN n (fun i => ctVN (f i)) <= 1125899906842624) :
 Calls Tryz.prog 63 #[.slice a n' c, .int .i64 x] w fun e w' => e = .returned (.int .i64 ((s + sumN n (fun i => ctVN (f i)) : Nat) : Int)) /\ Fit w' (.list 17 n (fun i => trs (xnT (nmVN (s + sumN i (fun i => ctVN (f i))) (f i))))) K (.slice a n' c) /\ Cg w w' K.bl := by
 subst hx
 obtain ⟨rfl, hc1, hm⟩ := h.len
 unfold maxLen at hm
 have HE : Hid (∀ w', Fit w' (.list 17 n' (fun i => trs (xnT (if i < n' then nmVN (s + sumN i (fun i => ctVN (f i))) (f i) else f i)))) K (.slice a n' c) -> Fit w' (.list 17 n' (fun i => trs (xnT (nmVN (s + sumN i (fun i => ctVN (f i))) (f i))))) K (.slice a n' c)) := by
  show ∀ w', _
  intro w' h9
  exact h9.congr (fun k j hk hj => by simp only [if_pos hk])
 have h1 : Fit w (.list 17 n' (fun i => trs (xnT (if i < 0 then nmVN (s + sumN i (fun i => ctVN (f i))) (f i) else f i)))) K (.slice a n' c) := h.congr (fun k j hk hj => by simp)
 clear h
 by_cases h0 : n' = 0
 ·subst h0
  have h2 := HE.out w h1
  clear h1
  go_enter Tryz.func63, Tryz.ntmps63
  go_wp2
  refine wp_loop_rounds 1 ?_
  rw [rounds_succ]
  go_wp2
  go_ret
  exact ⟨rfl, h2, Cg.refl _ _⟩
 obtain ⟨g, off, K', rfl, rfl, -, -, -, hg, -⟩ := h1.row (by omega)
 have HH : Hid (Fit w (.list 17 n' (fun i => trs (xnT (if i < 0 then nmVN (s + sumN i (fun i => ctVN (f i))) (f i) else f i)))) (.row g off 17 n' K') (.slice (some ⟨g, off, none⟩) n' c) /\ (Sk.row g off 17 n' K').ok /\ s + sumN n' (fun i => ctVN (f i)) <= 1125899906842624) := ⟨h1, hok, hB⟩
 clear h1 hok hB
 go_enter Tryz.func63, Tryz.ntmps63
 go_wp2
 go_loopw [1, 5] (fun kv i wr => ∃ z : Nat, z <= n' /\ i = .int .i64 z /\ kv = .int .i64 ((s + sumN z (fun i => ctVN (f i)) : Nat) : Int) /\ Fit wr (.list 17 n' (fun i => trs (xnT (if i < z then nmVN (s + sumN i (fun i => ctVN (f i))) (f i) else f i)))) (.row g off 17 n' K') (.slice (some ⟨g, off, none⟩) n' c) /\ Cg w wr (Sk.row g off 17 n' K').bl) (fun _ i _ => n' - (intOf i).toNat)
 case atStart => exact ⟨0, Nat.zero_le _, rfl, rfl, HH.out.1, Cg.refl _ _⟩
 case round =>
  obtain ⟨z, hz, rfl, rfl, hF, hC⟩ := hrel
  by_cases hlt : z < n'
  ·have hi : (z : Int) < (n' : Int) := by omega
   obtain ⟨kk, hkk⟩ : ∃ kk, kk = s + sumN z (fun i => ctVN (f i)) := ⟨_, rfl⟩
   rw [<- hkk]
   have HC : Hid (ctVN (f z) = sumN (f z).nq (fun i => ctVL ((f z).qf i)) + 1 + ctVL (f z).c + 1 + 1 + 1 + 1 + 1 + 1 /\ ctVL (f z).c = 1 + 1 + 1 + ctVQ (f z).c.q /\ ctVQ (f z).c.q = 1 + 1 + 1 + (f z).c.q.ws.length + (f z).c.q.bs.length + 1 /\ True) := ⟨rfl, rfl, rfl, trivial⟩
   have HK0 : Hid (kk = s + sumN z (fun i => ctVN (f i)) /\ kk + ctVN (f z) <= 1125899906842624 /\ s + sumN (z + 1) (fun i => ctVN (f i)) = kk + ctVN (f z)) := ⟨hkk, by have h7 := sumN_le (g := (fun i => ctVN (f i))) hlt; have h8 := HH.out.2.2; omega, by rw [hkk]; simp only [sumN]; omega⟩
   obtain ⟨T0, hT0⟩ : ∃ T0 : Nat -> Nat -> Tr, T0 = (fun i => trs (xnT (if i < z then nmVN (s + sumN i (fun i => ctVN (f i))) (f i) else f i))) := ⟨_, rfl⟩
   rw [<- hT0] at hF
   have F0 := hF.toZ (z := z) (L := [.list 9 (f z).nq (fun i => trs (xlT ((f z).qf i))), .leaf (.bool (f z).bz), .leaf (.int .i64 (f z).c.id), .leaf (.int .i64 (f z).c.pa), .leaf (.int .i64 (f z).c.un), .leaf (.int .i64 (f z).c.q.kd), .leaf (.int .i64 (f z).c.q.pl), .leaf (.int .i64 (f z).c.q.n), intsT (f z).c.q.ws, boolsT (f z).c.q.bs, .leaf (.int .i64 (f z).c.q.wa), .leaf (.int .i64 (f z).nu), .leaf (.int .i64 (f z).du), .leaf (.int .i64 (f z).le), .leaf (.int .i64 (f z).nx), .leaf (.int .i64 (f z).wt), .leaf (.int .i64 (f z).tr)]) (fun j hj => by rw [hT0]; simp only [if_neg (Nat.lt_irrefl z)]; rfl)
   have HT : Hid (T0 = (fun i => trs (xnT (if i < z then nmVN (s + sumN i (fun i => ctVN (f i))) (f i) else f i)))) := hT0
   have G0 : Hid (Fit wr (.list 17 n' (atZ z [.list 9 (f z).nq (fun i => trs (xlT ((f z).qf i))), .leaf (.bool (f z).bz), .leaf (.int .i64 (f z).c.id), .leaf (.int .i64 (f z).c.pa), .leaf (.int .i64 (f z).c.un), .leaf (.int .i64 (f z).c.q.kd), .leaf (.int .i64 (f z).c.q.pl), .leaf (.int .i64 (f z).c.q.n), intsT (f z).c.q.ws, boolsT (f z).c.q.bs, .leaf (.int .i64 (f z).c.q.wa), .leaf (.int .i64 (f z).nu), .leaf (.int .i64 (f z).du), .leaf (.int .i64 (f z).le), .leaf (.int .i64 (f z).nx), .leaf (.int .i64 (f z).wt), .leaf (.int .i64 (f z).tr)] T0)) (.row g off 17 n' K') (.slice (some ⟨g, off, none⟩) n' c) /\ Cg w wr (Sk.row g off 17 n' K').bl) := ⟨F0, hC⟩
   clear hF hC F0 hT0 hkk
   obtain ⟨u0, q0, t0⟩ := G0.out.1.cellZ hlt 0 (by decide)
   have t0' : Fit wr (.list 9 (f z).nq (fun i => trs (xlT ((f z).qf i)))) (K' z 0) u0 := t0
   obtain ⟨a0, c0, rfl⟩ := t0'.shape
   have HS0 : Hid (Fit wr (.list 9 (f z).nq (fun i => trs (xlT ((f z).qf i)))) (K' z 0) (.slice a0 ((f z).nq) c0) /\ wr.cell? ⟨g, off + z * 17 + 0, none⟩ = some (.slice a0 ((f z).nq) c0)) := ⟨t0', q0⟩
   have e0 : wr.cell? ⟨g, off + z * 17, none⟩ = some (.slice a0 ((f z).nq) c0) := q0
   clear t0 t0' q0
   go_wp2_with fail
   refine (markCallS_f (f z).nq (f z).qf a0 _ c0 (kk) _ (K' z 0) _ (by have := HC.out; have := HK0.out; omega) HS0.out.1 (HH.out.2.1.1 z 0 hlt (by decide)).1 (by have := HC.out; have := HK0.out; omega)).mono ?_
   rintro e W1 ⟨rfl, m9, cg9⟩
   have G1 : Hid (Fit W1 (.list 17 n' (atZ z [.list 9 (f z).nq (fun i => trs (xlT (nmVL (kk + sumN i (fun i => ctVL ((f z).qf i))) ((f z).qf i)))), .leaf (.bool (f z).bz), .leaf (.int .i64 (f z).c.id), .leaf (.int .i64 (f z).c.pa), .leaf (.int .i64 (f z).c.un), .leaf (.int .i64 (f z).c.q.kd), .leaf (.int .i64 (f z).c.q.pl), .leaf (.int .i64 (f z).c.q.n), intsT (f z).c.q.ws, boolsT (f z).c.q.bs, .leaf (.int .i64 (f z).c.q.wa), .leaf (.int .i64 (f z).nu), .leaf (.int .i64 (f z).du), .leaf (.int .i64 (f z).le), .leaf (.int .i64 (f z).nx), .leaf (.int .i64 (f z).wt), .leaf (.int .i64 (f z).tr)] T0)) (.row g off 17 n' K') (.slice (some ⟨g, off, none⟩) n' c) /\ Cg w W1 (Sk.row g off 17 n' K').bl) := ⟨G0.out.1.subZ HH.out.2.1 hlt 0 (by decide) (by simp) _ HS0.out.2 _ cg9 m9 rfl, G0.out.2.trans (cg9.mono (fun b hb => Sk.bl_in hlt (by decide) hb))⟩
   obtain ⟨k1, hk1⟩ : ∃ k1 : Nat, k1 = kk + sumN (f z).nq (fun i => ctVL ((f z).qf i)) := ⟨_, rfl⟩
   rw [<- hk1]
   have HK1 : Hid (k1 = kk + sumN (f z).nq (fun i => ctVL ((f z).qf i))) := hk1
   clear m9 cg9 hk1 e0 G0 HS0
   obtain ⟨u1, q1, -⟩ := G1.out.1.cellZ hlt 1 (by decide)
   have e1 : W1.cell? ⟨g, off + z * 17 + 1, none⟩ = some u1 := q1
   clear q1
   have f1 := G1.out.1.fro (off + z * 17 + 1)
   obtain ⟨u2, q2, -⟩ := G1.out.1.cellZ hlt 2 (by decide)
   have e2 : W1.cell? ⟨g, off + z * 17 + 2, none⟩ = some u2 := q2
   clear q2
   have f2 := G1.out.1.fro (off + z * 17 + 2)
   obtain ⟨u3, q3, -⟩ := G1.out.1.cellZ hlt 3 (by decide)
   have e3 : W1.cell? ⟨g, off + z * 17 + 3, none⟩ = some u3 := q3
   clear q3
   have f3 := G1.out.1.fro (off + z * 17 + 3)
   obtain ⟨u4, q4, -⟩ := G1.out.1.cellZ hlt 4 (by decide)
   have e4 : W1.cell? ⟨g, off + z * 17 + 4, none⟩ = some u4 := q4
   clear q4
   have f4 := G1.out.1.fro (off + z * 17 + 4)
   obtain ⟨u5, q5, -⟩ := G1.out.1.cellZ hlt 5 (by decide)
   have e5 : W1.cell? ⟨g, off + z * 17 + 5, none⟩ = some u5 := q5
   clear q5
   have f5 := G1.out.1.fro (off + z * 17 + 5)
   obtain ⟨u6, q6, -⟩ := G1.out.1.cellZ hlt 6 (by decide)
   have e6 : W1.cell? ⟨g, off + z * 17 + 6, none⟩ = some u6 := q6
   clear q6
   have f6 := G1.out.1.fro (off + z * 17 + 6)
   obtain ⟨u7, q7, -⟩ := G1.out.1.cellZ hlt 7 (by decide)
   have e7 : W1.cell? ⟨g, off + z * 17 + 7, none⟩ = some u7 := q7
   clear q7
   have f7 := G1.out.1.fro (off + z * 17 + 7)
   have v0 : IntKind.i64.wrap ((k1 : Int) + 1) = (k1 : Int) + 1 := by have := HC.out; have := HK0.out; have := HK1.out; rw [IntKind.wrap_i64]; omega
   have v1 : IntKind.i64.wrap ((k1 : Int) + 1 + 1) = (k1 : Int) + 2 := by have := HC.out; have := HK0.out; have := HK1.out; rw [IntKind.wrap_i64]; omega
   have v2 : IntKind.i64.wrap ((k1 : Int) + 2 + 1) = (k1 : Int) + 3 := by have := HC.out; have := HK0.out; have := HK1.out; rw [IntKind.wrap_i64]; omega
   have v3 : IntKind.i64.wrap ((k1 : Int) + 3 + 1) = (k1 : Int) + 4 := by have := HC.out; have := HK0.out; have := HK1.out; rw [IntKind.wrap_i64]; omega
   have v4 : IntKind.i64.wrap ((k1 : Int) + 4 + 1) = (k1 : Int) + 5 := by have := HC.out; have := HK0.out; have := HK1.out; rw [IntKind.wrap_i64]; omega
   have v5 : IntKind.i64.wrap ((k1 : Int) + 5 + 1) = (k1 : Int) + 6 := by have := HC.out; have := HK0.out; have := HK1.out; rw [IntKind.wrap_i64]; omega
   have v6 : IntKind.i64.wrap ((k1 : Int) + 6 + 1) = (k1 : Int) + 7 := by have := HC.out; have := HK0.out; have := HK1.out; rw [IntKind.wrap_i64]; omega
   have G2 : Hid (Fit (((((((W1.setCell ⟨g, off + z * 17 + 1, none⟩ (.bool (((k1 : Int)) % 3 == 0))).setCell ⟨g, off + z * 17 + 2, none⟩ (.int .i64 ((k1 : Int) + 1))).setCell ⟨g, off + z * 17 + 3, none⟩ (.int .i64 ((k1 : Int) + 2))).setCell ⟨g, off + z * 17 + 4, none⟩ (.int .i64 ((k1 : Int) + 3))).setCell ⟨g, off + z * 17 + 5, none⟩ (.int .i64 ((k1 : Int) + 4))).setCell ⟨g, off + z * 17 + 6, none⟩ (.int .i64 ((k1 : Int) + 5))).setCell ⟨g, off + z * 17 + 7, none⟩ (.int .i64 ((k1 : Int) + 6))) (.list 17 n' (atZ z [.list 9 (f z).nq (fun i => trs (xlT (nmVL (kk + sumN i (fun i => ctVL ((f z).qf i))) ((f z).qf i)))), .leaf (.bool (((kk + sumN (f z).nq (fun i => ctVL ((f z).qf i)) : Nat) : Int) % 3 == 0)), .leaf (.int .i64 (((kk + sumN (f z).nq (fun i => ctVL ((f z).qf i)) + 1) : Nat) : Int)), .leaf (.int .i64 (((kk + sumN (f z).nq (fun i => ctVL ((f z).qf i)) + 1) + 1 : Nat) : Int)), .leaf (.int .i64 (((kk + sumN (f z).nq (fun i => ctVL ((f z).qf i)) + 1) + 1 + 1 : Nat) : Int)), .leaf (.int .i64 ((((kk + sumN (f z).nq (fun i => ctVL ((f z).qf i)) + 1) + 1 + 1 + 1) : Nat) : Int)), .leaf (.int .i64 ((((kk + sumN (f z).nq (fun i => ctVL ((f z).qf i)) + 1) + 1 + 1 + 1) + 1 : Nat) : Int)), .leaf (.int .i64 ((((kk + sumN (f z).nq (fun i => ctVL ((f z).qf i)) + 1) + 1 + 1 + 1) + 1 + 1 : Nat) : Int)), intsT (f z).c.q.ws, boolsT (f z).c.q.bs, .leaf (.int .i64 (f z).c.q.wa), .leaf (.int .i64 (f z).nu), .leaf (.int .i64 (f z).du), .leaf (.int .i64 (f z).le), .leaf (.int .i64 (f z).nx), .leaf (.int .i64 (f z).wt), .leaf (.int .i64 (f z).tr)] T0)) (.row g off 17 n' K') (.slice (some ⟨g, off, none⟩) n' c) /\ Cg w (((((((W1.setCell ⟨g, off + z * 17 + 1, none⟩ (.bool (((k1 : Int)) % 3 == 0))).setCell ⟨g, off + z * 17 + 2, none⟩ (.int .i64 ((k1 : Int) + 1))).setCell ⟨g, off + z * 17 + 3, none⟩ (.int .i64 ((k1 : Int) + 2))).setCell ⟨g, off + z * 17 + 4, none⟩ (.int .i64 ((k1 : Int) + 3))).setCell ⟨g, off + z * 17 + 5, none⟩ (.int .i64 ((k1 : Int) + 4))).setCell ⟨g, off + z * 17 + 6, none⟩ (.int .i64 ((k1 : Int) + 5))).setCell ⟨g, off + z * 17 + 7, none⟩ (.int .i64 ((k1 : Int) + 6))) (Sk.row g off 17 n' K').bl) := ⟨(((((((G1.out.1.setZ HH.out.2.1 hlt 1 (by decide) (by simp) _ (.bool (((k1 : Int)) % 3 == 0)) (.bool (((kk + sumN (f z).nq (fun i => ctVL ((f z).qf i)) : Nat) : Int) % 3 == 0)) rfl (congrArg (fun x : Int => Value.bool (x % 3 == 0)) (by have := HC.out; have := HK0.out; have := HK1.out; omega)) rfl).setZ HH.out.2.1 hlt 2 (by decide) (by simp) _ (.int .i64 ((k1 : Int) + 1)) (.int .i64 (((kk + sumN (f z).nq (fun i => ctVL ((f z).qf i)) + 1) : Nat) : Int)) rfl (congrArg (Value.int .i64) (by have := HC.out; have := HK0.out; have := HK1.out; omega)) rfl).setZ HH.out.2.1 hlt 3 (by decide) (by simp) _ (.int .i64 ((k1 : Int) + 2)) (.int .i64 (((kk + sumN (f z).nq (fun i => ctVL ((f z).qf i)) + 1) + 1 : Nat) : Int)) rfl (congrArg (Value.int .i64) (by have := HC.out; have := HK0.out; have := HK1.out; omega)) rfl).setZ HH.out.2.1 hlt 4 (by decide) (by simp) _ (.int .i64 ((k1 : Int) + 3)) (.int .i64 (((kk + sumN (f z).nq (fun i => ctVL ((f z).qf i)) + 1) + 1 + 1 : Nat) : Int)) rfl (congrArg (Value.int .i64) (by have := HC.out; have := HK0.out; have := HK1.out; omega)) rfl).setZ HH.out.2.1 hlt 5 (by decide) (by simp) _ (.int .i64 ((k1 : Int) + 4)) (.int .i64 ((((kk + sumN (f z).nq (fun i => ctVL ((f z).qf i)) + 1) + 1 + 1 + 1) : Nat) : Int)) rfl (congrArg (Value.int .i64) (by have := HC.out; have := HK0.out; have := HK1.out; omega)) rfl).setZ HH.out.2.1 hlt 6 (by decide) (by simp) _ (.int .i64 ((k1 : Int) + 5)) (.int .i64 ((((kk + sumN (f z).nq (fun i => ctVL ((f z).qf i)) + 1) + 1 + 1 + 1) + 1 : Nat) : Int)) rfl (congrArg (Value.int .i64) (by have := HC.out; have := HK0.out; have := HK1.out; omega)) rfl).setZ HH.out.2.1 hlt 7 (by decide) (by simp) _ (.int .i64 ((k1 : Int) + 6)) (.int .i64 ((((kk + sumN (f z).nq (fun i => ctVL ((f z).qf i)) + 1) + 1 + 1 + 1) + 1 + 1 : Nat) : Int)) rfl (congrArg (Value.int .i64) (by have := HC.out; have := HK0.out; have := HK1.out; omega)) rfl), (((((((G1.out.2.set (p := ⟨g, off + z * 17 + 1, none⟩) (.inl rfl) (.bool (((k1 : Int)) % 3 == 0))).set (p := ⟨g, off + z * 17 + 2, none⟩) (.inl rfl) (.int .i64 ((k1 : Int) + 1))).set (p := ⟨g, off + z * 17 + 3, none⟩) (.inl rfl) (.int .i64 ((k1 : Int) + 2))).set (p := ⟨g, off + z * 17 + 4, none⟩) (.inl rfl) (.int .i64 ((k1 : Int) + 3))).set (p := ⟨g, off + z * 17 + 5, none⟩) (.inl rfl) (.int .i64 ((k1 : Int) + 4))).set (p := ⟨g, off + z * 17 + 6, none⟩) (.inl rfl) (.int .i64 ((k1 : Int) + 5))).set (p := ⟨g, off + z * 17 + 7, none⟩) (.inl rfl) (.int .i64 ((k1 : Int) + 6)))⟩
   go_upto_region 19 with fail
   obtain ⟨W2, hW2⟩ : ∃ W, W = (((((((W1.setCell ⟨g, off + z * 17 + 1, none⟩ (.bool (((k1 : Int)) % 3 == 0))).setCell ⟨g, off + z * 17 + 2, none⟩ (.int .i64 ((k1 : Int) + 1))).setCell ⟨g, off + z * 17 + 3, none⟩ (.int .i64 ((k1 : Int) + 2))).setCell ⟨g, off + z * 17 + 4, none⟩ (.int .i64 ((k1 : Int) + 3))).setCell ⟨g, off + z * 17 + 5, none⟩ (.int .i64 ((k1 : Int) + 4))).setCell ⟨g, off + z * 17 + 6, none⟩ (.int .i64 ((k1 : Int) + 5))).setCell ⟨g, off + z * 17 + 7, none⟩ (.int .i64 ((k1 : Int) + 6))) := ⟨_, rfl⟩
   rw [<- hW2] at G2 ⊢
   clear hW2 e1 f1 e2 f2 e3 f3 e4 f4 e5 f5 e6 f6 e7 f7 v0 v1 v2 v3 v4 v5 v6 G1 u1 u2 u3 u4 u5 u6 u7
   obtain ⟨u8, q8, t8⟩ := G2.out.1.cellZ hlt 8 (by decide)
   have t8' : Fit W2 (intsT (f z).c.q.ws) (K' z 8) u8 := t8
   obtain ⟨a8, c8, rfl⟩ := t8'.shape
   have HS8 : Hid (Fit W2 (intsT (f z).c.q.ws) (K' z 8) (.slice a8 ((f z).c.q.ws.length) c8) /\ W2.cell? ⟨g, off + z * 17 + 8, none⟩ = some (.slice a8 ((f z).c.q.ws.length) c8)) := ⟨t8', q8⟩
   have e8 : W2.cell? ⟨g, off + z * 17 + 8, none⟩ = some (.slice a8 ((f z).c.q.ws.length) c8) := q8
   clear t8 t8' q8
   go_wp2_with fail
   refine (markIntS_f (f z).c.q.ws a8 _ c8 (((kk + sumN (f z).nq (fun i => ctVL ((f z).qf i)) + 1) + 1 + 1 + 1) + 1 + 1 + 1) _ (K' z 8) _ (by have := HC.out; have := HK0.out; have := HK1.out; omega) HS8.out.1 (HH.out.2.1.1 z 8 hlt (by decide)).1 (by have := HC.out; have := HK0.out; have := HK1.out; omega)).mono ?_
   rintro e W3 ⟨rfl, m9, cg9⟩
   have G3 : Hid (Fit W3 (.list 17 n' (atZ z [.list 9 (f z).nq (fun i => trs (xlT (nmVL (kk + sumN i (fun i => ctVL ((f z).qf i))) ((f z).qf i)))), .leaf (.bool (((kk + sumN (f z).nq (fun i => ctVL ((f z).qf i)) : Nat) : Int) % 3 == 0)), .leaf (.int .i64 (((kk + sumN (f z).nq (fun i => ctVL ((f z).qf i)) + 1) : Nat) : Int)), .leaf (.int .i64 (((kk + sumN (f z).nq (fun i => ctVL ((f z).qf i)) + 1) + 1 : Nat) : Int)), .leaf (.int .i64 (((kk + sumN (f z).nq (fun i => ctVL ((f z).qf i)) + 1) + 1 + 1 : Nat) : Int)), .leaf (.int .i64 ((((kk + sumN (f z).nq (fun i => ctVL ((f z).qf i)) + 1) + 1 + 1 + 1) : Nat) : Int)), .leaf (.int .i64 ((((kk + sumN (f z).nq (fun i => ctVL ((f z).qf i)) + 1) + 1 + 1 + 1) + 1 : Nat) : Int)), .leaf (.int .i64 ((((kk + sumN (f z).nq (fun i => ctVL ((f z).qf i)) + 1) + 1 + 1 + 1) + 1 + 1 : Nat) : Int)), intsT (marksI (((kk + sumN (f z).nq (fun i => ctVL ((f z).qf i)) + 1) + 1 + 1 + 1) + 1 + 1 + 1) (f z).c.q.ws.length), boolsT (f z).c.q.bs, .leaf (.int .i64 (f z).c.q.wa), .leaf (.int .i64 (f z).nu), .leaf (.int .i64 (f z).du), .leaf (.int .i64 (f z).le), .leaf (.int .i64 (f z).nx), .leaf (.int .i64 (f z).wt), .leaf (.int .i64 (f z).tr)] T0)) (.row g off 17 n' K') (.slice (some ⟨g, off, none⟩) n' c) /\ Cg w W3 (Sk.row g off 17 n' K').bl) := ⟨G2.out.1.subZ HH.out.2.1 hlt 8 (by decide) (by simp) _ HS8.out.2 _ cg9 m9 rfl, G2.out.2.trans (cg9.mono (fun b hb => Sk.bl_in hlt (by decide) hb))⟩
   obtain ⟨k3, hk3⟩ : ∃ k3 : Nat, k3 = ((kk + sumN (f z).nq (fun i => ctVL ((f z).qf i)) + 1) + 1 + 1 + 1) + 1 + 1 + 1 + (f z).c.q.ws.length := ⟨_, rfl⟩
   rw [<- hk3]
   have HK3 : Hid (k3 = ((kk + sumN (f z).nq (fun i => ctVL ((f z).qf i)) + 1) + 1 + 1 + 1) + 1 + 1 + 1 + (f z).c.q.ws.length) := hk3
   clear m9 cg9 hk3 e8 G2 HS8
   obtain ⟨u9, q9, t9⟩ := G3.out.1.cellZ hlt 9 (by decide)
   have t9' : Fit W3 (boolsT (f z).c.q.bs) (K' z 9) u9 := t9
   obtain ⟨a9, c9, rfl⟩ := t9'.shape
   have HS9 : Hid (Fit W3 (boolsT (f z).c.q.bs) (K' z 9) (.slice a9 ((f z).c.q.bs.length) c9) /\ W3.cell? ⟨g, off + z * 17 + 9, none⟩ = some (.slice a9 ((f z).c.q.bs.length) c9)) := ⟨t9', q9⟩
   have e9 : W3.cell? ⟨g, off + z * 17 + 9, none⟩ = some (.slice a9 ((f z).c.q.bs.length) c9) := q9
   clear t9 t9' q9
   go_wp2_with fail
   refine (markBoolS_f (f z).c.q.bs a9 _ c9 (((kk + sumN (f z).nq (fun i => ctVL ((f z).qf i)) + 1) + 1 + 1 + 1) + 1 + 1 + 1 + (f z).c.q.ws.length) _ (K' z 9) _ (by have := HC.out; have := HK0.out; have := HK1.out; have := HK3.out; omega) HS9.out.1 (HH.out.2.1.1 z 9 hlt (by decide)).1 (by have := HC.out; have := HK0.out; have := HK1.out; have := HK3.out; omega)).mono ?_
   rintro e W4 ⟨rfl, m9, cg9⟩
   have G4 : Hid (Fit W4 (.list 17 n' (atZ z [.list 9 (f z).nq (fun i => trs (xlT (nmVL (kk + sumN i (fun i => ctVL ((f z).qf i))) ((f z).qf i)))), .leaf (.bool (((kk + sumN (f z).nq (fun i => ctVL ((f z).qf i)) : Nat) : Int) % 3 == 0)), .leaf (.int .i64 (((kk + sumN (f z).nq (fun i => ctVL ((f z).qf i)) + 1) : Nat) : Int)), .leaf (.int .i64 (((kk + sumN (f z).nq (fun i => ctVL ((f z).qf i)) + 1) + 1 : Nat) : Int)), .leaf (.int .i64 (((kk + sumN (f z).nq (fun i => ctVL ((f z).qf i)) + 1) + 1 + 1 : Nat) : Int)), .leaf (.int .i64 ((((kk + sumN (f z).nq (fun i => ctVL ((f z).qf i)) + 1) + 1 + 1 + 1) : Nat) : Int)), .leaf (.int .i64 ((((kk + sumN (f z).nq (fun i => ctVL ((f z).qf i)) + 1) + 1 + 1 + 1) + 1 : Nat) : Int)), .leaf (.int .i64 ((((kk + sumN (f z).nq (fun i => ctVL ((f z).qf i)) + 1) + 1 + 1 + 1) + 1 + 1 : Nat) : Int)), intsT (marksI (((kk + sumN (f z).nq (fun i => ctVL ((f z).qf i)) + 1) + 1 + 1 + 1) + 1 + 1 + 1) (f z).c.q.ws.length), boolsT (marksB (((kk + sumN (f z).nq (fun i => ctVL ((f z).qf i)) + 1) + 1 + 1 + 1) + 1 + 1 + 1 + (f z).c.q.ws.length) (f z).c.q.bs.length), .leaf (.int .i64 (f z).c.q.wa), .leaf (.int .i64 (f z).nu), .leaf (.int .i64 (f z).du), .leaf (.int .i64 (f z).le), .leaf (.int .i64 (f z).nx), .leaf (.int .i64 (f z).wt), .leaf (.int .i64 (f z).tr)] T0)) (.row g off 17 n' K') (.slice (some ⟨g, off, none⟩) n' c) /\ Cg w W4 (Sk.row g off 17 n' K').bl) := ⟨G3.out.1.subZ HH.out.2.1 hlt 9 (by decide) (by simp) _ HS9.out.2 _ cg9 m9 rfl, G3.out.2.trans (cg9.mono (fun b hb => Sk.bl_in hlt (by decide) hb))⟩
   obtain ⟨k4, hk4⟩ : ∃ k4 : Nat, k4 = ((kk + sumN (f z).nq (fun i => ctVL ((f z).qf i)) + 1) + 1 + 1 + 1) + 1 + 1 + 1 + (f z).c.q.ws.length + (f z).c.q.bs.length := ⟨_, rfl⟩
   rw [<- hk4]
   have HK4 : Hid (k4 = ((kk + sumN (f z).nq (fun i => ctVL ((f z).qf i)) + 1) + 1 + 1 + 1) + 1 + 1 + 1 + (f z).c.q.ws.length + (f z).c.q.bs.length) := hk4
   clear m9 cg9 hk4 e9 G3 HS9
   obtain ⟨u10, q10, -⟩ := G4.out.1.cellZ hlt 10 (by decide)
   have e10 : W4.cell? ⟨g, off + z * 17 + 10, none⟩ = some u10 := q10
   clear q10
   have f10 := G4.out.1.fro (off + z * 17 + 10)
   obtain ⟨u11, q11, -⟩ := G4.out.1.cellZ hlt 11 (by decide)
   have e11 : W4.cell? ⟨g, off + z * 17 + 11, none⟩ = some u11 := q11
   clear q11
   have f11 := G4.out.1.fro (off + z * 17 + 11)
   obtain ⟨u12, q12, -⟩ := G4.out.1.cellZ hlt 12 (by decide)
   have e12 : W4.cell? ⟨g, off + z * 17 + 12, none⟩ = some u12 := q12
   clear q12
   have f12 := G4.out.1.fro (off + z * 17 + 12)
   obtain ⟨u13, q13, -⟩ := G4.out.1.cellZ hlt 13 (by decide)
   have e13 : W4.cell? ⟨g, off + z * 17 + 13, none⟩ = some u13 := q13
   clear q13
   have f13 := G4.out.1.fro (off + z * 17 + 13)
   obtain ⟨u14, q14, -⟩ := G4.out.1.cellZ hlt 14 (by decide)
   have e14 : W4.cell? ⟨g, off + z * 17 + 14, none⟩ = some u14 := q14
   clear q14
   have f14 := G4.out.1.fro (off + z * 17 + 14)
   obtain ⟨u15, q15, -⟩ := G4.out.1.cellZ hlt 15 (by decide)
   have e15 : W4.cell? ⟨g, off + z * 17 + 15, none⟩ = some u15 := q15
   clear q15
   have f15 := G4.out.1.fro (off + z * 17 + 15)
   obtain ⟨u16, q16, -⟩ := G4.out.1.cellZ hlt 16 (by decide)
   have e16 : W4.cell? ⟨g, off + z * 17 + 16, none⟩ = some u16 := q16
   clear q16
   have f16 := G4.out.1.fro (off + z * 17 + 16)
   have v0 : IntKind.i64.wrap ((k4 : Int) + 1) = (k4 : Int) + 1 := by have := HC.out; have := HK0.out; have := HK1.out; have := HK3.out; have := HK4.out; rw [IntKind.wrap_i64]; omega
   have v1 : IntKind.i64.wrap ((k4 : Int) + 1 + 1) = (k4 : Int) + 2 := by have := HC.out; have := HK0.out; have := HK1.out; have := HK3.out; have := HK4.out; rw [IntKind.wrap_i64]; omega
   have v2 : IntKind.i64.wrap ((k4 : Int) + 2 + 1) = (k4 : Int) + 3 := by have := HC.out; have := HK0.out; have := HK1.out; have := HK3.out; have := HK4.out; rw [IntKind.wrap_i64]; omega
   have v3 : IntKind.i64.wrap ((k4 : Int) + 3 + 1) = (k4 : Int) + 4 := by have := HC.out; have := HK0.out; have := HK1.out; have := HK3.out; have := HK4.out; rw [IntKind.wrap_i64]; omega
   have v4 : IntKind.i64.wrap ((k4 : Int) + 4 + 1) = (k4 : Int) + 5 := by have := HC.out; have := HK0.out; have := HK1.out; have := HK3.out; have := HK4.out; rw [IntKind.wrap_i64]; omega
   have v5 : IntKind.i64.wrap ((k4 : Int) + 5 + 1) = (k4 : Int) + 6 := by have := HC.out; have := HK0.out; have := HK1.out; have := HK3.out; have := HK4.out; rw [IntKind.wrap_i64]; omega
   have v6 : IntKind.i64.wrap ((k4 : Int) + 6 + 1) = (k4 : Int) + 7 := by have := HC.out; have := HK0.out; have := HK1.out; have := HK3.out; have := HK4.out; rw [IntKind.wrap_i64]; omega
   have G5 : Hid (Fit (((((((W4.setCell ⟨g, off + z * 17 + 10, none⟩ (.int .i64 ((k4 : Int)))).setCell ⟨g, off + z * 17 + 11, none⟩ (.int .i64 ((k4 : Int) + 1))).setCell ⟨g, off + z * 17 + 12, none⟩ (.int .i64 ((k4 : Int) + 2))).setCell ⟨g, off + z * 17 + 13, none⟩ (.int .i64 ((k4 : Int) + 3))).setCell ⟨g, off + z * 17 + 14, none⟩ (.int .i64 ((k4 : Int) + 4))).setCell ⟨g, off + z * 17 + 15, none⟩ (.int .i64 ((k4 : Int) + 5))).setCell ⟨g, off + z * 17 + 16, none⟩ (.int .i64 ((k4 : Int) + 6))) (.list 17 n' (atZ z [.list 9 (f z).nq (fun i => trs (xlT (nmVL (kk + sumN i (fun i => ctVL ((f z).qf i))) ((f z).qf i)))), .leaf (.bool (((kk + sumN (f z).nq (fun i => ctVL ((f z).qf i)) : Nat) : Int) % 3 == 0)), .leaf (.int .i64 (((kk + sumN (f z).nq (fun i => ctVL ((f z).qf i)) + 1) : Nat) : Int)), .leaf (.int .i64 (((kk + sumN (f z).nq (fun i => ctVL ((f z).qf i)) + 1) + 1 : Nat) : Int)), .leaf (.int .i64 (((kk + sumN (f z).nq (fun i => ctVL ((f z).qf i)) + 1) + 1 + 1 : Nat) : Int)), .leaf (.int .i64 ((((kk + sumN (f z).nq (fun i => ctVL ((f z).qf i)) + 1) + 1 + 1 + 1) : Nat) : Int)), .leaf (.int .i64 ((((kk + sumN (f z).nq (fun i => ctVL ((f z).qf i)) + 1) + 1 + 1 + 1) + 1 : Nat) : Int)), .leaf (.int .i64 ((((kk + sumN (f z).nq (fun i => ctVL ((f z).qf i)) + 1) + 1 + 1 + 1) + 1 + 1 : Nat) : Int)), intsT (marksI (((kk + sumN (f z).nq (fun i => ctVL ((f z).qf i)) + 1) + 1 + 1 + 1) + 1 + 1 + 1) (f z).c.q.ws.length), boolsT (marksB (((kk + sumN (f z).nq (fun i => ctVL ((f z).qf i)) + 1) + 1 + 1 + 1) + 1 + 1 + 1 + (f z).c.q.ws.length) (f z).c.q.bs.length), .leaf (.int .i64 ((((kk + sumN (f z).nq (fun i => ctVL ((f z).qf i)) + 1) + 1 + 1 + 1) + 1 + 1 + 1 + (f z).c.q.ws.length + (f z).c.q.bs.length : Nat) : Int)), .leaf (.int .i64 ((kk + sumN (f z).nq (fun i => ctVL ((f z).qf i)) + 1 + ctVL (f z).c : Nat) : Int)), .leaf (.int .i64 ((kk + sumN (f z).nq (fun i => ctVL ((f z).qf i)) + 1 + ctVL (f z).c + 1 : Nat) : Int)), .leaf (.int .i64 ((kk + sumN (f z).nq (fun i => ctVL ((f z).qf i)) + 1 + ctVL (f z).c + 1 + 1 : Nat) : Int)), .leaf (.int .i64 ((kk + sumN (f z).nq (fun i => ctVL ((f z).qf i)) + 1 + ctVL (f z).c + 1 + 1 + 1 : Nat) : Int)), .leaf (.int .i64 ((kk + sumN (f z).nq (fun i => ctVL ((f z).qf i)) + 1 + ctVL (f z).c + 1 + 1 + 1 + 1 : Nat) : Int)), .leaf (.int .i64 ((kk + sumN (f z).nq (fun i => ctVL ((f z).qf i)) + 1 + ctVL (f z).c + 1 + 1 + 1 + 1 + 1 : Nat) : Int))] T0)) (.row g off 17 n' K') (.slice (some ⟨g, off, none⟩) n' c) /\ Cg w (((((((W4.setCell ⟨g, off + z * 17 + 10, none⟩ (.int .i64 ((k4 : Int)))).setCell ⟨g, off + z * 17 + 11, none⟩ (.int .i64 ((k4 : Int) + 1))).setCell ⟨g, off + z * 17 + 12, none⟩ (.int .i64 ((k4 : Int) + 2))).setCell ⟨g, off + z * 17 + 13, none⟩ (.int .i64 ((k4 : Int) + 3))).setCell ⟨g, off + z * 17 + 14, none⟩ (.int .i64 ((k4 : Int) + 4))).setCell ⟨g, off + z * 17 + 15, none⟩ (.int .i64 ((k4 : Int) + 5))).setCell ⟨g, off + z * 17 + 16, none⟩ (.int .i64 ((k4 : Int) + 6))) (Sk.row g off 17 n' K').bl) := ⟨(((((((G4.out.1.setZ HH.out.2.1 hlt 10 (by decide) (by simp) _ (.int .i64 ((k4 : Int))) (.int .i64 ((((kk + sumN (f z).nq (fun i => ctVL ((f z).qf i)) + 1) + 1 + 1 + 1) + 1 + 1 + 1 + (f z).c.q.ws.length + (f z).c.q.bs.length : Nat) : Int)) rfl (congrArg (Value.int .i64) (by have := HC.out; have := HK0.out; have := HK1.out; have := HK3.out; have := HK4.out; omega)) rfl).setZ HH.out.2.1 hlt 11 (by decide) (by simp) _ (.int .i64 ((k4 : Int) + 1)) (.int .i64 ((kk + sumN (f z).nq (fun i => ctVL ((f z).qf i)) + 1 + ctVL (f z).c : Nat) : Int)) rfl (congrArg (Value.int .i64) (by have := HC.out; have := HK0.out; have := HK1.out; have := HK3.out; have := HK4.out; omega)) rfl).setZ HH.out.2.1 hlt 12 (by decide) (by simp) _ (.int .i64 ((k4 : Int) + 2)) (.int .i64 ((kk + sumN (f z).nq (fun i => ctVL ((f z).qf i)) + 1 + ctVL (f z).c + 1 : Nat) : Int)) rfl (congrArg (Value.int .i64) (by have := HC.out; have := HK0.out; have := HK1.out; have := HK3.out; have := HK4.out; omega)) rfl).setZ HH.out.2.1 hlt 13 (by decide) (by simp) _ (.int .i64 ((k4 : Int) + 3)) (.int .i64 ((kk + sumN (f z).nq (fun i => ctVL ((f z).qf i)) + 1 + ctVL (f z).c + 1 + 1 : Nat) : Int)) rfl (congrArg (Value.int .i64) (by have := HC.out; have := HK0.out; have := HK1.out; have := HK3.out; have := HK4.out; omega)) rfl).setZ HH.out.2.1 hlt 14 (by decide) (by simp) _ (.int .i64 ((k4 : Int) + 4)) (.int .i64 ((kk + sumN (f z).nq (fun i => ctVL ((f z).qf i)) + 1 + ctVL (f z).c + 1 + 1 + 1 : Nat) : Int)) rfl (congrArg (Value.int .i64) (by have := HC.out; have := HK0.out; have := HK1.out; have := HK3.out; have := HK4.out; omega)) rfl).setZ HH.out.2.1 hlt 15 (by decide) (by simp) _ (.int .i64 ((k4 : Int) + 5)) (.int .i64 ((kk + sumN (f z).nq (fun i => ctVL ((f z).qf i)) + 1 + ctVL (f z).c + 1 + 1 + 1 + 1 : Nat) : Int)) rfl (congrArg (Value.int .i64) (by have := HC.out; have := HK0.out; have := HK1.out; have := HK3.out; have := HK4.out; omega)) rfl).setZ HH.out.2.1 hlt 16 (by decide) (by simp) _ (.int .i64 ((k4 : Int) + 6)) (.int .i64 ((kk + sumN (f z).nq (fun i => ctVL ((f z).qf i)) + 1 + ctVL (f z).c + 1 + 1 + 1 + 1 + 1 : Nat) : Int)) rfl (congrArg (Value.int .i64) (by have := HC.out; have := HK0.out; have := HK1.out; have := HK3.out; have := HK4.out; omega)) rfl), (((((((G4.out.2.set (p := ⟨g, off + z * 17 + 10, none⟩) (.inl rfl) (.int .i64 ((k4 : Int)))).set (p := ⟨g, off + z * 17 + 11, none⟩) (.inl rfl) (.int .i64 ((k4 : Int) + 1))).set (p := ⟨g, off + z * 17 + 12, none⟩) (.inl rfl) (.int .i64 ((k4 : Int) + 2))).set (p := ⟨g, off + z * 17 + 13, none⟩) (.inl rfl) (.int .i64 ((k4 : Int) + 3))).set (p := ⟨g, off + z * 17 + 14, none⟩) (.inl rfl) (.int .i64 ((k4 : Int) + 4))).set (p := ⟨g, off + z * 17 + 15, none⟩) (.inl rfl) (.int .i64 ((k4 : Int) + 5))).set (p := ⟨g, off + z * 17 + 16, none⟩) (.inl rfl) (.int .i64 ((k4 : Int) + 6)))⟩
   clear G4
   have HZ : Hid (Fit (((((((W4.setCell ⟨g, off + z * 17 + 10, none⟩ (.int .i64 ((k4 : Int)))).setCell ⟨g, off + z * 17 + 11, none⟩ (.int .i64 ((k4 : Int) + 1))).setCell ⟨g, off + z * 17 + 12, none⟩ (.int .i64 ((k4 : Int) + 2))).setCell ⟨g, off + z * 17 + 13, none⟩ (.int .i64 ((k4 : Int) + 3))).setCell ⟨g, off + z * 17 + 14, none⟩ (.int .i64 ((k4 : Int) + 4))).setCell ⟨g, off + z * 17 + 15, none⟩ (.int .i64 ((k4 : Int) + 5))).setCell ⟨g, off + z * 17 + 16, none⟩ (.int .i64 ((k4 : Int) + 6))) (.list 17 n' (fun i => trs (xnT (if i < z + 1 then nmVN (s + sumN i (fun i => ctVN (f i))) (f i) else f i)))) (.row g off 17 n' K') (.slice (some ⟨g, off, none⟩) n' c) /\ Cg w (((((((W4.setCell ⟨g, off + z * 17 + 10, none⟩ (.int .i64 ((k4 : Int)))).setCell ⟨g, off + z * 17 + 11, none⟩ (.int .i64 ((k4 : Int) + 1))).setCell ⟨g, off + z * 17 + 12, none⟩ (.int .i64 ((k4 : Int) + 2))).setCell ⟨g, off + z * 17 + 13, none⟩ (.int .i64 ((k4 : Int) + 3))).setCell ⟨g, off + z * 17 + 14, none⟩ (.int .i64 ((k4 : Int) + 4))).setCell ⟨g, off + z * 17 + 15, none⟩ (.int .i64 ((k4 : Int) + 5))).setCell ⟨g, off + z * 17 + 16, none⟩ (.int .i64 ((k4 : Int) + 6))) (Sk.row g off 17 n' K').bl /\ (k4 : Int) + 7 = ((s + sumN (z + 1) (fun i => ctVN (f i)) : Nat) : Int)) := ⟨G5.out.1.doneZ (T1 := fun i => trs (xnT (if i < z + 1 then nmVN (s + sumN i (fun i => ctVN (f i))) (f i) else f i))) (fun i hi => by rw [HT.out]; simp only [if_lt_succ hi]) (fun j hj => by simp only [if_pos (Nat.lt_succ_self z)]; rw [<- HK0.out.1]; rfl), G5.out.2, by have := HC.out; have := HK0.out; have := HK1.out; have := HK3.out; have := HK4.out; omega⟩
   clear G5 HT
   go_wp2
   go_roundw
   case rel => exact ⟨z + 1, by omega, by go_num, congrArg (Value.int .i64) HZ.out.2.2, HZ.out.1, HZ.out.2.1⟩
   case measure => simp [intOf]; omega
  have hi : ¬ (z : Int) < (n' : Int) := by omega
  have e9 : z = n' := by omega
  subst e9
  have H1 : Hid (_ /\ _) := ⟨HE.out _ hF, hC⟩
  clear hF hC
  go_wp2
  go_ret
  exact ⟨rfl, H1.out.1, H1.out.2⟩
end Go.Proofs.YtkfgijkkffbpmaaGreat
namespace Go.Proofs.YtkfgijkkffbpmaaGreat
open Go.RowKit Go.Joins
theorem heldRuleS_f (n : Nat) (f : Nat -> Ru) (a : Option Addr) (n' c s : Nat) (x : Int) (w : World) (hx : x = ((s : Nat) : Int)) (h : Rd w 0 (.list 7 n (fun i => trs (xrT (nmRu (s + sumN i (fun i => ctRu (f i))) (f i))))) (.slice a n' c)) (hB : s + sumN n (fun i => ctRu (f i)) <= 1125899906842624) :
 Calls Tryz.prog 126 #[.slice a n' c, .int .i64 x] w fun e w' => e = .returned (.int .i64 ((s + sumN n (fun i => ctRu (f i)) : Nat) : Int)) /\ w' = w := by
 subst hx
 obtain ⟨a9, c9, h9, -, hm⟩ := h.shape
 simp only [Value.slice.injEq] at h9
 obtain ⟨-, rfl, -⟩ := h9
 clear a9 c9
 unfold maxLen at hm
 have HH : Hid (Rd w 0 (.list 7 n' (fun i => trs (xrT (nmRu (s + sumN i (fun i => ctRu (f i))) (f i))))) (.slice a n' c) /\ s + sumN n' (fun i => ctRu (f i)) <= 1125899906842624) := ⟨h, hB⟩
 clear h hB
 go_enter Tryz.func126, Tryz.ntmps126
 go_wp2
 go_loopw [1, 5] (fun kv i wr => ∃ z : Nat, z <= n' /\ i = .int .i64 z /\ kv = .int .i64 ((s + sumN z (fun i => ctRu (f i)) : Nat) : Int) /\ wr = w) (fun _ i _ => n' - (intOf i).toNat)
 case atStart => exact ⟨0, Nat.zero_le _, rfl, rfl, rfl⟩
 case round =>
  obtain ⟨z, hz, rfl, rfl, hw⟩ := hrel
  subst hw
  by_cases hlt : z < n'
  ·have hi : (z : Int) < (n' : Int) := by omega
   obtain ⟨kk, hkk⟩ : ∃ kk, kk = s + sumN z (fun i => ctRu (f i)) := ⟨_, rfl⟩
   rw [<- hkk]
   have HC : Hid (ctRu (f z) = 1 + 1 + 1 + 1 + 1 + 1 + 1 /\ True) := ⟨rfl, trivial⟩
   have HK0 : Hid (kk = s + sumN z (fun i => ctRu (f i)) /\ kk + ctRu (f z) <= 1125899906842624 /\ s + sumN (z + 1) (fun i => ctRu (f i)) = kk + ctRu (f z)) := ⟨hkk, by have h7 := sumN_le (g := (fun i => ctRu (f i))) hlt; have h8 := HH.out.2; omega, by rw [hkk]; simp only [sumN]; omega⟩
   obtain ⟨b, off, vs, rfl, _, hb0, hlen, hr, hrd⟩ := HH.out.1.at hlt
   rw [<- hkk] at hrd
   obtain rfl := Ru.cells hrd hlen
   have HR : Hid (wr.rangeAt b (off + z * 7) (rul (nmRu kk (f z))) /\ True) := ⟨hr, trivial⟩
   clear hlen hrd hr hb0 hkk
   have d0 : wr.cell? ⟨b, off + z * 7, none⟩ = some (.int .i64 ((kk : Int))) := (HR.out.1 0 _ rfl).trans (congrArg (fun x => some (Value.int .i64 x)) (by show ((kk : Nat) : Int) = _; have := HC.out; have := HK0.out; omega))
   have v0 : IntKind.i64.wrap ((kk : Int) + 1) = (kk : Int) + 1 := by have := HC.out; have := HK0.out; rw [IntKind.wrap_i64]; omega
   have d1 : wr.cell? ⟨b, off + z * 7 + 1, none⟩ = some (.int .i64 ((kk : Int) + 1)) := (HR.out.1 1 _ rfl).trans (congrArg (fun x => some (Value.int .i64 x)) (by show ((kk + 1 : Nat) : Int) = _; have := HC.out; have := HK0.out; omega))
   have v1 : IntKind.i64.wrap ((kk : Int) + 1 + 1) = (kk : Int) + 2 := by have := HC.out; have := HK0.out; rw [IntKind.wrap_i64]; omega
   have d2 : wr.cell? ⟨b, off + z * 7 + 2, none⟩ = some (.int .i64 ((kk : Int) + 2)) := (HR.out.1 2 _ rfl).trans (congrArg (fun x => some (Value.int .i64 x)) (by show ((kk + 1 + 1 : Nat) : Int) = _; have := HC.out; have := HK0.out; omega))
   have v2 : IntKind.i64.wrap ((kk : Int) + 2 + 1) = (kk : Int) + 3 := by have := HC.out; have := HK0.out; rw [IntKind.wrap_i64]; omega
   have d3 : wr.cell? ⟨b, off + z * 7 + 3, none⟩ = some (.int .i64 ((kk : Int) + 3)) := (HR.out.1 3 _ rfl).trans (congrArg (fun x => some (Value.int .i64 x)) (by show ((kk + 1 + 1 + 1 : Nat) : Int) = _; have := HC.out; have := HK0.out; omega))
   have v3 : IntKind.i64.wrap ((kk : Int) + 3 + 1) = (kk : Int) + 4 := by have := HC.out; have := HK0.out; rw [IntKind.wrap_i64]; omega
   have d4 : wr.cell? ⟨b, off + z * 7 + 4, none⟩ = some (.int .i64 ((kk : Int) + 4)) := (HR.out.1 4 _ rfl).trans (congrArg (fun x => some (Value.int .i64 x)) (by show ((kk + 1 + 1 + 1 + 1 : Nat) : Int) = _; have := HC.out; have := HK0.out; omega))
   have v4 : IntKind.i64.wrap ((kk : Int) + 4 + 1) = (kk : Int) + 5 := by have := HC.out; have := HK0.out; rw [IntKind.wrap_i64]; omega
   have d5 : wr.cell? ⟨b, off + z * 7 + 5, none⟩ = some (.int .i64 ((kk : Int) + 5)) := (HR.out.1 5 _ rfl).trans (congrArg (fun x => some (Value.int .i64 x)) (by show ((kk + 1 + 1 + 1 + 1 + 1 : Nat) : Int) = _; have := HC.out; have := HK0.out; omega))
   have v5 : IntKind.i64.wrap ((kk : Int) + 5 + 1) = (kk : Int) + 6 := by have := HC.out; have := HK0.out; rw [IntKind.wrap_i64]; omega
   have d6 : wr.cell? ⟨b, off + z * 7 + 6, none⟩ = some (.int .i64 ((kk : Int) + 6)) := (HR.out.1 6 _ rfl).trans (congrArg (fun x => some (Value.int .i64 x)) (by show ((kk + 1 + 1 + 1 + 1 + 1 + 1 : Nat) : Int) = _; have := HC.out; have := HK0.out; omega))
   have v6 : IntKind.i64.wrap ((kk : Int) + 6 + 1) = (kk : Int) + 7 := by have := HC.out; have := HK0.out; rw [IntKind.wrap_i64]; omega
   have HZ : Hid ((kk : Int) + 7 = ((s + sumN (z + 1) (fun i => ctRu (f i)) : Nat) : Int)) := by show _ = _; have := HC.out; have := HK0.out; omega
   go_wp2
   go_roundw
   case rel => exact ⟨z + 1, by omega, by go_num, congrArg (Value.int .i64) HZ.out, trivial⟩
   case measure => simp [intOf]; omega
  have hi : ¬ (z : Int) < (n' : Int) := by omega
  have e9 : z = n' := by omega
  subst e9
  go_wp2
  go_ret
  exact ⟨rfl, rfl⟩
theorem heldCallS_f (n : Nat) (f : Nat -> VL) (a : Option Addr) (n' c s : Nat) (x : Int) (w : World) (hx : x = ((s : Nat) : Int)) (h : Rd w 0 (.list 9 n (fun i => trs (xlT (nmVL (s + sumN i (fun i => ctVL (f i))) (f i))))) (.slice a n' c)) (hB : s + sumN n (fun i => ctVL (f i)) <= 1125899906842624) :
 Calls Tryz.prog 128 #[.slice a n' c, .int .i64 x] w fun e w' => e = .returned (.int .i64 ((s + sumN n (fun i => ctVL (f i)) : Nat) : Int)) /\ w' = w := by
 subst hx
 obtain ⟨a9, c9, h9, -, hm⟩ := h.shape
 simp only [Value.slice.injEq] at h9
 obtain ⟨-, rfl, -⟩ := h9
 clear a9 c9
 unfold maxLen at hm
 have HH : Hid (Rd w 0 (.list 9 n' (fun i => trs (xlT (nmVL (s + sumN i (fun i => ctVL (f i))) (f i))))) (.slice a n' c) /\ s + sumN n' (fun i => ctVL (f i)) <= 1125899906842624) := ⟨h, hB⟩
 clear h hB
 go_enter Tryz.func128, Tryz.ntmps128
 go_wp2
 go_loopw [1, 5] (fun kv i wr => ∃ z : Nat, z <= n' /\ i = .int .i64 z /\ kv = .int .i64 ((s + sumN z (fun i => ctVL (f i)) : Nat) : Int) /\ wr = w) (fun _ i _ => n' - (intOf i).toNat)
 case atStart => exact ⟨0, Nat.zero_le _, rfl, rfl, rfl⟩
 case round =>
  obtain ⟨z, hz, rfl, rfl, hw⟩ := hrel
  subst hw
  by_cases hlt : z < n'
  ·have hi : (z : Int) < (n' : Int) := by omega
   obtain ⟨kk, hkk⟩ : ∃ kk, kk = s + sumN z (fun i => ctVL (f i)) := ⟨_, rfl⟩
   rw [<- hkk]
   have HC : Hid (ctVL (f z) = 1 + 1 + 1 + ctVQ (f z).q /\ ctVQ (f z).q = 1 + 1 + 1 + (f z).q.ws.length + (f z).q.bs.length + 1 /\ True) := ⟨rfl, rfl, trivial⟩
   have HK0 : Hid (kk = s + sumN z (fun i => ctVL (f i)) /\ kk + ctVL (f z) <= 1125899906842624 /\ s + sumN (z + 1) (fun i => ctVL (f i)) = kk + ctVL (f z)) := ⟨hkk, by have h7 := sumN_le (g := (fun i => ctVL (f i))) hlt; have h8 := HH.out.2; omega, by rw [hkk]; simp only [sumN]; omega⟩
   obtain ⟨b, off, vs, rfl, _, hb0, hlen, hr, hrd⟩ := HH.out.1.at hlt
   rw [<- hkk] at hrd
   obtain ⟨a1, c1, a2, c2, rfl, r1, r2⟩ := VL.cells hrd hlen
   have HR : Hid (wr.rangeAt b (off + z * 9) (xlL (nmVL kk (f z)) a1 ((nmVL kk (f z)).q.ws.length) c1 a2 ((nmVL kk (f z)).q.bs.length) c2) /\ Rd wr 0 (intsT (nmVL kk (f z)).q.ws) (.slice a1 ((nmVL kk (f z)).q.ws.length) c1) /\ Rd wr 0 (boolsT (nmVL kk (f z)).q.bs) (.slice a2 ((nmVL kk (f z)).q.bs.length) c2)) := ⟨hr, r1, r2⟩
   clear hlen hrd hr hb0 hkk r1 r2
   have d0 : wr.cell? ⟨b, off + z * 9, none⟩ = some (.int .i64 ((kk : Int))) := (HR.out.1 0 _ rfl).trans (congrArg (fun x => some (Value.int .i64 x)) (by show ((kk : Nat) : Int) = _; have := HC.out; have := HK0.out; omega))
   have v0 : IntKind.i64.wrap ((kk : Int) + 1) = (kk : Int) + 1 := by have := HC.out; have := HK0.out; rw [IntKind.wrap_i64]; omega
   have d1 : wr.cell? ⟨b, off + z * 9 + 1, none⟩ = some (.int .i64 ((kk : Int) + 1)) := (HR.out.1 1 _ rfl).trans (congrArg (fun x => some (Value.int .i64 x)) (by show ((kk + 1 : Nat) : Int) = _; have := HC.out; have := HK0.out; omega))
   have v1 : IntKind.i64.wrap ((kk : Int) + 1 + 1) = (kk : Int) + 2 := by have := HC.out; have := HK0.out; rw [IntKind.wrap_i64]; omega
   have d2 : wr.cell? ⟨b, off + z * 9 + 2, none⟩ = some (.int .i64 ((kk : Int) + 2)) := (HR.out.1 2 _ rfl).trans (congrArg (fun x => some (Value.int .i64 x)) (by show ((kk + 1 + 1 : Nat) : Int) = _; have := HC.out; have := HK0.out; omega))
   have v2 : IntKind.i64.wrap ((kk : Int) + 2 + 1) = (kk : Int) + 3 := by have := HC.out; have := HK0.out; rw [IntKind.wrap_i64]; omega
   have d3 : wr.cell? ⟨b, off + z * 9 + 3, none⟩ = some (.int .i64 ((kk : Int) + 3)) := (HR.out.1 3 _ rfl).trans (congrArg (fun x => some (Value.int .i64 x)) (by show (((kk + 1 + 1 + 1) : Nat) : Int) = _; have := HC.out; have := HK0.out; omega))
   have v3 : IntKind.i64.wrap ((kk : Int) + 3 + 1) = (kk : Int) + 4 := by have := HC.out; have := HK0.out; rw [IntKind.wrap_i64]; omega
   have d4 : wr.cell? ⟨b, off + z * 9 + 4, none⟩ = some (.int .i64 ((kk : Int) + 4)) := (HR.out.1 4 _ rfl).trans (congrArg (fun x => some (Value.int .i64 x)) (by show (((kk + 1 + 1 + 1) + 1 : Nat) : Int) = _; have := HC.out; have := HK0.out; omega))
   have v4 : IntKind.i64.wrap ((kk : Int) + 4 + 1) = (kk : Int) + 5 := by have := HC.out; have := HK0.out; rw [IntKind.wrap_i64]; omega
   have d5 : wr.cell? ⟨b, off + z * 9 + 5, none⟩ = some (.int .i64 ((kk : Int) + 5)) := (HR.out.1 5 _ rfl).trans (congrArg (fun x => some (Value.int .i64 x)) (by show (((kk + 1 + 1 + 1) + 1 + 1 : Nat) : Int) = _; have := HC.out; have := HK0.out; omega))
   have v5 : IntKind.i64.wrap ((kk : Int) + 5 + 1) = (kk : Int) + 6 := by have := HC.out; have := HK0.out; rw [IntKind.wrap_i64]; omega
   have d6 : wr.cell? ⟨b, off + z * 9 + 6, none⟩ = some (.slice a1 ((nmVL kk (f z)).q.ws.length) c1) := HR.out.1 6 _ rfl
   go_wp2_with fail
   refine (heldIntS_f (f z).q.ws.length a1 _ c1 ((kk + 1 + 1 + 1) + 1 + 1 + 1) _ _ (by have := HC.out; have := HK0.out; omega) HR.out.2.1 (by have := HC.out; have := HK0.out; omega)).mono ?_
   rintro e w9 ⟨rfl, hw⟩
   have hw := hw.symm
   subst hw
   obtain ⟨k1, hk1⟩ : ∃ k1 : Nat, k1 = (kk + 1 + 1 + 1) + 1 + 1 + 1 + (f z).q.ws.length := ⟨_, rfl⟩
   rw [<- hk1]
   have HK1 : Hid (k1 = (kk + 1 + 1 + 1) + 1 + 1 + 1 + (f z).q.ws.length) := hk1
   have nn1 : ¬ ((k1 : Int) < 0) := by omega
   clear hk1
   have d7 : wr.cell? ⟨b, off + z * 9 + 7, none⟩ = some (.slice a2 ((nmVL kk (f z)).q.bs.length) c2) := HR.out.1 7 _ rfl
   go_wp2_with fail
   refine (heldBoolS_f (f z).q.bs.length a2 _ c2 ((kk + 1 + 1 + 1) + 1 + 1 + 1 + (f z).q.ws.length) _ _ (by have := HC.out; have := HK0.out; have := HK1.out; omega) HR.out.2.2 (by have := HC.out; have := HK0.out; have := HK1.out; omega)).mono ?_
   rintro e w9 ⟨rfl, hw⟩
   have hw := hw.symm
   subst hw
   obtain ⟨k2, hk2⟩ : ∃ k2 : Nat, k2 = (kk + 1 + 1 + 1) + 1 + 1 + 1 + (f z).q.ws.length + (f z).q.bs.length := ⟨_, rfl⟩
   rw [<- hk2]
   have HK2 : Hid (k2 = (kk + 1 + 1 + 1) + 1 + 1 + 1 + (f z).q.ws.length + (f z).q.bs.length) := hk2
   have nn2 : ¬ ((k2 : Int) < 0) := by omega
   clear hk2
   have d8 : wr.cell? ⟨b, off + z * 9 + 8, none⟩ = some (.int .i64 ((k2 : Int))) := (HR.out.1 8 _ rfl).trans (congrArg (fun x => some (Value.int .i64 x)) (by show (((kk + 1 + 1 + 1) + 1 + 1 + 1 + (f z).q.ws.length + (f z).q.bs.length : Nat) : Int) = _; have := HC.out; have := HK0.out; have := HK1.out; have := HK2.out; omega))
   have v8 : IntKind.i64.wrap ((k2 : Int) + 1) = (k2 : Int) + 1 := by have := HC.out; have := HK0.out; have := HK1.out; have := HK2.out; rw [IntKind.wrap_i64]; omega
   have HZ : Hid ((k2 : Int) + 1 = ((s + sumN (z + 1) (fun i => ctVL (f i)) : Nat) : Int)) := by show _ = _; have := HC.out; have := HK0.out; have := HK1.out; have := HK2.out; omega
   go_wp2
   go_roundw
   case rel => exact ⟨z + 1, by omega, by go_num, congrArg (Value.int .i64) HZ.out, trivial⟩
   case measure => simp [intOf]; omega
  have hi : ¬ (z : Int) < (n' : Int) := by omega
  have e9 : z = n' := by omega
  subst e9
  go_wp2
  go_ret
  exact ⟨rfl, rfl⟩
theorem heldLineS_f (n : Nat) (f : Nat -> VN) (a : Option Addr) (n' c s : Nat) (x : Int) (w : World) (hx : x = ((s : Nat) : Int)) (h : Rd w 0 (.list 17 n (fun i => trs (xnT (nmVN (s + sumN i (fun i => ctVN (f i))) (f i))))) (.slice a n' c)) (hB : s + sumN n (fun i => ctVN (f i)) <= 1125899906842624) :
 Calls Tryz.prog 66 #[.slice a n' c, .int .i64 x] w fun e w' => e = .returned (.int .i64 ((s + sumN n (fun i => ctVN (f i)) : Nat) : Int)) /\ w' = w := by
 subst hx
 obtain ⟨a9, c9, h9, -, hm⟩ := h.shape
 simp only [Value.slice.injEq] at h9
 obtain ⟨-, rfl, -⟩ := h9
 clear a9 c9
 unfold maxLen at hm
 have HH : Hid (Rd w 0 (.list 17 n' (fun i => trs (xnT (nmVN (s + sumN i (fun i => ctVN (f i))) (f i))))) (.slice a n' c) /\ s + sumN n' (fun i => ctVN (f i)) <= 1125899906842624) := ⟨h, hB⟩
 clear h hB
 go_enter Tryz.func66, Tryz.ntmps66
 go_wp2
 go_loopw [1, 5] (fun kv i wr => ∃ z : Nat, z <= n' /\ i = .int .i64 z /\ kv = .int .i64 ((s + sumN z (fun i => ctVN (f i)) : Nat) : Int) /\ wr = w) (fun _ i _ => n' - (intOf i).toNat)
 case atStart => exact ⟨0, Nat.zero_le _, rfl, rfl, rfl⟩
 case round =>
  obtain ⟨z, hz, rfl, rfl, hw⟩ := hrel
  subst hw
  by_cases hlt : z < n'
  ·have hi : (z : Int) < (n' : Int) := by omega
   obtain ⟨kk, hkk⟩ : ∃ kk, kk = s + sumN z (fun i => ctVN (f i)) := ⟨_, rfl⟩
   rw [<- hkk]
   have HC : Hid (ctVN (f z) = sumN (f z).nq (fun i => ctVL ((f z).qf i)) + 1 + ctVL (f z).c + 1 + 1 + 1 + 1 + 1 + 1 /\ ctVL (f z).c = 1 + 1 + 1 + ctVQ (f z).c.q /\ ctVQ (f z).c.q = 1 + 1 + 1 + (f z).c.q.ws.length + (f z).c.q.bs.length + 1 /\ True) := ⟨rfl, rfl, rfl, trivial⟩
   have HK0 : Hid (kk = s + sumN z (fun i => ctVN (f i)) /\ kk + ctVN (f z) <= 1125899906842624 /\ s + sumN (z + 1) (fun i => ctVN (f i)) = kk + ctVN (f z)) := ⟨hkk, by have h7 := sumN_le (g := (fun i => ctVN (f i))) hlt; have h8 := HH.out.2; omega, by rw [hkk]; simp only [sumN]; omega⟩
   obtain ⟨b, off, vs, rfl, _, hb0, hlen, hr, hrd⟩ := HH.out.1.at hlt
   rw [<- hkk] at hrd
   obtain ⟨a1, c1, a2, c2, a3, c3, rfl, r1, r2, r3⟩ := VN.cells hrd hlen
   have HR : Hid (wr.rangeAt b (off + z * 17) (xnL (nmVN kk (f z)) a1 ((nmVN kk (f z)).nq) c1 a2 ((nmVN kk (f z)).c.q.ws.length) c2 a3 ((nmVN kk (f z)).c.q.bs.length) c3) /\ Rd wr 0 (.list 9 (nmVN kk (f z)).nq (fun i => trs (xlT ((nmVN kk (f z)).qf i)))) (.slice a1 ((nmVN kk (f z)).nq) c1) /\ Rd wr 0 (intsT (nmVN kk (f z)).c.q.ws) (.slice a2 ((nmVN kk (f z)).c.q.ws.length) c2) /\ Rd wr 0 (boolsT (nmVN kk (f z)).c.q.bs) (.slice a3 ((nmVN kk (f z)).c.q.bs.length) c3)) := ⟨hr, r1, r2, r3⟩
   clear hlen hrd hr hb0 hkk r1 r2 r3
   have d0 : wr.cell? ⟨b, off + z * 17, none⟩ = some (.slice a1 ((nmVN kk (f z)).nq) c1) := HR.out.1 0 _ rfl
   go_wp2_with fail
   refine (heldCallS_f (f z).nq (f z).qf a1 _ c1 (kk) _ _ (by have := HC.out; have := HK0.out; omega) HR.out.2.1 (by have := HC.out; have := HK0.out; omega)).mono ?_
   rintro e w9 ⟨rfl, hw⟩
   have hw := hw.symm
   subst hw
   obtain ⟨k1, hk1⟩ : ∃ k1 : Nat, k1 = kk + sumN (f z).nq (fun i => ctVL ((f z).qf i)) := ⟨_, rfl⟩
   rw [<- hk1]
   have HK1 : Hid (k1 = kk + sumN (f z).nq (fun i => ctVL ((f z).qf i))) := hk1
   have nn1 : ¬ ((k1 : Int) < 0) := by omega
   clear hk1
   have d1 : wr.cell? ⟨b, off + z * 17 + 1, none⟩ = some (.bool (((k1 : Int)) % 3 == 0)) := (HR.out.1 1 _ rfl).trans (congrArg (fun x : Int => some (Value.bool (x % 3 == 0))) (by show ((kk + sumN (f z).nq (fun i => ctVL ((f z).qf i)) : Nat) : Int) = _; have := HC.out; have := HK0.out; have := HK1.out; omega))
   have v1 : IntKind.i64.wrap ((k1 : Int) + 1) = (k1 : Int) + 1 := by have := HC.out; have := HK0.out; have := HK1.out; rw [IntKind.wrap_i64]; omega
   have d2 : wr.cell? ⟨b, off + z * 17 + 2, none⟩ = some (.int .i64 ((k1 : Int) + 1)) := (HR.out.1 2 _ rfl).trans (congrArg (fun x => some (Value.int .i64 x)) (by show (((kk + sumN (f z).nq (fun i => ctVL ((f z).qf i)) + 1) : Nat) : Int) = _; have := HC.out; have := HK0.out; have := HK1.out; omega))
   have v2 : IntKind.i64.wrap ((k1 : Int) + 1 + 1) = (k1 : Int) + 2 := by have := HC.out; have := HK0.out; have := HK1.out; rw [IntKind.wrap_i64]; omega
   have d3 : wr.cell? ⟨b, off + z * 17 + 3, none⟩ = some (.int .i64 ((k1 : Int) + 2)) := (HR.out.1 3 _ rfl).trans (congrArg (fun x => some (Value.int .i64 x)) (by show (((kk + sumN (f z).nq (fun i => ctVL ((f z).qf i)) + 1) + 1 : Nat) : Int) = _; have := HC.out; have := HK0.out; have := HK1.out; omega))
   have v3 : IntKind.i64.wrap ((k1 : Int) + 2 + 1) = (k1 : Int) + 3 := by have := HC.out; have := HK0.out; have := HK1.out; rw [IntKind.wrap_i64]; omega
   have d4 : wr.cell? ⟨b, off + z * 17 + 4, none⟩ = some (.int .i64 ((k1 : Int) + 3)) := (HR.out.1 4 _ rfl).trans (congrArg (fun x => some (Value.int .i64 x)) (by show (((kk + sumN (f z).nq (fun i => ctVL ((f z).qf i)) + 1) + 1 + 1 : Nat) : Int) = _; have := HC.out; have := HK0.out; have := HK1.out; omega))
   have v4 : IntKind.i64.wrap ((k1 : Int) + 3 + 1) = (k1 : Int) + 4 := by have := HC.out; have := HK0.out; have := HK1.out; rw [IntKind.wrap_i64]; omega
   have d5 : wr.cell? ⟨b, off + z * 17 + 5, none⟩ = some (.int .i64 ((k1 : Int) + 4)) := (HR.out.1 5 _ rfl).trans (congrArg (fun x => some (Value.int .i64 x)) (by show ((((kk + sumN (f z).nq (fun i => ctVL ((f z).qf i)) + 1) + 1 + 1 + 1) : Nat) : Int) = _; have := HC.out; have := HK0.out; have := HK1.out; omega))
   have v5 : IntKind.i64.wrap ((k1 : Int) + 4 + 1) = (k1 : Int) + 5 := by have := HC.out; have := HK0.out; have := HK1.out; rw [IntKind.wrap_i64]; omega
   have d6 : wr.cell? ⟨b, off + z * 17 + 6, none⟩ = some (.int .i64 ((k1 : Int) + 5)) := (HR.out.1 6 _ rfl).trans (congrArg (fun x => some (Value.int .i64 x)) (by show ((((kk + sumN (f z).nq (fun i => ctVL ((f z).qf i)) + 1) + 1 + 1 + 1) + 1 : Nat) : Int) = _; have := HC.out; have := HK0.out; have := HK1.out; omega))
   have v6 : IntKind.i64.wrap ((k1 : Int) + 5 + 1) = (k1 : Int) + 6 := by have := HC.out; have := HK0.out; have := HK1.out; rw [IntKind.wrap_i64]; omega
   have d7 : wr.cell? ⟨b, off + z * 17 + 7, none⟩ = some (.int .i64 ((k1 : Int) + 6)) := (HR.out.1 7 _ rfl).trans (congrArg (fun x => some (Value.int .i64 x)) (by show ((((kk + sumN (f z).nq (fun i => ctVL ((f z).qf i)) + 1) + 1 + 1 + 1) + 1 + 1 : Nat) : Int) = _; have := HC.out; have := HK0.out; have := HK1.out; omega))
   have v7 : IntKind.i64.wrap ((k1 : Int) + 6 + 1) = (k1 : Int) + 7 := by have := HC.out; have := HK0.out; have := HK1.out; rw [IntKind.wrap_i64]; omega
   have d8 : wr.cell? ⟨b, off + z * 17 + 8, none⟩ = some (.slice a2 ((nmVN kk (f z)).c.q.ws.length) c2) := HR.out.1 8 _ rfl
   go_wp2_with fail
   refine (heldIntS_f (f z).c.q.ws.length a2 _ c2 (((kk + sumN (f z).nq (fun i => ctVL ((f z).qf i)) + 1) + 1 + 1 + 1) + 1 + 1 + 1) _ _ (by have := HC.out; have := HK0.out; have := HK1.out; omega) HR.out.2.2.1 (by have := HC.out; have := HK0.out; have := HK1.out; omega)).mono ?_
   rintro e w9 ⟨rfl, hw⟩
   have hw := hw.symm
   subst hw
   obtain ⟨k2, hk2⟩ : ∃ k2 : Nat, k2 = ((kk + sumN (f z).nq (fun i => ctVL ((f z).qf i)) + 1) + 1 + 1 + 1) + 1 + 1 + 1 + (f z).c.q.ws.length := ⟨_, rfl⟩
   rw [<- hk2]
   have HK2 : Hid (k2 = ((kk + sumN (f z).nq (fun i => ctVL ((f z).qf i)) + 1) + 1 + 1 + 1) + 1 + 1 + 1 + (f z).c.q.ws.length) := hk2
   have nn2 : ¬ ((k2 : Int) < 0) := by omega
   clear hk2
   have d9 : wr.cell? ⟨b, off + z * 17 + 9, none⟩ = some (.slice a3 ((nmVN kk (f z)).c.q.bs.length) c3) := HR.out.1 9 _ rfl
   go_wp2_with fail
   refine (heldBoolS_f (f z).c.q.bs.length a3 _ c3 (((kk + sumN (f z).nq (fun i => ctVL ((f z).qf i)) + 1) + 1 + 1 + 1) + 1 + 1 + 1 + (f z).c.q.ws.length) _ _ (by have := HC.out; have := HK0.out; have := HK1.out; have := HK2.out; omega) HR.out.2.2.2 (by have := HC.out; have := HK0.out; have := HK1.out; have := HK2.out; omega)).mono ?_
   rintro e w9 ⟨rfl, hw⟩
   have hw := hw.symm
   subst hw
   obtain ⟨k3, hk3⟩ : ∃ k3 : Nat, k3 = ((kk + sumN (f z).nq (fun i => ctVL ((f z).qf i)) + 1) + 1 + 1 + 1) + 1 + 1 + 1 + (f z).c.q.ws.length + (f z).c.q.bs.length := ⟨_, rfl⟩
   rw [<- hk3]
   have HK3 : Hid (k3 = ((kk + sumN (f z).nq (fun i => ctVL ((f z).qf i)) + 1) + 1 + 1 + 1) + 1 + 1 + 1 + (f z).c.q.ws.length + (f z).c.q.bs.length) := hk3
   have nn3 : ¬ ((k3 : Int) < 0) := by omega
   clear hk3
   have d10 : wr.cell? ⟨b, off + z * 17 + 10, none⟩ = some (.int .i64 ((k3 : Int))) := (HR.out.1 10 _ rfl).trans (congrArg (fun x => some (Value.int .i64 x)) (by show ((((kk + sumN (f z).nq (fun i => ctVL ((f z).qf i)) + 1) + 1 + 1 + 1) + 1 + 1 + 1 + (f z).c.q.ws.length + (f z).c.q.bs.length : Nat) : Int) = _; have := HC.out; have := HK0.out; have := HK1.out; have := HK2.out; have := HK3.out; omega))
   have v10 : IntKind.i64.wrap ((k3 : Int) + 1) = (k3 : Int) + 1 := by have := HC.out; have := HK0.out; have := HK1.out; have := HK2.out; have := HK3.out; rw [IntKind.wrap_i64]; omega
   have d11 : wr.cell? ⟨b, off + z * 17 + 11, none⟩ = some (.int .i64 ((k3 : Int) + 1)) := (HR.out.1 11 _ rfl).trans (congrArg (fun x => some (Value.int .i64 x)) (by show ((kk + sumN (f z).nq (fun i => ctVL ((f z).qf i)) + 1 + ctVL (f z).c : Nat) : Int) = _; have := HC.out; have := HK0.out; have := HK1.out; have := HK2.out; have := HK3.out; omega))
   have v11 : IntKind.i64.wrap ((k3 : Int) + 1 + 1) = (k3 : Int) + 2 := by have := HC.out; have := HK0.out; have := HK1.out; have := HK2.out; have := HK3.out; rw [IntKind.wrap_i64]; omega
   have d12 : wr.cell? ⟨b, off + z * 17 + 12, none⟩ = some (.int .i64 ((k3 : Int) + 2)) := (HR.out.1 12 _ rfl).trans (congrArg (fun x => some (Value.int .i64 x)) (by show ((kk + sumN (f z).nq (fun i => ctVL ((f z).qf i)) + 1 + ctVL (f z).c + 1 : Nat) : Int) = _; have := HC.out; have := HK0.out; have := HK1.out; have := HK2.out; have := HK3.out; omega))
   have v12 : IntKind.i64.wrap ((k3 : Int) + 2 + 1) = (k3 : Int) + 3 := by have := HC.out; have := HK0.out; have := HK1.out; have := HK2.out; have := HK3.out; rw [IntKind.wrap_i64]; omega
   have d13 : wr.cell? ⟨b, off + z * 17 + 13, none⟩ = some (.int .i64 ((k3 : Int) + 3)) := (HR.out.1 13 _ rfl).trans (congrArg (fun x => some (Value.int .i64 x)) (by show ((kk + sumN (f z).nq (fun i => ctVL ((f z).qf i)) + 1 + ctVL (f z).c + 1 + 1 : Nat) : Int) = _; have := HC.out; have := HK0.out; have := HK1.out; have := HK2.out; have := HK3.out; omega))
   have v13 : IntKind.i64.wrap ((k3 : Int) + 3 + 1) = (k3 : Int) + 4 := by have := HC.out; have := HK0.out; have := HK1.out; have := HK2.out; have := HK3.out; rw [IntKind.wrap_i64]; omega
   have d14 : wr.cell? ⟨b, off + z * 17 + 14, none⟩ = some (.int .i64 ((k3 : Int) + 4)) := (HR.out.1 14 _ rfl).trans (congrArg (fun x => some (Value.int .i64 x)) (by show ((kk + sumN (f z).nq (fun i => ctVL ((f z).qf i)) + 1 + ctVL (f z).c + 1 + 1 + 1 : Nat) : Int) = _; have := HC.out; have := HK0.out; have := HK1.out; have := HK2.out; have := HK3.out; omega))
   have v14 : IntKind.i64.wrap ((k3 : Int) + 4 + 1) = (k3 : Int) + 5 := by have := HC.out; have := HK0.out; have := HK1.out; have := HK2.out; have := HK3.out; rw [IntKind.wrap_i64]; omega
   have d15 : wr.cell? ⟨b, off + z * 17 + 15, none⟩ = some (.int .i64 ((k3 : Int) + 5)) := (HR.out.1 15 _ rfl).trans (congrArg (fun x => some (Value.int .i64 x)) (by show ((kk + sumN (f z).nq (fun i => ctVL ((f z).qf i)) + 1 + ctVL (f z).c + 1 + 1 + 1 + 1 : Nat) : Int) = _; have := HC.out; have := HK0.out; have := HK1.out; have := HK2.out; have := HK3.out; omega))
   have v15 : IntKind.i64.wrap ((k3 : Int) + 5 + 1) = (k3 : Int) + 6 := by have := HC.out; have := HK0.out; have := HK1.out; have := HK2.out; have := HK3.out; rw [IntKind.wrap_i64]; omega
   have d16 : wr.cell? ⟨b, off + z * 17 + 16, none⟩ = some (.int .i64 ((k3 : Int) + 6)) := (HR.out.1 16 _ rfl).trans (congrArg (fun x => some (Value.int .i64 x)) (by show ((kk + sumN (f z).nq (fun i => ctVL ((f z).qf i)) + 1 + ctVL (f z).c + 1 + 1 + 1 + 1 + 1 : Nat) : Int) = _; have := HC.out; have := HK0.out; have := HK1.out; have := HK2.out; have := HK3.out; omega))
   have v16 : IntKind.i64.wrap ((k3 : Int) + 6 + 1) = (k3 : Int) + 7 := by have := HC.out; have := HK0.out; have := HK1.out; have := HK2.out; have := HK3.out; rw [IntKind.wrap_i64]; omega
   have HZ : Hid ((k3 : Int) + 7 = ((s + sumN (z + 1) (fun i => ctVN (f i)) : Nat) : Int)) := by show _ = _; have := HC.out; have := HK0.out; have := HK1.out; have := HK2.out; have := HK3.out; omega
   go_wp2
   go_roundw
   case rel => exact ⟨z + 1, by omega, by go_num, congrArg (Value.int .i64) HZ.out, trivial⟩
   case measure => simp [intOf]; omega
  have hi : ¬ (z : Int) < (n' : Int) := by omega
  have e9 : z = n' := by omega
  subst e9
  go_wp2
  go_ret
  exact ⟨rfl, rfl⟩
end Go.Proofs.YtkfgijkkffbpmaaGreat
