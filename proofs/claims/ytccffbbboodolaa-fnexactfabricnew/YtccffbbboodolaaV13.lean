/- Texts that the proof needs, joined: Mk9 FabricNewL. -/
import Derived.Test.YtccffbbboodolaaV11
import Derived.Test.YtccffbbboodolaaV12
import Derived.Test.YtccffbbboodolaaV9
import Derived.Test.YtccffbbboodolaaV1
namespace Go.Proofs.Ytccffbbboodolaa
open Go.RowKit Go.Joins
set_option linter.unusedVariables false
set_option linter.unusedSimpArgs false
theorem Own1.rd0 {w : World} {lo hi : Nat} {ts : List Tr} {vs : List Value} (h : Own1 w lo hi ts vs) (i : Nat) (v : Value) (hv : vs[i]? = some v) : Rd w 0 (trs ts i) v := by
  obtain ⟨K, h1, h2, h3, h4⟩ := h
  exact (h2 i v hv).rd (fun b _ => Nat.zero_le b)
def csVC (X : VC) : Nat := sumN X.n (fun i => ctRu (X.f i))
def nsVC (k : Nat) (X : VC) : VC := ⟨X.wt, X.tr, X.n, fun i => nmRu (k + sumN i (fun i => ctRu (X.f i))) (X.f i)⟩
def csVT (X : VT) : Nat := sumN X.m (fun i => ctVD (X.f i))
def nsVT (k : Nat) (X : VT) : VT := ⟨X.nx, X.m, fun i => nmVD (k + sumN i (fun i => ctVD (X.f i))) (X.f i)⟩
def csVF (X : VF) : Nat := csVC X.set + csVT X.op + sumN X.nl (fun i => ctVN (X.lf i))
def nsVF (k : Nat) (X : VF) : VF := ⟨X.nw, nsVC (k) X.set, nsVT (k + csVC X.set) X.op, X.nl, fun i => nmVN (k + csVC X.set + csVT X.op + sumN i (fun i => ctVN (X.lf i))) (X.lf i), X.sk, X.re, X.fa, X.se⟩
set_option maxRecDepth 20000 in
set_option maxHeartbeats 4000000 in
theorem markConfig_f (X : VC) (a1 : Option Addr) (l1 c1 : Nat) (s : Nat) (x : Int) (K1 : Sk) (w : World) (hx : x = ((s : Nat) : Int)) (f1 : Fit w (.list 7 X.n (fun i => trs (xrT (X.f i)))) K1 (.slice a1 l1 c1)) (o1 : K1.ok)  (hB : s + csVC X ≤ 1125899906842624) :
    Calls Try.prog 10 #[.agg (xcL X a1 l1 c1).toArray, .int .i64 x] w fun e w' => e = .returned (.int .i64 ((s + csVC X : Nat) : Int)) ∧ Fit w' (.list 7 X.n (fun i => trs (xrT (nmRu (s + sumN i (fun i => ctRu (X.f i))) (X.f i))))) K1 (.slice a1 l1 c1) ∧ Cg w w' (fun b => K1.bl b) := by
  subst hx
  obtain ⟨W, hW⟩ : ∃ W, W = w.alloc (.cells (xcL X a1 l1 c1).toArray 28) := ⟨_, rfl⟩
  have bW : Below w.heap.size w W := by rw [hW]; exact bel_alloc _ _
  have HN : Hid ((∀ b, K1.bl b → b < w.heap.size) ∧ True) := ⟨fun b hb => f1.lt hb, trivial⟩
  have G0 : Hid (Fit W (.list 7 X.n (fun i => trs (xrT (X.f i)))) K1 (.slice a1 l1 c1) ∧ Cg w W (fun b => K1.bl b) ∧ Blk W w.heap.size 28 (xcL X a1 l1 c1).toArray ∧ w.heap.size < W.heap.size) := ⟨f1.below bW, Cg.ofBelow bW, by rw [hW]; exact Blk.new _ _ _, by rw [hW]; simp⟩
  have HC : Hid (csVC X = sumN X.n (fun i => ctRu (X.f i))) := rfl
  clear f1 bW
  go_enter Try.func10, Try.ntmps10
  go_upto_region 1 with fail
  rw [← hW]
  clear hW
  obtain ⟨⟨y0, y1, y2⟩, yf⟩ := G0.out.2.2.1.tc3
  clear yf
  go_wp2_with fail
  refine (markRuleS_f X.n X.f a1 _ c1 (s) _ K1 _ (by first | rfl | (have := HC.out; omega)) G0.out.1 o1 (by have := HC.out; omega)).mono ?_
  rintro e w1 ⟨rfl, m1, cg⟩
  have G1 : Hid (Fit w1 (.list 7 X.n (fun i => trs (xrT (nmRu (s + sumN i (fun i => ctRu (X.f i))) (X.f i))))) K1 (.slice a1 l1 c1) ∧ Cg w w1 (fun b => K1.bl b) ∧ Blk w1 w.heap.size 28 (xcL X a1 l1 c1).toArray ∧ w.heap.size < w1.heap.size) := ⟨m1, G0.out.2.1.trans (cg.mono (fun b hb => by simp [hb])), (cg.block w.heap.size G0.out.2.2.2 (fun q => by have h9 := HN.out; first | exact absurd (h9.1 w.heap.size q) (Nat.lt_irrefl _) | (rcases q with q | q <;> first | exact absurd (h9.1 w.heap.size q) (Nat.lt_irrefl _) | exact absurd (h9.2.1 w.heap.size q) (Nat.lt_irrefl _) | exact absurd (h9.2.2.1 w.heap.size q) (Nat.lt_irrefl _)))).trans G0.out.2.2.1, Nat.lt_of_lt_of_le G0.out.2.2.2 cg.size⟩
  obtain ⟨k1, hk1⟩ : ∃ k1 : Nat, k1 = s + sumN X.n (fun i => ctRu (X.f i)) := ⟨_, rfl⟩
  rw [← hk1]
  have HK1 : Hid (k1 = s + sumN X.n (fun i => ctRu (X.f i))) := hk1
  clear hk1 cg m1 G0 y0 y1 y2
  have HE : Hid (((k1 : Nat) : Int) = ((s + csVC X : Nat) : Int)) := by show _ = _; have := HC.out; have := HK1.out; omega
  go_wp2
  go_ret
  exact ⟨congrArg (fun z => Ending.returned (Value.int .i64 z)) HE.out, G1.out.1, G1.out.2.1⟩
set_option maxRecDepth 20000 in
set_option maxHeartbeats 4000000 in
theorem markTable_f (X : VT) (a1 : Option Addr) (l1 c1 : Nat) (s : Nat) (x : Int) (K1 : Sk) (w : World) (hx : x = ((s : Nat) : Int)) (f1 : Fit w (.list 13 X.m (fun i => trs (dT (X.f i)))) K1 (.slice a1 l1 c1)) (o1 : K1.ok)  (hB : s + csVT X ≤ 1125899906842624) :
    Calls Try.prog 24 #[.agg (tL X a1 l1 c1).toArray, .int .i64 x] w fun e w' => e = .returned (.int .i64 ((s + csVT X : Nat) : Int)) ∧ Fit w' (.list 13 X.m (fun i => trs (dT (nmVD (s + sumN i (fun i => ctVD (X.f i))) (X.f i))))) K1 (.slice a1 l1 c1) ∧ Cg w w' (fun b => K1.bl b) := by
  subst hx
  obtain ⟨W, hW⟩ : ∃ W, W = w.alloc (.cells (tL X a1 l1 c1).toArray 31) := ⟨_, rfl⟩
  have bW : Below w.heap.size w W := by rw [hW]; exact bel_alloc _ _
  have HN : Hid ((∀ b, K1.bl b → b < w.heap.size) ∧ True) := ⟨fun b hb => f1.lt hb, trivial⟩
  have G0 : Hid (Fit W (.list 13 X.m (fun i => trs (dT (X.f i)))) K1 (.slice a1 l1 c1) ∧ Cg w W (fun b => K1.bl b) ∧ Blk W w.heap.size 31 (tL X a1 l1 c1).toArray ∧ w.heap.size < W.heap.size) := ⟨f1.below bW, Cg.ofBelow bW, by rw [hW]; exact Blk.new _ _ _, by rw [hW]; simp⟩
  have HC : Hid (csVT X = sumN X.m (fun i => ctVD (X.f i))) := rfl
  clear f1 bW
  go_enter Try.func24, Try.ntmps24
  go_upto_region 1 with fail
  rw [← hW]
  clear hW
  obtain ⟨⟨y0, y1⟩, yf⟩ := G0.out.2.2.1.tc2
  clear yf
  go_wp2_with fail
  refine (markPendS_f X.m X.f a1 _ c1 (s) _ K1 _ (by first | rfl | (have := HC.out; omega)) G0.out.1 o1 (by have := HC.out; omega)).mono ?_
  rintro e w1 ⟨rfl, m1, cg⟩
  have G1 : Hid (Fit w1 (.list 13 X.m (fun i => trs (dT (nmVD (s + sumN i (fun i => ctVD (X.f i))) (X.f i))))) K1 (.slice a1 l1 c1) ∧ Cg w w1 (fun b => K1.bl b) ∧ Blk w1 w.heap.size 31 (tL X a1 l1 c1).toArray ∧ w.heap.size < w1.heap.size) := ⟨m1, G0.out.2.1.trans (cg.mono (fun b hb => by simp [hb])), (cg.block w.heap.size G0.out.2.2.2 (fun q => by have h9 := HN.out; first | exact absurd (h9.1 w.heap.size q) (Nat.lt_irrefl _) | (rcases q with q | q <;> first | exact absurd (h9.1 w.heap.size q) (Nat.lt_irrefl _) | exact absurd (h9.2.1 w.heap.size q) (Nat.lt_irrefl _) | exact absurd (h9.2.2.1 w.heap.size q) (Nat.lt_irrefl _)))).trans G0.out.2.2.1, Nat.lt_of_lt_of_le G0.out.2.2.2 cg.size⟩
  obtain ⟨k1, hk1⟩ : ∃ k1 : Nat, k1 = s + sumN X.m (fun i => ctVD (X.f i)) := ⟨_, rfl⟩
  rw [← hk1]
  have HK1 : Hid (k1 = s + sumN X.m (fun i => ctVD (X.f i))) := hk1
  clear hk1 cg m1 G0 y0 y1
  have HE : Hid (((k1 : Nat) : Int) = ((s + csVT X : Nat) : Int)) := by show _ = _; have := HC.out; have := HK1.out; omega
  go_wp2
  go_ret
  exact ⟨congrArg (fun z => Ending.returned (Value.int .i64 z)) HE.out, G1.out.1, G1.out.2.1⟩
set_option maxRecDepth 20000 in
set_option maxHeartbeats 4000000 in
theorem markFabric_f (X : VF) (a1 : Option Addr) (l1 c1 : Nat) (a2 : Option Addr) (l2 c2 : Nat) (a3 : Option Addr) (l3 c3 : Nat) (s : Nat) (x : Int) (K1 K2 K3 : Sk) (w : World) (hx : x = ((s : Nat) : Int)) (f1 : Fit w (.list 7 X.set.n (fun i => trs (xrT (X.set.f i)))) K1 (.slice a1 l1 c1)) (f2 : Fit w (.list 13 X.op.m (fun i => trs (dT (X.op.f i)))) K2 (.slice a2 l2 c2)) (f3 : Fit w (.list 17 X.nl (fun i => trs (xnT (X.lf i)))) K3 (.slice a3 l3 c3)) (o1 : K1.ok) (o2 : K2.ok) (o3 : K3.ok) (d12 : ∀ b, K1.bl b → ¬ K2.bl b) (d13 : ∀ b, K1.bl b → ¬ K3.bl b) (d21 : ∀ b, K2.bl b → ¬ K1.bl b) (d23 : ∀ b, K2.bl b → ¬ K3.bl b) (d31 : ∀ b, K3.bl b → ¬ K1.bl b) (d32 : ∀ b, K3.bl b → ¬ K2.bl b) (hB : s + csVF X ≤ 1125899906842624) :
    Calls Try.prog 11 #[.agg (xfL X a1 l1 c1 a2 l2 c2 a3 l3 c3).toArray, .int .i64 x] w fun e w' => e = .returned (.int .i64 ((s + csVF X : Nat) : Int)) ∧ Fit w' (.list 7 X.set.n (fun i => trs (xrT (nmRu ((s) + sumN i (fun i => ctRu (X.set.f i))) (X.set.f i))))) K1 (.slice a1 l1 c1) ∧ Fit w' (.list 13 X.op.m (fun i => trs (dT (nmVD ((s + csVC X.set) + sumN i (fun i => ctVD (X.op.f i))) (X.op.f i))))) K2 (.slice a2 l2 c2) ∧ Fit w' (.list 17 X.nl (fun i => trs (xnT (nmVN (s + csVC X.set + csVT X.op + sumN i (fun i => ctVN (X.lf i))) (X.lf i))))) K3 (.slice a3 l3 c3) ∧ Cg w w' (fun b => K1.bl b ∨ K2.bl b ∨ K3.bl b) := by
  subst hx
  obtain ⟨W, hW⟩ : ∃ W, W = w.alloc (.cells (xfL X a1 l1 c1 a2 l2 c2 a3 l3 c3).toArray 34) := ⟨_, rfl⟩
  have bW : Below w.heap.size w W := by rw [hW]; exact bel_alloc _ _
  have HN : Hid ((∀ b, K1.bl b → b < w.heap.size) ∧ (∀ b, K2.bl b → b < w.heap.size) ∧ (∀ b, K3.bl b → b < w.heap.size) ∧ True) := ⟨fun b hb => f1.lt hb, fun b hb => f2.lt hb, fun b hb => f3.lt hb, trivial⟩
  have G0 : Hid (Fit W (.list 7 X.set.n (fun i => trs (xrT (X.set.f i)))) K1 (.slice a1 l1 c1) ∧ Fit W (.list 13 X.op.m (fun i => trs (dT (X.op.f i)))) K2 (.slice a2 l2 c2) ∧ Fit W (.list 17 X.nl (fun i => trs (xnT (X.lf i)))) K3 (.slice a3 l3 c3) ∧ Cg w W (fun b => K1.bl b ∨ K2.bl b ∨ K3.bl b) ∧ Blk W w.heap.size 34 (xfL X a1 l1 c1 a2 l2 c2 a3 l3 c3).toArray ∧ w.heap.size < W.heap.size) := ⟨f1.below bW, f2.below bW, f3.below bW, Cg.ofBelow bW, by rw [hW]; exact Blk.new _ _ _, by rw [hW]; simp⟩
  have HC : Hid (csVF X = csVC X.set + csVT X.op + sumN X.nl (fun i => ctVN (X.lf i))) := rfl
  clear f1 f2 f3 bW
  go_enter Try.func11, Try.ntmps11
  go_upto_region 1 with fail
  rw [← hW]
  clear hW
  obtain ⟨⟨y0, y1, y2, y3, y4, y5, y6, y7, y8, y9, y10⟩, yf⟩ := G0.out.2.2.2.2.1.tc11
  clear yf
  go_wp2_with fail
  refine (markConfig_f X.set a1 _ c1 (s) _ K1 _ (by first | rfl | (have := HC.out; omega)) G0.out.1 o1  (by have := HC.out; omega)).mono ?_
  rintro e w1 ⟨rfl, m1, cg⟩
  have G1 : Hid (Fit w1 (.list 7 X.set.n (fun i => trs (xrT (nmRu ((s) + sumN i (fun i => ctRu (X.set.f i))) (X.set.f i))))) K1 (.slice a1 l1 c1) ∧ Fit w1 (.list 13 X.op.m (fun i => trs (dT (X.op.f i)))) K2 (.slice a2 l2 c2) ∧ Fit w1 (.list 17 X.nl (fun i => trs (xnT (X.lf i)))) K3 (.slice a3 l3 c3) ∧ Cg w w1 (fun b => K1.bl b ∨ K2.bl b ∨ K3.bl b) ∧ Blk w1 w.heap.size 34 (xfL X a1 l1 c1 a2 l2 c2 a3 l3 c3).toArray ∧ w.heap.size < w1.heap.size) := ⟨m1, G0.out.2.1.cg cg (fun b hb hb9 => d21 b hb hb9), G0.out.2.2.1.cg cg (fun b hb hb9 => d31 b hb hb9), G0.out.2.2.2.1.trans (cg.mono (fun b hb => by simp [hb])), (cg.block w.heap.size G0.out.2.2.2.2.2 (fun q => by have h9 := HN.out; first | exact absurd (h9.1 w.heap.size q) (Nat.lt_irrefl _) | (rcases q with q | q <;> first | exact absurd (h9.1 w.heap.size q) (Nat.lt_irrefl _) | exact absurd (h9.2.1 w.heap.size q) (Nat.lt_irrefl _) | exact absurd (h9.2.2.1 w.heap.size q) (Nat.lt_irrefl _)))).trans G0.out.2.2.2.2.1, Nat.lt_of_lt_of_le G0.out.2.2.2.2.2 cg.size⟩
  obtain ⟨k1, hk1⟩ : ∃ k1 : Nat, k1 = s + csVC X.set := ⟨_, rfl⟩
  rw [← hk1]
  have HK1 : Hid (k1 = s + csVC X.set) := hk1
  clear hk1 cg m1 G0 y0 y1 y2 y3 y4 y5 y6 y7 y8 y9 y10
  obtain ⟨⟨y0, y1, y2, y3, y4, y5, y6, y7, y8, y9, y10⟩, yf⟩ := G1.out.2.2.2.2.1.tc11
  clear yf
  go_wp2_with fail
  refine (markTable_f X.op a2 _ c2 (s + csVC X.set) _ K2 _ (by first | rfl | (have := HC.out; have := HK1.out; omega)) G1.out.2.1 o2  (by have := HC.out; omega)).mono ?_
  rintro e w2 ⟨rfl, m2, cg⟩
  have G2 : Hid (Fit w2 (.list 7 X.set.n (fun i => trs (xrT (nmRu ((s) + sumN i (fun i => ctRu (X.set.f i))) (X.set.f i))))) K1 (.slice a1 l1 c1) ∧ Fit w2 (.list 13 X.op.m (fun i => trs (dT (nmVD ((s + csVC X.set) + sumN i (fun i => ctVD (X.op.f i))) (X.op.f i))))) K2 (.slice a2 l2 c2) ∧ Fit w2 (.list 17 X.nl (fun i => trs (xnT (X.lf i)))) K3 (.slice a3 l3 c3) ∧ Cg w w2 (fun b => K1.bl b ∨ K2.bl b ∨ K3.bl b) ∧ Blk w2 w.heap.size 34 (xfL X a1 l1 c1 a2 l2 c2 a3 l3 c3).toArray ∧ w.heap.size < w2.heap.size) := ⟨G1.out.1.cg cg (fun b hb hb9 => d12 b hb hb9), m2, G1.out.2.2.1.cg cg (fun b hb hb9 => d32 b hb hb9), G1.out.2.2.2.1.trans (cg.mono (fun b hb => by simp [hb])), (cg.block w.heap.size G1.out.2.2.2.2.2 (fun q => by have h9 := HN.out; first | exact absurd (h9.2.1 w.heap.size q) (Nat.lt_irrefl _) | (rcases q with q | q <;> first | exact absurd (h9.1 w.heap.size q) (Nat.lt_irrefl _) | exact absurd (h9.2.1 w.heap.size q) (Nat.lt_irrefl _) | exact absurd (h9.2.2.1 w.heap.size q) (Nat.lt_irrefl _)))).trans G1.out.2.2.2.2.1, Nat.lt_of_lt_of_le G1.out.2.2.2.2.2 cg.size⟩
  obtain ⟨k2, hk2⟩ : ∃ k2 : Nat, k2 = s + csVC X.set + csVT X.op := ⟨_, rfl⟩
  rw [← hk2]
  have HK2 : Hid (k2 = s + csVC X.set + csVT X.op) := hk2
  clear hk2 cg m2 G1 y0 y1 y2 y3 y4 y5 y6 y7 y8 y9 y10
  obtain ⟨⟨y0, y1, y2, y3, y4, y5, y6, y7, y8, y9, y10⟩, yf⟩ := G2.out.2.2.2.2.1.tc11
  clear yf
  go_wp2_with fail
  refine (markLineS_f X.nl X.lf a3 _ c3 (s + csVC X.set + csVT X.op) _ K3 _ (by first | rfl | (have := HC.out; have := HK1.out; have := HK2.out; omega)) G2.out.2.2.1 o3 (by have := HC.out; omega)).mono ?_
  rintro e w3 ⟨rfl, m3, cg⟩
  have G3 : Hid (Fit w3 (.list 7 X.set.n (fun i => trs (xrT (nmRu ((s) + sumN i (fun i => ctRu (X.set.f i))) (X.set.f i))))) K1 (.slice a1 l1 c1) ∧ Fit w3 (.list 13 X.op.m (fun i => trs (dT (nmVD ((s + csVC X.set) + sumN i (fun i => ctVD (X.op.f i))) (X.op.f i))))) K2 (.slice a2 l2 c2) ∧ Fit w3 (.list 17 X.nl (fun i => trs (xnT (nmVN (s + csVC X.set + csVT X.op + sumN i (fun i => ctVN (X.lf i))) (X.lf i))))) K3 (.slice a3 l3 c3) ∧ Cg w w3 (fun b => K1.bl b ∨ K2.bl b ∨ K3.bl b) ∧ Blk w3 w.heap.size 34 (xfL X a1 l1 c1 a2 l2 c2 a3 l3 c3).toArray ∧ w.heap.size < w3.heap.size) := ⟨G2.out.1.cg cg (fun b hb hb9 => d13 b hb hb9), G2.out.2.1.cg cg (fun b hb hb9 => d23 b hb hb9), m3, G2.out.2.2.2.1.trans (cg.mono (fun b hb => by simp [hb])), (cg.block w.heap.size G2.out.2.2.2.2.2 (fun q => by have h9 := HN.out; first | exact absurd (h9.2.2.1 w.heap.size q) (Nat.lt_irrefl _) | (rcases q with q | q <;> first | exact absurd (h9.1 w.heap.size q) (Nat.lt_irrefl _) | exact absurd (h9.2.1 w.heap.size q) (Nat.lt_irrefl _) | exact absurd (h9.2.2.1 w.heap.size q) (Nat.lt_irrefl _)))).trans G2.out.2.2.2.2.1, Nat.lt_of_lt_of_le G2.out.2.2.2.2.2 cg.size⟩
  obtain ⟨k3, hk3⟩ : ∃ k3 : Nat, k3 = s + csVC X.set + csVT X.op + sumN X.nl (fun i => ctVN (X.lf i)) := ⟨_, rfl⟩
  rw [← hk3]
  have HK3 : Hid (k3 = s + csVC X.set + csVT X.op + sumN X.nl (fun i => ctVN (X.lf i))) := hk3
  clear hk3 cg m3 G2 y0 y1 y2 y3 y4 y5 y6 y7 y8 y9 y10
  have HE : Hid (((k3 : Nat) : Int) = ((s + csVF X : Nat) : Int)) := by show _ = _; have := HC.out; have := HK3.out; omega
  go_wp2
  go_ret
  exact ⟨congrArg (fun z => Ending.returned (Value.int .i64 z)) HE.out, G3.out.1, G3.out.2.1, G3.out.2.2.1, G3.out.2.2.2.1⟩
set_option maxRecDepth 20000 in
set_option maxHeartbeats 4000000 in
theorem heldConfig_f (X : VC) (a1 : Option Addr) (l1 c1 : Nat) (s : Nat) (x : Int) (w : World) (hx : x = ((s : Nat) : Int)) (r1 : Rd w 0 (.list 7 X.n (fun i => trs (xrT (nmRu (s + sumN i (fun i => ctRu (X.f i))) (X.f i))))) (.slice a1 l1 c1)) (hB : s + csVC X ≤ 1125899906842624) :
    Calls Try.prog 26 #[.agg (xcL X a1 l1 c1).toArray, .int .i64 x] w fun e w' => e = .returned (.int .i64 ((s + csVC X : Nat) : Int)) ∧ Below w.heap.size w w' := by
  subst hx
  obtain ⟨W, hW⟩ : ∃ W, W = w.alloc (.cells (xcL X a1 l1 c1).toArray 28) := ⟨_, rfl⟩
  have G0 : Hid (Below w.heap.size w W ∧ Blk W w.heap.size 28 (xcL X a1 l1 c1).toArray) := ⟨by rw [hW]; exact bel_alloc _ _, by rw [hW]; exact Blk.new _ _ _⟩
  have HR : Hid (Rd w 0 (.list 7 X.n (fun i => trs (xrT (nmRu (s + sumN i (fun i => ctRu (X.f i))) (X.f i))))) (.slice a1 l1 c1) ∧ True) := ⟨r1, trivial⟩
  have HC : Hid (csVC X = sumN X.n (fun i => ctRu (X.f i))) := rfl
  clear r1
  go_enter Try.func26, Try.ntmps26
  go_upto_region 1 with fail
  rw [← hW]
  clear hW
  obtain ⟨⟨y0, y1, y2⟩, yf⟩ := G0.out.2.tc3
  clear yf
  go_wp2_with fail
  refine (heldRuleS_f X.n X.f a1 _ c1 (s) _ _ (by first | rfl | (have := HC.out; omega)) (HR.out.1.below G0.out.1) (by have := HC.out; omega)).mono ?_
  rintro e w1 ⟨rfl, hw9⟩
  have b9 : Below W.heap.size W w1 := by rw [hw9]; exact Below.refl _ _
  clear hw9
  have G1 : Hid (Below w.heap.size w w1 ∧ Blk w1 w.heap.size 28 (xcL X a1 l1 c1).toArray) := ⟨bel_nx G0.out.1 b9, G0.out.2.below b9⟩
  obtain ⟨k1, hk1⟩ : ∃ k1 : Nat, k1 = s + sumN X.n (fun i => ctRu (X.f i)) := ⟨_, rfl⟩
  rw [← hk1]
  have HK1 : Hid (k1 = s + sumN X.n (fun i => ctRu (X.f i))) := hk1
  have nn1 : ¬ ((k1 : Int) < 0) := by omega
  clear hk1 b9 G0 y0 y1 y2
  have HE : Hid (((k1 : Nat) : Int) = ((s + csVC X : Nat) : Int)) := by show _ = _; have := HC.out; have := HK1.out; omega
  go_wp2
  go_ret
  exact ⟨congrArg (fun z => Ending.returned (Value.int .i64 z)) HE.out, G1.out.1⟩
set_option maxRecDepth 20000 in
set_option maxHeartbeats 4000000 in
theorem heldTable_f (X : VT) (a1 : Option Addr) (l1 c1 : Nat) (s : Nat) (x : Int) (w : World) (hx : x = ((s : Nat) : Int)) (r1 : Rd w 0 (.list 13 X.m (fun i => trs (dT (nmVD (s + sumN i (fun i => ctVD (X.f i))) (X.f i))))) (.slice a1 l1 c1)) (hB : s + csVT X ≤ 1125899906842624) :
    Calls Try.prog 27 #[.agg (tL X a1 l1 c1).toArray, .int .i64 x] w fun e w' => e = .returned (.int .i64 ((s + csVT X : Nat) : Int)) ∧ Below w.heap.size w w' := by
  subst hx
  obtain ⟨W, hW⟩ : ∃ W, W = w.alloc (.cells (tL X a1 l1 c1).toArray 31) := ⟨_, rfl⟩
  have G0 : Hid (Below w.heap.size w W ∧ Blk W w.heap.size 31 (tL X a1 l1 c1).toArray) := ⟨by rw [hW]; exact bel_alloc _ _, by rw [hW]; exact Blk.new _ _ _⟩
  have HR : Hid (Rd w 0 (.list 13 X.m (fun i => trs (dT (nmVD (s + sumN i (fun i => ctVD (X.f i))) (X.f i))))) (.slice a1 l1 c1) ∧ True) := ⟨r1, trivial⟩
  have HC : Hid (csVT X = sumN X.m (fun i => ctVD (X.f i))) := rfl
  clear r1
  go_enter Try.func27, Try.ntmps27
  go_upto_region 1 with fail
  rw [← hW]
  clear hW
  obtain ⟨⟨y0, y1⟩, yf⟩ := G0.out.2.tc2
  clear yf
  go_wp2_with fail
  refine (heldPendS_f X.m X.f a1 _ c1 (s) _ _ (by first | rfl | (have := HC.out; omega)) (HR.out.1.below G0.out.1) (by have := HC.out; omega)).mono ?_
  rintro e w1 ⟨rfl, hw9⟩
  have b9 : Below W.heap.size W w1 := by rw [hw9]; exact Below.refl _ _
  clear hw9
  have G1 : Hid (Below w.heap.size w w1 ∧ Blk w1 w.heap.size 31 (tL X a1 l1 c1).toArray) := ⟨bel_nx G0.out.1 b9, G0.out.2.below b9⟩
  obtain ⟨k1, hk1⟩ : ∃ k1 : Nat, k1 = s + sumN X.m (fun i => ctVD (X.f i)) := ⟨_, rfl⟩
  rw [← hk1]
  have HK1 : Hid (k1 = s + sumN X.m (fun i => ctVD (X.f i))) := hk1
  have nn1 : ¬ ((k1 : Int) < 0) := by omega
  clear hk1 b9 G0 y0 y1
  have HE : Hid (((k1 : Nat) : Int) = ((s + csVT X : Nat) : Int)) := by show _ = _; have := HC.out; have := HK1.out; omega
  go_wp2
  go_ret
  exact ⟨congrArg (fun z => Ending.returned (Value.int .i64 z)) HE.out, G1.out.1⟩
set_option maxRecDepth 20000 in
set_option maxHeartbeats 4000000 in
theorem heldFabric_f (X : VF) (a1 : Option Addr) (l1 c1 : Nat) (a2 : Option Addr) (l2 c2 : Nat) (a3 : Option Addr) (l3 c3 : Nat) (s : Nat) (x : Int) (w : World) (hx : x = ((s : Nat) : Int)) (r1 : Rd w 0 (.list 7 X.set.n (fun i => trs (xrT (nmRu ((s) + sumN i (fun i => ctRu (X.set.f i))) (X.set.f i))))) (.slice a1 l1 c1)) (r2 : Rd w 0 (.list 13 X.op.m (fun i => trs (dT (nmVD ((s + csVC X.set) + sumN i (fun i => ctVD (X.op.f i))) (X.op.f i))))) (.slice a2 l2 c2)) (r3 : Rd w 0 (.list 17 X.nl (fun i => trs (xnT (nmVN (s + csVC X.set + csVT X.op + sumN i (fun i => ctVN (X.lf i))) (X.lf i))))) (.slice a3 l3 c3)) (hB : s + csVF X ≤ 1125899906842624) :
    Calls Try.prog 12 #[.agg (xfL X a1 l1 c1 a2 l2 c2 a3 l3 c3).toArray, .int .i64 x] w fun e w' => e = .returned (.int .i64 ((s + csVF X : Nat) : Int)) ∧ Below w.heap.size w w' := by
  subst hx
  obtain ⟨W, hW⟩ : ∃ W, W = w.alloc (.cells (xfL X a1 l1 c1 a2 l2 c2 a3 l3 c3).toArray 34) := ⟨_, rfl⟩
  have G0 : Hid (Below w.heap.size w W ∧ Blk W w.heap.size 34 (xfL X a1 l1 c1 a2 l2 c2 a3 l3 c3).toArray) := ⟨by rw [hW]; exact bel_alloc _ _, by rw [hW]; exact Blk.new _ _ _⟩
  have HR : Hid (Rd w 0 (.list 7 X.set.n (fun i => trs (xrT (nmRu ((s) + sumN i (fun i => ctRu (X.set.f i))) (X.set.f i))))) (.slice a1 l1 c1) ∧ Rd w 0 (.list 13 X.op.m (fun i => trs (dT (nmVD ((s + csVC X.set) + sumN i (fun i => ctVD (X.op.f i))) (X.op.f i))))) (.slice a2 l2 c2) ∧ Rd w 0 (.list 17 X.nl (fun i => trs (xnT (nmVN (s + csVC X.set + csVT X.op + sumN i (fun i => ctVN (X.lf i))) (X.lf i))))) (.slice a3 l3 c3) ∧ True) := ⟨r1, r2, r3, trivial⟩
  have HC : Hid (csVF X = csVC X.set + csVT X.op + sumN X.nl (fun i => ctVN (X.lf i))) := rfl
  clear r1 r2 r3
  go_enter Try.func12, Try.ntmps12
  go_upto_region 1 with fail
  rw [← hW]
  clear hW
  obtain ⟨⟨y0, y1, y2, y3, y4, y5, y6, y7, y8, y9, y10⟩, yf⟩ := G0.out.2.tc11
  clear yf
  go_wp2_with fail
  refine (heldConfig_f X.set a1 _ c1 (s) _ _ (by first | rfl | (have := HC.out; omega)) (HR.out.1.below G0.out.1) (by have := HC.out; omega)).mono ?_
  rintro e w1 ⟨rfl, b9⟩
  have G1 : Hid (Below w.heap.size w w1 ∧ Blk w1 w.heap.size 34 (xfL X a1 l1 c1 a2 l2 c2 a3 l3 c3).toArray) := ⟨bel_nx G0.out.1 b9, G0.out.2.below b9⟩
  obtain ⟨k1, hk1⟩ : ∃ k1 : Nat, k1 = s + csVC X.set := ⟨_, rfl⟩
  rw [← hk1]
  have HK1 : Hid (k1 = s + csVC X.set) := hk1
  have nn1 : ¬ ((k1 : Int) < 0) := by omega
  clear hk1 b9 G0 y0 y1 y2 y3 y4 y5 y6 y7 y8 y9 y10
  obtain ⟨⟨y0, y1, y2, y3, y4, y5, y6, y7, y8, y9, y10⟩, yf⟩ := G1.out.2.tc11
  clear yf
  go_wp2_with fail
  refine (heldTable_f X.op a2 _ c2 (s + csVC X.set) _ _ (by first | rfl | (have := HC.out; have := HK1.out; omega)) (HR.out.2.1.below G1.out.1) (by have := HC.out; omega)).mono ?_
  rintro e w2 ⟨rfl, b9⟩
  have G2 : Hid (Below w.heap.size w w2 ∧ Blk w2 w.heap.size 34 (xfL X a1 l1 c1 a2 l2 c2 a3 l3 c3).toArray) := ⟨bel_nx G1.out.1 b9, G1.out.2.below b9⟩
  obtain ⟨k2, hk2⟩ : ∃ k2 : Nat, k2 = s + csVC X.set + csVT X.op := ⟨_, rfl⟩
  rw [← hk2]
  have HK2 : Hid (k2 = s + csVC X.set + csVT X.op) := hk2
  have nn2 : ¬ ((k2 : Int) < 0) := by omega
  clear hk2 b9 G1 y0 y1 y2 y3 y4 y5 y6 y7 y8 y9 y10
  obtain ⟨⟨y0, y1, y2, y3, y4, y5, y6, y7, y8, y9, y10⟩, yf⟩ := G2.out.2.tc11
  clear yf
  go_wp2_with fail
  refine (heldLineS_f X.nl X.lf a3 _ c3 (s + csVC X.set + csVT X.op) _ _ (by first | rfl | (have := HC.out; have := HK1.out; have := HK2.out; omega)) (HR.out.2.2.1.below G2.out.1) (by have := HC.out; omega)).mono ?_
  rintro e w3 ⟨rfl, hw9⟩
  have b9 : Below w2.heap.size w2 w3 := by rw [hw9]; exact Below.refl _ _
  clear hw9
  have G3 : Hid (Below w.heap.size w w3 ∧ Blk w3 w.heap.size 34 (xfL X a1 l1 c1 a2 l2 c2 a3 l3 c3).toArray) := ⟨bel_nx G2.out.1 b9, G2.out.2.below b9⟩
  obtain ⟨k3, hk3⟩ : ∃ k3 : Nat, k3 = s + csVC X.set + csVT X.op + sumN X.nl (fun i => ctVN (X.lf i)) := ⟨_, rfl⟩
  rw [← hk3]
  have HK3 : Hid (k3 = s + csVC X.set + csVT X.op + sumN X.nl (fun i => ctVN (X.lf i))) := hk3
  have nn3 : ¬ ((k3 : Int) < 0) := by omega
  clear hk3 b9 G2 y0 y1 y2 y3 y4 y5 y6 y7 y8 y9 y10
  have HE : Hid (((k3 : Nat) : Int) = ((s + csVF X : Nat) : Int)) := by show _ = _; have := HC.out; have := HK3.out; omega
  go_wp2
  go_ret
  exact ⟨congrArg (fun z => Ending.returned (Value.int .i64 z)) HE.out, G3.out.1⟩
theorem markConfig_o (X : VC) (a1 : Option Addr) (l1 c1 : Nat) (s lo hi : Nat) (x : Int) (w : World) (hx : x = ((s : Nat) : Int)) (h : Own1 w lo hi (xcT X) (xcL X a1 l1 c1)) (hB : s + csVC X ≤ 1125899906842624) :
    Calls Try.prog 10 #[.agg (xcL X a1 l1 c1).toArray, .int .i64 x] w fun e w' => e = .returned (.int .i64 ((s + csVC X : Nat) : Int)) ∧ Own1 w' lo hi (xcT (nsVC s X)) (xcL X a1 l1 c1) ∧ Cg w w' (fun b => lo ≤ b ∧ b < hi) := by
  obtain ⟨K, h1, h2, h3, h4⟩ := h
  refine (markConfig_f X a1 _ c1 s x (K 2) w hx (h2 2 _ rfl) (h3 2 (show 2 < (xcT X).length by simp [xcT])).1  hB).mono ?_
  rintro e w' ⟨rfl, m1, cg⟩
  refine ⟨rfl, ⟨K, rfl, fun i v hv => ?_, h3, h4⟩, cg.mono (fun b hb => ?_)⟩
  · match i, hv with
    | 0, hv => have q := h2 0 v hv; exact q
    | 1, hv => have q := h2 1 v hv; exact q
    | 2, hv => obtain rfl := Option.some.inj (show some _ = some v from hv); exact m1
    | i + 3, hv => simp at hv
  · exact (h3 2 (show 2 < (xcT X).length by simp [xcT])).2 b hb
theorem markFabric_o (X : VF) (a1 : Option Addr) (l1 c1 : Nat) (a2 : Option Addr) (l2 c2 : Nat) (a3 : Option Addr) (l3 c3 : Nat) (s lo hi : Nat) (x : Int) (w : World) (hx : x = ((s : Nat) : Int)) (h : Own1 w lo hi (xfT X) (xfL X a1 l1 c1 a2 l2 c2 a3 l3 c3)) (hB : s + csVF X ≤ 1125899906842624) :
    Calls Try.prog 11 #[.agg (xfL X a1 l1 c1 a2 l2 c2 a3 l3 c3).toArray, .int .i64 x] w fun e w' => e = .returned (.int .i64 ((s + csVF X : Nat) : Int)) ∧ Own1 w' lo hi (xfT (nsVF s X)) (xfL X a1 l1 c1 a2 l2 c2 a3 l3 c3) ∧ Cg w w' (fun b => lo ≤ b ∧ b < hi) := by
  obtain ⟨K, h1, h2, h3, h4⟩ := h
  refine (markFabric_f X a1 _ c1 a2 _ c2 a3 _ c3 s x (K 3) (K 5) (K 6) w hx (h2 3 _ rfl) (h2 5 _ rfl) (h2 6 _ rfl) (h3 3 (show 3 < (xfT X).length by simp [xfT])).1 (h3 5 (show 5 < (xfT X).length by simp [xfT])).1 (h3 6 (show 6 < (xfT X).length by simp [xfT])).1 (h4 3 5 (show 3 < (xfT X).length by simp [xfT]) (show 5 < (xfT X).length by simp [xfT]) (by decide)) (h4 3 6 (show 3 < (xfT X).length by simp [xfT]) (show 6 < (xfT X).length by simp [xfT]) (by decide)) (h4 5 3 (show 5 < (xfT X).length by simp [xfT]) (show 3 < (xfT X).length by simp [xfT]) (by decide)) (h4 5 6 (show 5 < (xfT X).length by simp [xfT]) (show 6 < (xfT X).length by simp [xfT]) (by decide)) (h4 6 3 (show 6 < (xfT X).length by simp [xfT]) (show 3 < (xfT X).length by simp [xfT]) (by decide)) (h4 6 5 (show 6 < (xfT X).length by simp [xfT]) (show 5 < (xfT X).length by simp [xfT]) (by decide)) hB).mono ?_
  rintro e w' ⟨rfl, m1, m2, m3, cg⟩
  refine ⟨rfl, ⟨K, rfl, fun i v hv => ?_, h3, h4⟩, cg.mono (fun b hb => ?_)⟩
  · match i, hv with
    | 0, hv => have q := h2 0 v hv; exact q
    | 1, hv => have q := h2 1 v hv; exact q
    | 2, hv => have q := h2 2 v hv; exact q
    | 3, hv => obtain rfl := Option.some.inj (show some _ = some v from hv); exact m1
    | 4, hv => have q := h2 4 v hv; exact q
    | 5, hv => obtain rfl := Option.some.inj (show some _ = some v from hv); exact m2
    | 6, hv => obtain rfl := Option.some.inj (show some _ = some v from hv); exact m3
    | 7, hv => have q := h2 7 v hv; exact q
    | 8, hv => have q := h2 8 v hv; exact q
    | 9, hv => have q := h2 9 v hv; exact q
    | 10, hv => have q := h2 10 v hv; exact q
    | i + 11, hv => simp at hv
  · rcases hb with hb | hb | hb
    · exact (h3 3 (show 3 < (xfT X).length by simp [xfT])).2 b hb
    · exact (h3 5 (show 5 < (xfT X).length by simp [xfT])).2 b hb
    · exact (h3 6 (show 6 < (xfT X).length by simp [xfT])).2 b hb
theorem heldFabric_o (X : VF) (a1 : Option Addr) (l1 c1 : Nat) (a2 : Option Addr) (l2 c2 : Nat) (a3 : Option Addr) (l3 c3 : Nat) (s lo hi : Nat) (x : Int) (w : World) (hx : x = ((s : Nat) : Int)) (h : Own1 w lo hi (xfT (nsVF s X)) (xfL X a1 l1 c1 a2 l2 c2 a3 l3 c3)) (hB : s + csVF X ≤ 1125899906842624) :
    Calls Try.prog 12 #[.agg (xfL X a1 l1 c1 a2 l2 c2 a3 l3 c3).toArray, .int .i64 x] w fun e w' => e = .returned (.int .i64 ((s + csVF X : Nat) : Int)) ∧ Below w.heap.size w w' :=
  heldFabric_f X a1 _ c1 a2 _ c2 a3 _ c3 s x w hx ((h.rd0 3 _ rfl)) ((h.rd0 5 _ rfl)) ((h.rd0 6 _ rfl)) hB
theorem eqFabric_o (X : VF) (a1 : Option Addr) (l1 c1 : Nat) (a2 : Option Addr) (l2 c2 : Nat) (a3 : Option Addr) (l3 c3 : Nat) (a1' : Option Addr) (c1' : Nat) (a2' : Option Addr) (c2' : Nat) (a3' : Option Addr) (c3' : Nat) (lo hi : Nat) (w : World) (h : Own1 w lo hi (xfT X) (xfL X a1 l1 c1 a2 l2 c2 a3 l3 c3)) (r1' : Rd w 0 (.list 7 X.set.n (fun i => trs (xrT (X.set.f i)))) (.slice a1' l1 c1')) (r2' : Rd w 0 (.list 13 X.op.m (fun i => trs (dT (X.op.f i)))) (.slice a2' l2 c2')) (r3' : Rd w 0 (.list 17 X.nl (fun i => trs (xnT (X.lf i)))) (.slice a3' l3 c3')) (hz : szT 11 (trs (xfT X)) ≤ 1048576) :
    Calls Try.prog 8 #[.agg (xfL X a1 l1 c1 a2 l2 c2 a3 l3 c3).toArray, .agg (xfL X a1' l1 c1' a2' l2 c2' a3' l3 c3').toArray] w fun e w' => e = .returned (.bool true) ∧ Below w.heap.size w w' :=
  eqFabric_t X a1 l1 c1 a2 l2 c2 a3 l3 c3 a1' c1' a2' c2' a3' c3' w (h.rd0 3 _ rfl) (h.rd0 5 _ rfl) (h.rd0 6 _ rfl) r1' r2' r3' hz
end Go.Proofs.Ytccffbbboodolaa
namespace Go.Proofs.Ytccffbbboodolaa
open Go.RowKit Go.Joins
set_option linter.unusedVariables false
set_option linter.unusedSimpArgs false
def lnV (wt tr : Int) : VN := ⟨0, fun _ => default, false, ⟨0, 0, 0, ⟨0, 0, 0, [], [], 0⟩⟩, 0, 0, 0, 0, wt, tr⟩
def nwF (ok : Bool) (wt tr : Int) (n : Nat) (f : Nat → Ru) : VF := match ok with
  | true => ⟨0, ⟨wt, tr, n, f⟩, ⟨0, 0, fun _ => default⟩, 6, fun _ => lnV wt tr, 0, 0, 0, 0⟩
  | false => ⟨0, ⟨0, 0, 0, f⟩, ⟨0, 0, fun _ => default⟩, 0, fun _ => lnV wt tr, 0, 0, 0, 0⟩
theorem fit_no {w : World} {s : Nat} {f : Nat → Nat → Tr} {a : Option Addr} {c : Nat} : Fit w (.list s 0 f) .leaf (.slice a 0 c) := ⟨rfl, a, c, rfl⟩
theorem RowU.fit {w : World} {g n c : Nat} {f : Nat → Ru} (h : RowU w g n f) (hn : n ≤ maxLen) (hc : n ≤ c) : Fit w (.list 7 n (fun i => trs (xrT (f i)))) (.row g 0 7 n (fun _ _ => .leaf)) (.slice (some ⟨g, 0, none⟩) n c) := by
  refine ⟨rfl, rfl, c, rfl, hc, hn, h.lt, h.fro, fun k j hk hj => ?_⟩
  match j, hj with
  | 0, _ => exact ⟨_, (by rw [Nat.zero_add, h.cell hk (by decide)]; rfl), rfl, rfl⟩
  | 1, _ => exact ⟨_, (by rw [Nat.zero_add, h.cell hk (by decide)]; rfl), rfl, rfl⟩
  | 2, _ => exact ⟨_, (by rw [Nat.zero_add, h.cell hk (by decide)]; rfl), rfl, rfl⟩
  | 3, _ => exact ⟨_, (by rw [Nat.zero_add, h.cell hk (by decide)]; rfl), rfl, rfl⟩
  | 4, _ => exact ⟨_, (by rw [Nat.zero_add, h.cell hk (by decide)]; rfl), rfl, rfl⟩
  | 5, _ => exact ⟨_, (by rw [Nat.zero_add, h.cell hk (by decide)]; rfl), rfl, rfl⟩
  | 6, _ => exact ⟨_, (by rw [Nat.zero_add, h.cell hk (by decide)]; rfl), rfl, rfl⟩
theorem RowL.fit {w : World} {g : Nat} {wt tr : Int} (h : RowS w g 52 17 6 (fun _ => lnL wt tr)) : Fit w (.list 17 6 (fun i => trs (xnT (lnV wt tr)))) (.row g 0 17 6 (fun _ _ => .leaf)) (.slice (some ⟨g, 0, none⟩) 6 6) := by
  refine ⟨rfl, rfl, 6, rfl, Nat.le_refl _, by decide, h.lt, h.fro, fun k j hk hj => ?_⟩
  match j, hj with
  | 0, _ => exact ⟨_, (by rw [Nat.zero_add, h.cell hk (by decide)]; rfl), fit_no⟩
  | 1, _ => exact ⟨_, (by rw [Nat.zero_add, h.cell hk (by decide)]; rfl), rfl, rfl⟩
  | 2, _ => exact ⟨_, (by rw [Nat.zero_add, h.cell hk (by decide)]; rfl), rfl, rfl⟩
  | 3, _ => exact ⟨_, (by rw [Nat.zero_add, h.cell hk (by decide)]; rfl), rfl, rfl⟩
  | 4, _ => exact ⟨_, (by rw [Nat.zero_add, h.cell hk (by decide)]; rfl), rfl, rfl⟩
  | 5, _ => exact ⟨_, (by rw [Nat.zero_add, h.cell hk (by decide)]; rfl), rfl, rfl⟩
  | 6, _ => exact ⟨_, (by rw [Nat.zero_add, h.cell hk (by decide)]; rfl), rfl, rfl⟩
  | 7, _ => exact ⟨_, (by rw [Nat.zero_add, h.cell hk (by decide)]; rfl), rfl, rfl⟩
  | 8, _ => exact ⟨_, (by rw [Nat.zero_add, h.cell hk (by decide)]; rfl), fit_no⟩
  | 9, _ => exact ⟨_, (by rw [Nat.zero_add, h.cell hk (by decide)]; rfl), fit_no⟩
  | 10, _ => exact ⟨_, (by rw [Nat.zero_add, h.cell hk (by decide)]; rfl), rfl, rfl⟩
  | 11, _ => exact ⟨_, (by rw [Nat.zero_add, h.cell hk (by decide)]; rfl), rfl, rfl⟩
  | 12, _ => exact ⟨_, (by rw [Nat.zero_add, h.cell hk (by decide)]; rfl), rfl, rfl⟩
  | 13, _ => exact ⟨_, (by rw [Nat.zero_add, h.cell hk (by decide)]; rfl), rfl, rfl⟩
  | 14, _ => exact ⟨_, (by rw [Nat.zero_add, h.cell hk (by decide)]; rfl), rfl, rfl⟩
  | 15, _ => exact ⟨_, (by rw [Nat.zero_add, h.cell hk (by decide)]; rfl), rfl, rfl⟩
  | 16, _ => exact ⟨_, (by rw [Nat.zero_add, h.cell hk (by decide)]; rfl), rfl, rfl⟩
  | j + 17, hj => exact absurd hj (by omega)
theorem sk_row {g s n b : Nat} (h : (Sk.row g 0 s n (fun _ _ => .leaf)).bl b) : b = g := by
  rcases h with h | ⟨_, _, _, _, h⟩
  · exact h
  · exact h.elim
theorem sk_ok (g s n : Nat) : (Sk.row g 0 s n (fun _ _ => .leaf)).ok := ⟨fun _ _ _ _ => ⟨trivial, fun x => x⟩, fun _ _ _ _ _ _ _ _ _ _ x => x.elim⟩
set_option maxHeartbeats 2000000 in
theorem fbQ_own {w w' : World} {e : Ending} {ok : Bool} {wt tr : Int} {n : Nat} {f : Nat → Ru} (h : FbQ w w' e ok wt tr n f) (hn : ok = true → n ≤ 24) :
    ∃ a1 c1 a2 c2 a3 c3, e = .returned (.agg (xfL (nwF ok wt tr n f) a1 (nwF ok wt tr n f).set.n c1 a2 (nwF ok wt tr n f).op.m c2 a3 (nwF ok wt tr n f).nl c3).toArray) ∧ Own1 w' w.heap.size w'.heap.size (xfT (nwF ok wt tr n f)) (xfL (nwF ok wt tr n f) a1 (nwF ok wt tr n f).set.n c1 a2 (nwF ok wt tr n f).op.m c2 a3 (nwF ok wt tr n f).nl c3) ∧ Below w.heap.size w w' := by
  obtain ⟨hb, ⟨rfl, he⟩ | ⟨rfl, g, h, he, rU, rL, h1, h2⟩⟩ := h
  · refine ⟨none, 0, none, 0, none, 0, he, ⟨fun _ => .leaf, rfl, fun i v hv => ?_, fun i _ => ⟨trivial, fun b hb => hb.elim⟩, fun i i' _ _ _ b hb => hb.elim⟩, hb⟩
    match i, hv with
    | 0, hv => obtain rfl := Option.some.inj (show some _ = some v from hv); exact ⟨rfl, rfl⟩
    | 1, hv => obtain rfl := Option.some.inj (show some _ = some v from hv); exact ⟨rfl, rfl⟩
    | 2, hv => obtain rfl := Option.some.inj (show some _ = some v from hv); exact ⟨rfl, rfl⟩
    | 3, hv => obtain rfl := Option.some.inj (show some _ = some v from hv); exact fit_no
    | 4, hv => obtain rfl := Option.some.inj (show some _ = some v from hv); exact ⟨rfl, rfl⟩
    | 5, hv => obtain rfl := Option.some.inj (show some _ = some v from hv); exact fit_no
    | 6, hv => obtain rfl := Option.some.inj (show some _ = some v from hv); exact fit_no
    | 7, hv => obtain rfl := Option.some.inj (show some _ = some v from hv); exact ⟨rfl, rfl⟩
    | 8, hv => obtain rfl := Option.some.inj (show some _ = some v from hv); exact ⟨rfl, rfl⟩
    | 9, hv => obtain rfl := Option.some.inj (show some _ = some v from hv); exact ⟨rfl, rfl⟩
    | 10, hv => obtain rfl := Option.some.inj (show some _ = some v from hv); exact ⟨rfl, rfl⟩
    | i + 11, hv => simp at hv
  · have hne := rowS_ne rU rL (by decide)
    have hn' := hn rfl
    have hm9 : n ≤ maxLen := by unfold maxLen; omega
    refine ⟨_, _, none, 0, _, _, he, ⟨fun i => if i = 3 then .row g 0 7 n (fun _ _ => .leaf) else if i = 6 then .row h 0 17 6 (fun _ _ => .leaf) else .leaf, rfl, fun i v hv => ?_, fun i _ => ?_, fun i i' _ _ hii b hb hb' => ?_⟩, hb⟩
    · match i, hv with
      | 0, hv => obtain rfl := Option.some.inj (show some _ = some v from hv); exact ⟨rfl, rfl⟩
      | 1, hv => obtain rfl := Option.some.inj (show some _ = some v from hv); exact ⟨rfl, rfl⟩
      | 2, hv => obtain rfl := Option.some.inj (show some _ = some v from hv); exact ⟨rfl, rfl⟩
      | 3, hv => obtain rfl := Option.some.inj (show some _ = some v from hv); exact RowU.fit rU hm9 (Nat.le_refl n)
      | 4, hv => obtain rfl := Option.some.inj (show some _ = some v from hv); exact ⟨rfl, rfl⟩
      | 5, hv => obtain rfl := Option.some.inj (show some _ = some v from hv); exact fit_no
      | 6, hv => obtain rfl := Option.some.inj (show some _ = some v from hv); exact RowL.fit rL
      | 7, hv => obtain rfl := Option.some.inj (show some _ = some v from hv); exact ⟨rfl, rfl⟩
      | 8, hv => obtain rfl := Option.some.inj (show some _ = some v from hv); exact ⟨rfl, rfl⟩
      | 9, hv => obtain rfl := Option.some.inj (show some _ = some v from hv); exact ⟨rfl, rfl⟩
      | 10, hv => obtain rfl := Option.some.inj (show some _ = some v from hv); exact ⟨rfl, rfl⟩
      | i + 11, hv => simp at hv
    · by_cases e3 : i = 3
      · subst e3; exact ⟨sk_ok _ _ _, fun b hb => by rw [sk_row hb]; exact ⟨h1, RowS.lt rU⟩⟩
      · by_cases e6 : i = 6
        · subst e6; exact ⟨sk_ok _ _ _, fun b hb => by rw [sk_row hb]; exact ⟨h2, RowS.lt rL⟩⟩
        · simp only [if_neg e3, if_neg e6]; exact ⟨trivial, fun b hb => hb.elim⟩
    · dsimp only at hb hb'
      by_cases e3 : i = 3
      · subst e3
        rw [if_pos rfl] at hb
        have q := sk_row hb
        rw [if_neg (fun q => hii q.symm)] at hb'
        by_cases e6 : i' = 6
        · rw [if_pos e6] at hb'; exact hne (q.symm.trans (sk_row hb'))
        · rw [if_neg e6] at hb'; exact hb'
      · rw [if_neg e3] at hb
        by_cases e6 : i = 6
        · subst e6
          rw [if_pos rfl] at hb
          have q := sk_row hb
          by_cases e3' : i' = 3
          · rw [if_pos e3'] at hb'; exact hne ((sk_row hb').symm.trans q)
          · rw [if_neg e3', if_neg (fun q => hii q.symm)] at hb'; exact hb'
        · rw [if_neg e6] at hb; exact hb
theorem rd_no {w : World} {lo s : Nat} {f : Nat → Nat → Tr} {a : Option Addr} {c : Nat} : Rd w lo (.list s 0 f) (.slice a 0 c) := ⟨a, c, rfl, Nat.zero_le _, Nat.zero_le _, .inl rfl⟩
set_option maxHeartbeats 2000000 in
theorem fbS_rd {w w' : World} {e : Ending} {ok : Bool} {wt tr : Int} {n : Nat} {f : Nat → Ru} (h : FbS w w' e ok wt tr n f) :
    ∃ a1 c1 a2 c2 a3 c3, e = .returned (.agg (xfL (nwF ok wt tr n f) a1 (nwF ok wt tr n f).set.n c1 a2 (nwF ok wt tr n f).op.m c2 a3 (nwF ok wt tr n f).nl c3).toArray) ∧ Rd w' 0 (.list 7 (nwF ok wt tr n f).set.n (fun i => trs (xrT ((nwF ok wt tr n f).set.f i)))) (.slice a1 (nwF ok wt tr n f).set.n c1) ∧ Rd w' 0 (.list 13 (nwF ok wt tr n f).op.m (fun i => trs (dT ((nwF ok wt tr n f).op.f i)))) (.slice a2 (nwF ok wt tr n f).op.m c2) ∧ Rd w' 0 (.list 17 (nwF ok wt tr n f).nl (fun i => trs (xnT ((nwF ok wt tr n f).lf i)))) (.slice a3 (nwF ok wt tr n f).nl c3) ∧ Below w.heap.size w w' := by
  obtain ⟨hb, ⟨rfl, he⟩ | ⟨rfl, a1, c1, a3, c3, he, rU, rL⟩⟩ := h
  · exact ⟨none, 0, none, 0, none, 0, he, rd_no, rd_no, rd_no, hb⟩
  · refine ⟨a1, c1, none, 0, a3, c3, he, ?_, rd_no, ?_, hb⟩
    · refine row_rd rU (fun k => rul (f k)) (fun k hk => ⟨rfl, fun j hj => flatS_at (F := fun k => rul (f k)) hk hj rfl⟩) (fun k hk j x hx => ?_)
      match j, hx with
      | 0, hx => obtain rfl := Option.some.inj (show some _ = some x from hx); rfl
      | 1, hx => obtain rfl := Option.some.inj (show some _ = some x from hx); rfl
      | 2, hx => obtain rfl := Option.some.inj (show some _ = some x from hx); rfl
      | 3, hx => obtain rfl := Option.some.inj (show some _ = some x from hx); rfl
      | 4, hx => obtain rfl := Option.some.inj (show some _ = some x from hx); rfl
      | 5, hx => obtain rfl := Option.some.inj (show some _ = some x from hx); rfl
      | 6, hx => obtain rfl := Option.some.inj (show some _ = some x from hx); rfl
      | j + 7, hx => simp at hx
    · refine row_rd rL (fun _ => lnL wt tr) (fun k hk => ⟨rfl, fun j hj => lnsX_at wt tr 6 k j hk hj⟩) (fun k hk j x hx => ?_)
      match j, hx with
      | 0, hx => obtain rfl := Option.some.inj (show some _ = some x from hx); exact rd_no
      | 1, hx => obtain rfl := Option.some.inj (show some _ = some x from hx); exact rfl
      | 2, hx => obtain rfl := Option.some.inj (show some _ = some x from hx); exact rfl
      | 3, hx => obtain rfl := Option.some.inj (show some _ = some x from hx); exact rfl
      | 4, hx => obtain rfl := Option.some.inj (show some _ = some x from hx); exact rfl
      | 5, hx => obtain rfl := Option.some.inj (show some _ = some x from hx); exact rfl
      | 6, hx => obtain rfl := Option.some.inj (show some _ = some x from hx); exact rfl
      | 7, hx => obtain rfl := Option.some.inj (show some _ = some x from hx); exact rfl
      | 8, hx => obtain rfl := Option.some.inj (show some _ = some x from hx); exact rd_no
      | 9, hx => obtain rfl := Option.some.inj (show some _ = some x from hx); exact rd_no
      | 10, hx => obtain rfl := Option.some.inj (show some _ = some x from hx); exact rfl
      | 11, hx => obtain rfl := Option.some.inj (show some _ = some x from hx); exact rfl
      | 12, hx => obtain rfl := Option.some.inj (show some _ = some x from hx); exact rfl
      | 13, hx => obtain rfl := Option.some.inj (show some _ = some x from hx); exact rfl
      | 14, hx => obtain rfl := Option.some.inj (show some _ = some x from hx); exact rfl
      | 15, hx => obtain rfl := Option.some.inj (show some _ = some x from hx); exact rfl
      | 16, hx => obtain rfl := Option.some.inj (show some _ = some x from hx); exact rfl
      | j + 17, hx => simp at hx
theorem sumN_c (g : Nat → Nat) (c : Nat) (h : ∀ k, g k ≤ c) : ∀ n, sumN n g ≤ n * c
  | 0 => by simp [sumN]
  | n + 1 => by
    have := sumN_c g c h n
    have := h n
    simp only [sumN, Nat.add_mul, Nat.one_mul]
    omega
theorem nwF_sz (ok : Bool) (wt tr : Int) (n : Nat) (f : Nat → Ru) (hn : ok = true → n ≤ 24) : szT 11 (trs (xfT (nwF ok wt tr n f))) ≤ 1048576 ∧ csVF (nwF ok wt tr n f) ≤ 100000 := by
  have hl : szT 17 (trs (xnT (lnV wt tr))) = 0 := by rw [szT_xn]; rfl
  have hc : ctVN (lnV wt tr) ≤ 100 := by
    simp [ctVN, ctVL, ctVQ, lnV, sumN]
  have hr : ∀ k, ctRu (f k) ≤ 7 := fun k => by simp [ctRu]
  cases ok with
  | false =>
    rw [szT_xf]
    exact ⟨by show 0 + 0 + 0 ≤ _; omega, by show 0 + 0 + 0 ≤ _; omega⟩
  | true =>
    have hn' := hn rfl
    have h1 : (Tr.list 7 n (fun i => trs (xrT (f i)))).sz = n := by rw [Tr.sz_list, sum0 _ _ (fun k => szT_xr _)]; rfl
    have h2 : (Tr.list 17 6 (fun i => trs (xnT (lnV wt tr)))).sz = 6 := by rw [Tr.sz_list, sum0 _ _ (fun k => hl)]
    have h3 := sumN_c (fun k => ctRu (f k)) 7 hr n
    have h4 := sumN_c (fun _ => ctVN (lnV wt tr)) 100 (fun _ => hc) 6
    rw [szT_xf]
    refine ⟨?_, ?_⟩
    · show (Tr.list 7 n (fun i => trs (xrT (f i)))).sz + 0 + (Tr.list 17 6 (fun i => trs (xnT (lnV wt tr)))).sz ≤ _
      rw [h1, h2]; omega
    · show sumN n (fun k => ctRu (f k)) + 0 + sumN 6 (fun _ => ctVN (lnV wt tr)) ≤ _
      omega
theorem wrX (v0 v1 v2 v3 v4 v5 v6 v7 v8 v9 v10 : Value) : wrA fz 0 [v0, v1, v2, v3, v4, v5, v6, v7, v8, v9, v10] = #[v0, v1, v2, v3, v4, v5, v6, v7, v8, v9, v10] := by simp [wrA]
theorem Blk.cgX {w w' : World} {S : Nat → Prop} {b : Nat} {t : TypeId} {cs : Array Value} (h : Blk w b t cs) (hc : Cg w w' S) (hn : ¬ S b) : Blk w' b t cs := (hc.block b h.lt hn).trans h
set_option maxRecDepth 20000 in
set_option maxHeartbeats 8000000 in
theorem fabricNew_law (wt tr : Int) (a : Option Addr) (n cap : Nat) (f : Nat → Ru) (w : World) (hs : SlU w a n f) (hl : n ≤ 1048576) (h64 : ∀ k, k < n → -9223372036854775808 ≤ (f k).sh ∧ (f k).sh ≤ 9223372036854775807) :
    Calls Try.prog 3 #[.agg (cfc wt tr a n cap)] w fun e w' => e = .returned (.bool true) ∧ Below w.heap.size w w' := by
  obtain ⟨b, hb⟩ : ∃ b : Bool, b = true ↔ OkRs f n := by
    by_cases h : OkRs f n
    · exact ⟨true, fun _ => h, fun _ => rfl⟩
    · exact ⟨false, ⟨fun e => Bool.noConfusion e, fun e => absurd e h⟩⟩
  have hn24 : okC wt tr b = true → n ≤ 24 := fun h => by
    unfold okC at h
    rw [Bool.and_eq_true] at h
    exact (hb.1 h.2).1
  obtain ⟨X, hX⟩ : ∃ X, X = nwF (okC wt tr b) wt tr n f := ⟨_, rfl⟩
  have HB : Hid ((b = true ↔ OkRs f n) ∧ (okC wt tr b = true → n ≤ 24) ∧ X = nwF (okC wt tr b) wt tr n f ∧ szT 11 (trs (xfT X)) ≤ 1048576 ∧ csVF X ≤ 100000) := ⟨hb, hn24, hX, by rw [hX]; exact (nwF_sz _ _ _ _ _ hn24).1, by rw [hX]; exact (nwF_sz _ _ _ _ _ hn24).2⟩
  have H64 : Hid (∀ k, k < n → -9223372036854775808 ≤ (f k).sh ∧ (f k).sh ≤ 9223372036854775807) := h64
  have HL : Hid (n ≤ 2000000) := by show n ≤ 2000000; omega
  have HS := hide hs
  have hnn : ¬ (((1048576 - n : Nat) : Int) < 0) := by omega
  obtain ⟨BA, hBA⟩ : ∃ B, B = w.heap.size := ⟨_, rfl⟩
  have HBA : Hid (BA = w.heap.size) := hBA
  have b0 := bel_alloc w (.cells (cfc wt tr a n cap) 24)
  have A0 := Blk.new w (cfc wt tr a n cap) 24
  obtain ⟨⟨x0, x1, x2⟩, _⟩ := A0.thr
  go_enter Try.func3, Try.ntmps3
  go_wp2_with fail
  refine (szConfig_fits wt tr a n cap _ hl).mono ?_
  rintro e w1 ⟨rfl, b'⟩
  have b1 := bel_next b0 b'
  have A1 := A0.below b'
  rw [← hBA] at A1 x0 x1 x2 ⊢
  clear b' b0 A0 x0 x1 x2 hb h64 hs hn24 hX hBA
  obtain ⟨⟨x0, x1, x2⟩, _⟩ := A1.thr
  go_wp2_with fail
  refine (toConfig_any wt tr a n cap f _ (SlS.below HS.out b1) HL.out).mono ?_
  rintro e w2 ⟨g1, rfl, R2, _, b'⟩
  have b2 := bel_next b1 b'
  have A2 := A1.below b'
  clear b' b1 A1 x0 x1 x2
  have SS := hide R2.sl
  clear R2
  go_wp2_with fail
  refine (specFabricNew_any wt tr _ n n f _ SS.out HL.out b HB.out.1).mono ?_
  rintro e w3 h3
  obtain ⟨p1, d1, p2, d2, p3, d3, rfl, r1, r2, r3, b'⟩ := fbS_rd h3
  rw [← HB.out.2.2.1] at r1 r2 r3 ⊢
  clear h3 SS
  obtain ⟨W3, hW3⟩ : ∃ W, W = setL (w3.alloc (.cells fz 34)) w3.heap.size 0 (xfL X p1 X.set.n d1 p2 X.op.m d2 p3 X.nl d3) := ⟨_, rfl⟩
  obtain ⟨B1, hB1⟩ : ∃ B, B = w3.heap.size := ⟨_, rfl⟩
  have bW3 : Below w3.heap.size w3 W3 := by rw [hW3]; exact setL_below (Nat.le_refl _) _ _ _ (bel_alloc _ _)
  have K1 : Blk W3 B1 34 (xfL X p1 X.set.n d1 p2 X.op.m d2 p3 X.nl d3).toArray := by
    rw [hW3, hB1]
    have := Blk.stL (xfL X p1 X.set.n d1 p2 X.op.m d2 p3 X.nl d3) 0 (Blk.new w3 fz 34)
    rw [wrX] at this
    exact this
  have sW3 : W3.heap.size = w3.heap.size + 1 := by rw [hW3, setL_size]; simp
  have G3 : Hid (Below w.heap.size w W3 ∧ Blk W3 BA 24 (cfc wt tr a n cap) ∧ Blk W3 B1 34 (xfL X p1 X.set.n d1 p2 X.op.m d2 p3 X.nl d3).toArray) := ⟨bel_nx (bel_nx b2 b') bW3, (A2.below b').below bW3, K1⟩
  have RS : Hid (Rd w3 0 (.list 7 X.set.n (fun i => trs (xrT (X.set.f i)))) (.slice p1 X.set.n d1) ∧ Rd w3 0 (.list 13 X.op.m (fun i => trs (dT (X.op.f i)))) (.slice p2 X.op.m d2) ∧ Rd w3 0 (.list 17 X.nl (fun i => trs (xnT (X.lf i)))) (.slice p3 X.nl d3) ∧ Below w3.heap.size w3 W3 ∧ B1 = w3.heap.size ∧ W3.heap.size = w3.heap.size + 1 ∧ w.heap.size < w3.heap.size) := ⟨r1, r2, r3, bW3, hB1, sW3, by have := A2.lt; have := HBA.out; have := b'.size; omega⟩
  rename_i hK
  refine hK _ _ ?_
  clear hK b2 A2 b' r1 r2 r3 bW3 K1 sW3
  refine wpList_alloc_any rfl 34 rfl fz 11 136 (by kernel_rfl) ?_
  refine wpList_store_mid rfl 34 (.tmp 4) (.tmp 18) rfl w3.heap.size 0 (xfL X p1 X.set.n d1 p2 X.op.m d2 p3 X.nl d3).toArray rfl rfl ((Blk.new w3 fz 34).there 0 11 (by simp)) (by kernel_rfl) (by simp [Value.oneCell']) ?_
  rw [setCells_L, ← hW3, ← hB1]
  clear hW3 hB1
  refine wpList_nil ?_
  obtain ⟨⟨x0, x1, x2⟩, _⟩ := G3.out.2.1.thr
  go_wp2_with fail
  refine (toConfig_any wt tr a n cap f _ (SlS.below HS.out G3.out.1) HL.out).mono ?_
  rintro e w4 ⟨g4, rfl, R4, hg4, b'⟩
  clear x0 x1 x2
  obtain ⟨lx, hlx⟩ : ∃ l, l = W3.heap.size := ⟨_, rfl⟩
  obtain ⟨hx, hhx⟩ : ∃ l, l = w4.heap.size := ⟨_, rfl⟩
  have O4 : Own1 w4 lx hx (xcT (⟨wt, tr, n, f⟩ : VC)) (xcL (⟨wt, tr, n, f⟩ : VC) (some ⟨g4, 0, none⟩) n n) := by
    have h9 := Own1.one (RowU.own R4 (lo := lx) (by omega) (by have := HL.out; unfold maxLen; omega) (Nat.le_refl n))
    have h8 := (h9.leaf (.int .i64 tr) (by have := R4.lt; omega)).leaf (.int .i64 wt) (by have := R4.lt; omega)
    rw [hhx]
    exact h8
  obtain ⟨W4, hW4⟩ : ∃ W, W = w4.alloc (.cells (cfc wt tr (some ⟨g4, 0, none⟩) n n) 28) := ⟨_, rfl⟩
  have bW4 : Below w4.heap.size w4 W4 := by rw [hW4]; exact bel_alloc _ _
  have G4 : Hid (Below w.heap.size w W4 ∧ Blk W4 BA 24 (cfc wt tr a n cap) ∧ Blk W4 B1 34 (xfL X p1 X.set.n d1 p2 X.op.m d2 p3 X.nl d3).toArray ∧ Below w3.heap.size w3 W4 ∧ Blk W4 hx 28 (cfc wt tr (some ⟨g4, 0, none⟩) n n) ∧ Own1 W4 lx hx (xcT (⟨wt, tr, n, f⟩ : VC)) (xcL (⟨wt, tr, n, f⟩ : VC) (some ⟨g4, 0, none⟩) n n)) := ⟨bel_nx (bel_nx G3.out.1 b') bW4, (G3.out.2.1.below b').below bW4, (G3.out.2.2.below b').below bW4, bel_nx (bel_nx RS.out.2.2.2.1 b') bW4, by rw [hW4, hhx]; exact Blk.new _ _ _, O4.below bW4 (by omega)⟩
  have NX : Hid (lx = w3.heap.size + 1 ∧ lx ≤ hx ∧ hx + 1 = W4.heap.size ∧ B1 = w3.heap.size ∧ BA = w.heap.size ∧ w.heap.size < w3.heap.size) := ⟨by have := RS.out; omega, by have := b'.size; omega, by rw [hW4, hhx]; simp, RS.out.2.2.2.2.1, HBA.out, RS.out.2.2.2.2.2.2⟩
  have SX : Hid (SlU W4 (some ⟨g4, 0, none⟩) n f) := SlS.below (RowS.sl R4) bW4
  clear G3 b' hg4 R4 O4 bW4 hlx
  go_upto_region 7 with fail
  rw [← hW4, ← hhx]
  clear hW4 hhx
  refine wp_region_lit ?_
  refine wpList_load_mid rfl 28 (.tmp 5) rfl hx 0 rfl (cfc wt tr (some ⟨g4, 0, none⟩) n n).toList _ G4.out.2.2.2.2.1.all Try.underlying28 rfl (by kernel_rfl) ?_
  go_wp2_with fail
  refine (implFabricNew_any wt tr _ n n f _ SX.out HL.out H64.out b HB.out.1).mono ?_
  rintro e w5 h5
  obtain ⟨q1, e1, q2, e2, q3, e3, rfl, O5, b'⟩ := fbQ_own h5 HB.out.2.1
  rw [← HB.out.2.2.1] at O5 ⊢
  clear h5 SX
  obtain ⟨W5, hW5⟩ : ∃ W, W = setL (w5.alloc (.cells fz 34)) w5.heap.size 0 (xfL X q1 X.set.n e1 q2 X.op.m e2 q3 X.nl e3) := ⟨_, rfl⟩
  obtain ⟨B2, hB2⟩ : ∃ B, B = w5.heap.size := ⟨_, rfl⟩
  obtain ⟨lg, hlg⟩ : ∃ l, l = W4.heap.size := ⟨_, rfl⟩
  have bW5 : Below w5.heap.size w5 W5 := by rw [hW5]; exact setL_below (Nat.le_refl _) _ _ _ (bel_alloc _ _)
  have K2 : Blk W5 B2 34 (xfL X q1 X.set.n e1 q2 X.op.m e2 q3 X.nl e3).toArray := by
    rw [hW5, hB2]
    have := Blk.stL (xfL X q1 X.set.n e1 q2 X.op.m e2 q3 X.nl e3) 0 (Blk.new w5 fz 34)
    rw [wrX] at this
    exact this
  have bb := bel_nx b' bW5
  have O5' : Own1 W5 lg B2 (xfT X) (xfL X q1 X.set.n e1 q2 X.op.m e2 q3 X.nl e3) := by rw [hlg, hB2]; exact O5.below bW5 (Nat.le_refl _)
  have G5 : Hid (Below w.heap.size w W5 ∧ Blk W5 BA 24 (cfc wt tr a n cap) ∧ Blk W5 B1 34 (xfL X p1 X.set.n d1 p2 X.op.m d2 p3 X.nl d3).toArray ∧ Below w3.heap.size w3 W5 ∧ Blk W5 hx 28 (cfc wt tr (some ⟨g4, 0, none⟩) n n) ∧ Own1 W5 lx hx (xcT (⟨wt, tr, n, f⟩ : VC)) (xcL (⟨wt, tr, n, f⟩ : VC) (some ⟨g4, 0, none⟩) n n) ∧ Blk W5 B2 34 (xfL X q1 X.set.n e1 q2 X.op.m e2 q3 X.nl e3).toArray ∧ Own1 W5 lg B2 (xfT X) (xfL X q1 X.set.n e1 q2 X.op.m e2 q3 X.nl e3)) := ⟨bel_nx G4.out.1 bb, G4.out.2.1.below bb, G4.out.2.2.1.below bb, bel_nx G4.out.2.2.2.1 bb, G4.out.2.2.2.2.1.below bb, G4.out.2.2.2.2.2.below bb (by have := NX.out; omega), K2, O5'⟩
  have NG : Hid (lg = hx + 1 ∧ lg ≤ B2 ∧ B2 + 1 = W5.heap.size) := ⟨by have := NX.out; omega, by have := b'.size; omega, by rw [hW5, setL_size, hB2]; simp⟩
  rename_i hK
  refine hK _ _ ?_
  clear hK G4 b' O5 bW5 K2 bb O5' hlg
  refine wpList_alloc_any rfl 34 rfl fz 11 136 (by kernel_rfl) ?_
  refine wpList_store_mid rfl 34 (.tmp 6) (.tmp 22) rfl w5.heap.size 0 (xfL X q1 X.set.n e1 q2 X.op.m e2 q3 X.nl e3).toArray rfl rfl ((Blk.new w5 fz 34).there 0 11 (by simp)) (by kernel_rfl) (by simp [Value.oneCell']) ?_
  rw [setCells_L, ← hW5, ← hB2]
  clear hW5 hB2
  refine wpList_nil ?_
  go_upto_region 8 with fail
  refine wp_region_lit ?_
  refine wpList_load_mid rfl 34 (.tmp 6) rfl B2 0 rfl (xfL X q1 X.set.n e1 q2 X.op.m e2 q3 X.nl e3) _ G5.out.2.2.2.2.2.2.1.all Try.underlying34 rfl (by kernel_rfl) ?_
  refine wpList_load_mid rfl 34 (.tmp 4) rfl B1 0 rfl (xfL X p1 X.set.n d1 p2 X.op.m d2 p3 X.nl d3) _ G5.out.2.2.1.all Try.underlying34 rfl (by kernel_rfl) ?_
  go_wp2_with fail
  refine (eqFabric_o X q1 _ e1 q2 _ e2 q3 _ e3 p1 d1 p2 d2 p3 d3 lg B2 _ G5.out.2.2.2.2.2.2.2 (RS.out.1.below G5.out.2.2.2.1) (RS.out.2.1.below G5.out.2.2.2.1) (RS.out.2.2.1.below G5.out.2.2.2.1) HB.out.2.2.2.1).mono ?_
  rintro e w6 ⟨rfl, bb⟩
  have G6 : Hid (Below w.heap.size w w6 ∧ Blk w6 BA 24 (cfc wt tr a n cap) ∧ Blk w6 B1 34 (xfL X p1 X.set.n d1 p2 X.op.m d2 p3 X.nl d3).toArray ∧ Below w3.heap.size w3 w6 ∧ Blk w6 hx 28 (cfc wt tr (some ⟨g4, 0, none⟩) n n) ∧ Own1 w6 lx hx (xcT (⟨wt, tr, n, f⟩ : VC)) (xcL (⟨wt, tr, n, f⟩ : VC) (some ⟨g4, 0, none⟩) n n) ∧ Blk w6 B2 34 (xfL X q1 X.set.n e1 q2 X.op.m e2 q3 X.nl e3).toArray ∧ Own1 w6 lg B2 (xfT X) (xfL X q1 X.set.n e1 q2 X.op.m e2 q3 X.nl e3)) := ⟨bel_nx G5.out.1 bb, G5.out.2.1.below bb, G5.out.2.2.1.below bb, bel_nx G5.out.2.2.2.1 bb, G5.out.2.2.2.2.1.below bb, G5.out.2.2.2.2.2.1.below bb (by have := NX.out; have := NG.out; omega), G5.out.2.2.2.2.2.2.1.below bb, G5.out.2.2.2.2.2.2.2.below bb (by have := NG.out; omega)⟩
  have NS : Hid (B2 < w6.heap.size) := by show B2 < _; have := NG.out; have := bb.size; omega
  clear bb G5
  have HSX : Hid (SlU w6 (some ⟨g4, 0, none⟩) n f) := (G6.out.2.2.2.2.2.1.rd0 2 _ rfl).slu.2
  go_upto_region 10 with fail
  try go_simp
  refine wp_region_any (by kernel_rfl) ?_
  refine wpAny_vals (fun u => Below w6.heap.size w6 u) (fun i v u => match i with
    | 0 => v = .agg (cfc wt tr (some ⟨g4, 0, none⟩) n n)
    | 1 => v = .agg (cfc wt tr a n cap)
    | 2 => ∃ g, v = .agg (cfc wt tr (some ⟨g, 0, none⟩) n n) ∧ RowU u g n f
    | 3 => v = .bool true
    | 4 => v = .bool false
    | _ => True) (by kernel_rfl) (by kernel_rfl) ?_ (by first | exact Below.refl _ _ | exact (Below.refl _ _).drew) ?_ ?_ _ _ rfl (by decide) (fun i => by simp [Array.getD]; try (split <;> rfl))
  · intro i v u u' h hb
    match i, h with
    | 0, h => exact h
    | 1, h => exact h
    | 2, ⟨g, e, r⟩ => exact ⟨g, e, RowS.below r hb⟩
    | 3, h => exact h
    | 4, h => exact h
    | _ + 5, _ => trivial
  rotate_left
  · intro u i o ρ hR ho hρ hc hf hd
    have hi : i < 5 := by
      have := (Array.getElem?_eq_some_iff.1 ho).1
      simpa using this
    obtain rfl | rfl | rfl | rfl | rfl : i = 0 ∨ i = 1 ∨ i = 2 ∨ i = 3 ∨ i = 4 := by omega
    all_goals (simp only [List.getElem?_toArray, List.getElem?_cons_zero, List.getElem?_cons_succ, Option.some.injEq] at ho; subst ho)
    · have s0 : ρ (.tmp 5) = .pointer (some ⟨hx, 0, none⟩) := (hρ 5 (by kernel_rfl)).trans rfl
      exact .inl ⟨rfl, .inl ⟨_, u, run_load_op rfl s0 (run_loadAt_mid u hx 0 28 (cfc wt tr (some ⟨g4, 0, none⟩) n n).toList _ (G6.out.2.2.2.2.1.below hR).all Try.underlying28 rfl (by kernel_rfl)), rfl, hR, Below.refl _ _⟩⟩
    · have s0 : ρ (.tmp 1) = .pointer (some ⟨BA, 0, none⟩) := (hρ 1 (by kernel_rfl)).trans rfl
      exact .inl ⟨rfl, .inl ⟨_, u, run_load_op rfl s0 (run_loadAt_mid u BA 0 24 (cfc wt tr a n cap).toList _ (G6.out.2.1.below hR).all Try.underlying24 rfl (by kernel_rfl)), rfl, hR, Below.refl _ _⟩⟩
    · have h1 : ρ (.tmp 28) = .agg (cfc wt tr a n cap) := hd ⟨1, .data⟩ (by simp) rfl 28 rfl
      refine .inl ⟨rfl, .inr ⟨_, _, run_call_op rfl (hf _) (args := #[.agg (cfc wt tr a n cap)]) (by simp [h1]) (by kernel_rfl), ?_⟩⟩
      refine (toConfig_any wt tr a n cap f _ (SlS.below HS.out (bel_nx G6.out.1 hR)) HL.out).mono ?_
      rintro e u' ⟨g, he, r, _, b'⟩
      exact ⟨_, he, ⟨g, rfl, r⟩, bel_nx hR b', b'⟩
    · have h0 : ρ (.tmp 27) = .agg (cfc wt tr (some ⟨g4, 0, none⟩) n n) := hd ⟨0, .data⟩ (by simp) rfl 27 rfl
      obtain ⟨g, h2, r2⟩ : ∃ g, ρ (.tmp 29) = .agg (cfc wt tr (some ⟨g, 0, none⟩) n n) ∧ RowU u g n f := hd ⟨2, .data⟩ (by simp) rfl 29 rfl
      refine .inl ⟨rfl, .inr ⟨_, _, run_call_op rfl (hf _) (args := #[.agg (cfc wt tr (some ⟨g4, 0, none⟩) n n), .agg (cfc wt tr (some ⟨g, 0, none⟩) n n)]) (by simp [h0, h2]) (by kernel_rfl), ?_⟩⟩
      refine (eqConfig_true wt tr _ _ n n n f _ (SlS.below HSX.out hR) r2.sl HL.out).mono ?_
      rintro e u' ⟨he, b'⟩
      exact ⟨_, he, rfl, bel_nx hR b', b'⟩
    · have h3 : ρ (.tmp 30) = .bool true := hd ⟨3, .data⟩ (by simp) rfl 30 rfl
      exact .inl ⟨rfl, .inl ⟨.bool false, u, run_un_op rfl h3 rfl, rfl, hR, Below.refl _ _⟩⟩
  intro vs w7 bb hall
  have e4 : vs 4 = .bool false := hall 4 (by simp)
  simp only [putsL]
  rw [e4]
  have G7 : Hid (Below w.heap.size w w7 ∧ Blk w7 BA 24 (cfc wt tr a n cap) ∧ Blk w7 B1 34 (xfL X p1 X.set.n d1 p2 X.op.m d2 p3 X.nl d3).toArray ∧ Below w3.heap.size w3 w7 ∧ Blk w7 hx 28 (cfc wt tr (some ⟨g4, 0, none⟩) n n) ∧ Own1 w7 lx hx (xcT (⟨wt, tr, n, f⟩ : VC)) (xcL (⟨wt, tr, n, f⟩ : VC) (some ⟨g4, 0, none⟩) n n) ∧ Blk w7 B2 34 (xfL X q1 X.set.n e1 q2 X.op.m e2 q3 X.nl e3).toArray ∧ Own1 w7 lg B2 (xfT X) (xfL X q1 X.set.n e1 q2 X.op.m e2 q3 X.nl e3)) := ⟨bel_nx G6.out.1 bb, G6.out.2.1.below bb, G6.out.2.2.1.below bb, bel_nx G6.out.2.2.2.1 bb, G6.out.2.2.2.2.1.below bb, G6.out.2.2.2.2.2.1.below bb (by have := NX.out; have := NG.out; have := NS.out; omega), G6.out.2.2.2.2.2.2.1.below bb, G6.out.2.2.2.2.2.2.2.below bb (by have := NS.out; omega)⟩
  have NS7 : Hid (B2 < w7.heap.size) := by show B2 < _; have := NS.out; have := bb.size; omega
  clear bb G6 NS hall e4 HSX
  try go_simp
  have HCS : Hid (csVC (⟨wt, tr, n, f⟩ : VC) ≤ n * 7) := sumN_c (fun k => ctRu (f k)) 7 (fun k => by simp [ctRu]) n
  go_upto_region 13 with fail
  refine wp_region_lit ?_
  refine wpList_load_mid rfl 28 (.tmp 5) rfl hx 0 rfl (cfc wt tr (some ⟨g4, 0, none⟩) n n).toList _ G7.out.2.2.2.2.1.all Try.underlying28 rfl (by kernel_rfl) ?_
  go_wp2_with fail
  refine (markConfig_o (⟨wt, tr, n, f⟩ : VC) (some ⟨g4, 0, none⟩) n n 1 lx hx _ _ rfl G7.out.2.2.2.2.2.1 (by have := HCS.out; have := HL.out; omega)).mono ?_
  rintro e w8 ⟨rfl, _, cg⟩
  have sz8 := cg.size
  have G8 : Hid (Below w.heap.size w w8 ∧ Blk w8 BA 24 (cfc wt tr a n cap) ∧ Blk w8 B1 34 (xfL X p1 X.set.n d1 p2 X.op.m d2 p3 X.nl d3).toArray ∧ Below w3.heap.size w3 w8 ∧ Blk w8 B2 34 (xfL X q1 X.set.n e1 q2 X.op.m e2 q3 X.nl e3).toArray ∧ Own1 w8 lg B2 (xfT X) (xfL X q1 X.set.n e1 q2 X.op.m e2 q3 X.nl e3)) := ⟨Cg.below G7.out.1 cg (fun g hg => by have := NX.out; omega) (by have := NX.out; have := NS7.out; have := NG.out; omega), G7.out.2.1.cgX cg (by have := NX.out; omega), G7.out.2.2.1.cgX cg (by have := NX.out; omega), Cg.below G7.out.2.2.2.1 cg (fun g hg => by have := NX.out; omega) (by have := NX.out; have := NS7.out; have := NG.out; omega), G7.out.2.2.2.2.2.2.1.cgX cg (by have := NX.out; have := NG.out; omega), G7.out.2.2.2.2.2.2.2.same cg.size (fun b q1 q2 => cg.block b (by have := NS7.out; omega) (by have := NG.out; omega))⟩
  have NS8 : Hid (B2 < w8.heap.size) := by show B2 < _; have := NS7.out; omega
  obtain ⟨kx, hkx⟩ : ∃ k : Nat, k = 1 + csVC (⟨wt, tr, n, f⟩ : VC) := ⟨_, rfl⟩
  rw [← hkx]
  have nk : ¬ ((kx : Int) < 0) := by omega
  clear cg sz8 G7 NS7 hkx
  obtain ⟨⟨y0, y1, y2, y3, y4, y5, y6, y7, y8, y9, y10⟩, yf⟩ := G8.out.2.2.2.2.1.tc11
  obtain ⟨⟨z0, z1, z2, z3, z4, z5, z6, z7, z8, z9, z10⟩, zf⟩ := G8.out.2.2.1.tc11
  clear yf zf
  go_wp2_with fail
  refine (eqFabric_o X q1 _ e1 q2 _ e2 q3 _ e3 p1 d1 p2 d2 p3 d3 lg B2 _ G8.out.2.2.2.2.2 (RS.out.1.below G8.out.2.2.2.1) (RS.out.2.1.below G8.out.2.2.2.1) (RS.out.2.2.1.below G8.out.2.2.2.1) HB.out.2.2.2.1).mono ?_
  rintro e w9 ⟨rfl, bb⟩
  have G9 : Hid (Below w.heap.size w w9 ∧ Blk w9 BA 24 (cfc wt tr a n cap) ∧ Blk w9 B1 34 (xfL X p1 X.set.n d1 p2 X.op.m d2 p3 X.nl d3).toArray ∧ Below w3.heap.size w3 w9 ∧ Blk w9 B2 34 (xfL X q1 X.set.n e1 q2 X.op.m e2 q3 X.nl e3).toArray ∧ Own1 w9 lg B2 (xfT X) (xfL X q1 X.set.n e1 q2 X.op.m e2 q3 X.nl e3)) := ⟨bel_nx G8.out.1 bb, G8.out.2.1.below bb, G8.out.2.2.1.below bb, bel_nx G8.out.2.2.2.1 bb, G8.out.2.2.2.2.1.below bb, G8.out.2.2.2.2.2.below bb (by have := NS8.out; omega)⟩
  have NS9 : Hid (B2 < w9.heap.size) := by show B2 < _; have := NS8.out; have := bb.size; omega
  clear bb G8 NS8 y0 y1 y2 y3 y4 y5 y6 y7 y8 y9 y10 z0 z1 z2 z3 z4 z5 z6 z7 z8 z9 z10
  go_upto_region 17 with fail
  refine wp_region_lit ?_
  refine wpList_load_mid rfl 34 (.tmp 6) rfl B2 0 rfl (xfL X q1 X.set.n e1 q2 X.op.m e2 q3 X.nl e3) _ G9.out.2.2.2.2.1.all Try.underlying34 rfl (by kernel_rfl) ?_
  go_wp2_with fail
  refine (markFabric_o X q1 _ e1 q2 _ e2 q3 _ e3 1 lg B2 _ _ rfl G9.out.2.2.2.2.2 (by have := HB.out.2.2.2.2; omega)).mono ?_
  rintro e w10 ⟨rfl, O10, cg⟩
  have sz10 := cg.size
  have G10 : Hid (Below w.heap.size w w10 ∧ Blk w10 BA 24 (cfc wt tr a n cap) ∧ Blk w10 B1 34 (xfL X p1 X.set.n d1 p2 X.op.m d2 p3 X.nl d3).toArray ∧ Below w3.heap.size w3 w10 ∧ Blk w10 B2 34 (xfL X q1 X.set.n e1 q2 X.op.m e2 q3 X.nl e3).toArray ∧ Own1 w10 lg B2 (xfT (nsVF 1 X)) (xfL X q1 X.set.n e1 q2 X.op.m e2 q3 X.nl e3)) := ⟨Cg.below G9.out.1 cg (fun g hg => by have := NX.out; have := NG.out; omega) (by have := NX.out; have := NS9.out; have := NG.out; omega), G9.out.2.1.cgX cg (by have := NX.out; have := NG.out; omega), G9.out.2.2.1.cgX cg (by have := NX.out; have := NG.out; omega), Cg.below G9.out.2.2.2.1 cg (fun g hg => by have := NX.out; have := NG.out; omega) (by have := NX.out; have := NS9.out; have := NG.out; omega), G9.out.2.2.2.2.1.cgX cg (by omega), O10⟩
  have NS10 : Hid (B2 < w10.heap.size) := by show B2 < _; have := NS9.out; omega
  obtain ⟨m, hm⟩ : ∃ k : Nat, k = 1 + csVF X := ⟨_, rfl⟩
  rw [← hm]
  have HM : Hid (m = 1 + csVF X) := hm
  have nm : ¬ ((m : Int) < 0) := by omega
  have mm : ((m : Int) != (m : Int)) = false := by simp
  clear cg sz10 G9 NS9 hm O10
  go_upto_region 19 with fail
  refine wp_region_lit ?_
  refine wpList_load_mid rfl 34 (.tmp 6) rfl B2 0 rfl (xfL X q1 X.set.n e1 q2 X.op.m e2 q3 X.nl e3) _ G10.out.2.2.2.2.1.all Try.underlying34 rfl (by kernel_rfl) ?_
  go_wp2_with fail
  refine (heldFabric_o X q1 _ e1 q2 _ e2 q3 _ e3 1 lg B2 _ _ rfl G10.out.2.2.2.2.2 (by have := HB.out.2.2.2.2; omega)).mono ?_
  rintro e w11 ⟨rfl, bb⟩
  rw [← HM.out]
  have G11 : Hid (Below w.heap.size w w11 ∧ Blk w11 BA 24 (cfc wt tr a n cap) ∧ Blk w11 B1 34 (xfL X p1 X.set.n d1 p2 X.op.m d2 p3 X.nl d3).toArray ∧ Below w3.heap.size w3 w11 ∧ Blk w11 B2 34 (xfL X q1 X.set.n e1 q2 X.op.m e2 q3 X.nl e3).toArray ∧ Own1 w11 lg B2 (xfT (nsVF 1 X)) (xfL X q1 X.set.n e1 q2 X.op.m e2 q3 X.nl e3)) := ⟨bel_nx G10.out.1 bb, G10.out.2.1.below bb, G10.out.2.2.1.below bb, bel_nx G10.out.2.2.2.1 bb, G10.out.2.2.2.2.1.below bb, G10.out.2.2.2.2.2.below bb (by have := NS10.out; omega)⟩
  have NS11 : Hid (B2 < w11.heap.size) := by show B2 < _; have := NS10.out; have := bb.size; omega
  clear bb G10 NS10
  obtain ⟨⟨x0, x1, x2⟩, _⟩ := G11.out.2.1.thr
  go_wp2_with fail
  refine (toConfig_any wt tr a n cap f _ (SlS.below HS.out G11.out.1) HL.out).mono ?_
  rintro e w12 ⟨g12, rfl, R12, _, bb⟩
  have G12 : Hid (Below w.heap.size w w12 ∧ Blk w12 BA 24 (cfc wt tr a n cap) ∧ Blk w12 B1 34 (xfL X p1 X.set.n d1 p2 X.op.m d2 p3 X.nl d3).toArray ∧ Below w3.heap.size w3 w12 ∧ Blk w12 B2 34 (xfL X q1 X.set.n e1 q2 X.op.m e2 q3 X.nl e3).toArray ∧ Own1 w12 lg B2 (xfT (nsVF 1 X)) (xfL X q1 X.set.n e1 q2 X.op.m e2 q3 X.nl e3)) := ⟨bel_nx G11.out.1 bb, G11.out.2.1.below bb, G11.out.2.2.1.below bb, bel_nx G11.out.2.2.2.1 bb, G11.out.2.2.2.2.1.below bb, G11.out.2.2.2.2.2.below bb (by have := NS11.out; omega)⟩
  have NS12 : Hid (B2 < w12.heap.size ∧ SlU w12 (some ⟨g12, 0, none⟩) n f) := ⟨by have := NS11.out; have := bb.size; omega, R12.sl⟩
  clear bb G11 NS11 R12 x0 x1 x2
  go_wp2_with fail
  refine (implFabricNew_any wt tr _ n n f _ NS12.out.2 HL.out H64.out b HB.out.1).mono ?_
  rintro e w13 h13
  obtain ⟨s1, j1, s2, j2, s3, j3, rfl, O13, b'⟩ := fbQ_own h13 HB.out.2.1
  rw [← HB.out.2.2.1] at O13 ⊢
  clear h13
  obtain ⟨W13, hW13⟩ : ∃ W, W = setL (w13.alloc (.cells fz 34)) w13.heap.size 0 (xfL X s1 X.set.n j1 s2 X.op.m j2 s3 X.nl j3) := ⟨_, rfl⟩
  obtain ⟨B6, hB6⟩ : ∃ B, B = w13.heap.size := ⟨_, rfl⟩
  have bW13 : Below w13.heap.size w13 W13 := by rw [hW13]; exact setL_below (Nat.le_refl _) _ _ _ (bel_alloc _ _)
  have K6 : Blk W13 B6 34 (xfL X s1 X.set.n j1 s2 X.op.m j2 s3 X.nl j3).toArray := by
    rw [hW13, hB6]
    have := Blk.stL (xfL X s1 X.set.n j1 s2 X.op.m j2 s3 X.nl j3) 0 (Blk.new w13 fz 34)
    rw [wrX] at this
    exact this
  have bb := bel_nx b' bW13
  have G13 : Hid (Below w.heap.size w W13 ∧ Blk W13 BA 24 (cfc wt tr a n cap) ∧ Blk W13 B1 34 (xfL X p1 X.set.n d1 p2 X.op.m d2 p3 X.nl d3).toArray ∧ Below w3.heap.size w3 W13 ∧ Blk W13 B2 34 (xfL X q1 X.set.n e1 q2 X.op.m e2 q3 X.nl e3).toArray ∧ Own1 W13 lg B2 (xfT (nsVF 1 X)) (xfL X q1 X.set.n e1 q2 X.op.m e2 q3 X.nl e3)) := ⟨bel_nx G12.out.1 bb, G12.out.2.1.below bb, G12.out.2.2.1.below bb, bel_nx G12.out.2.2.2.1 bb, G12.out.2.2.2.2.1.below bb, G12.out.2.2.2.2.2.below bb (by have := NS12.out.1; omega)⟩
  have NS13 : Hid (B2 < W13.heap.size ∧ Blk W13 B6 34 (xfL X s1 X.set.n j1 s2 X.op.m j2 s3 X.nl j3).toArray ∧ Own1 W13 w12.heap.size w13.heap.size (xfT X) (xfL X s1 X.set.n j1 s2 X.op.m j2 s3 X.nl j3)) := ⟨by have := NS12.out.1; have := bb.size; omega, K6, O13.below bW13 (Nat.le_refl _)⟩
  rename_i hK
  refine hK _ _ ?_
  clear hK b' O13 bW13 K6 bb G12 NS12
  refine wpList_alloc_any rfl 34 rfl fz 11 136 (by kernel_rfl) ?_
  refine wpList_store_mid rfl 34 (.tmp 10) (.tmp 56) rfl w13.heap.size 0 (xfL X s1 X.set.n j1 s2 X.op.m j2 s3 X.nl j3).toArray rfl rfl ((Blk.new w13 fz 34).there 0 11 (by simp)) (by kernel_rfl) (by simp [Value.oneCell']) ?_
  rw [setCells_L, ← hW13, ← hB6]
  clear hW13 hB6
  refine wpList_nil ?_
  go_upto_region 25 with fail
  refine wp_region_lit ?_
  refine wpList_load_mid rfl 34 (.tmp 10) rfl B6 0 rfl (xfL X s1 X.set.n j1 s2 X.op.m j2 s3 X.nl j3) _ NS13.out.2.1.all Try.underlying34 rfl (by kernel_rfl) ?_
  refine wpList_load_mid rfl 34 (.tmp 4) rfl B1 0 rfl (xfL X p1 X.set.n d1 p2 X.op.m d2 p3 X.nl d3) _ G13.out.2.2.1.all Try.underlying34 rfl (by kernel_rfl) ?_
  go_wp2_with fail
  refine (eqFabric_o X s1 _ j1 s2 _ j2 s3 _ j3 p1 d1 p2 d2 p3 d3 _ _ _ NS13.out.2.2 (RS.out.1.below G13.out.2.2.2.1) (RS.out.2.1.below G13.out.2.2.2.1) (RS.out.2.2.1.below G13.out.2.2.2.1) HB.out.2.2.2.1).mono ?_
  rintro e w14 ⟨rfl, bb⟩
  have G14 : Hid (Below w.heap.size w w14 ∧ Blk w14 BA 24 (cfc wt tr a n cap) ∧ Blk w14 B1 34 (xfL X p1 X.set.n d1 p2 X.op.m d2 p3 X.nl d3).toArray ∧ Below w3.heap.size w3 w14 ∧ Blk w14 B2 34 (xfL X q1 X.set.n e1 q2 X.op.m e2 q3 X.nl e3).toArray ∧ Own1 w14 lg B2 (xfT (nsVF 1 X)) (xfL X q1 X.set.n e1 q2 X.op.m e2 q3 X.nl e3)) := ⟨bel_nx G13.out.1 bb, G13.out.2.1.below bb, G13.out.2.2.1.below bb, bel_nx G13.out.2.2.2.1 bb, G13.out.2.2.2.2.1.below bb, G13.out.2.2.2.2.2.below bb (by have := NS13.out.1; omega)⟩
  clear bb G13 NS13
  go_upto_region 28 with fail
  refine wp_region_lit ?_
  refine wpList_load_mid rfl 34 (.tmp 6) rfl B2 0 rfl (xfL X q1 X.set.n e1 q2 X.op.m e2 q3 X.nl e3) _ G14.out.2.2.2.2.1.all Try.underlying34 rfl (by kernel_rfl) ?_
  go_wp2_with fail
  refine (heldFabric_o X q1 _ e1 q2 _ e2 q3 _ e3 1 lg B2 _ _ rfl G14.out.2.2.2.2.2 (by have := HB.out.2.2.2.2; omega)).mono ?_
  rintro e w15 ⟨rfl, bb⟩
  rw [← HM.out]
  have B15 : Hid (Below w.heap.size w w15) := bel_nx G14.out.1 bb
  clear bb G14
  go_wp2
  go_ret
  exact ⟨rfl, B15.out⟩
end Go.Proofs.Ytccffbbboodolaa
