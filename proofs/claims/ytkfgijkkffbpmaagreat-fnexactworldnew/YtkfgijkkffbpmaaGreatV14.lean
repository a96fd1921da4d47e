/- Texts that the proof needs, joined: Mk9 FabricNewL Tr3 Tr5 Dev1 Pack1 S1 Dev2 Dev3a Dev5 Dev6 Dev21a. -/
import Derived.Test.YtkfgijkkffbpmaaGreatV13
import Derived.Test.YtkfgijkkffbpmaaGreatV3
import Derived.Test.YtkfgijkkffbpmaaGreatV11
import Derived.Test.YtkfgijkkffbpmaaGreatV2
import Derived.Test.YtkfgijkkffbpmaaGreatV1
import Derived.Test.YtkfgijkkffbpmaaGreatV10
import Derived.Test.YtkfgijkkffbpmaaGreatV7
import Derived.WideMake
import Derived.Carry
import Derived.Laws.CopyOwn
import Derived.Deep.RegionHeld3
import Derived.Test.YtkfgijkkffbpmaaGreatV4
import Derived.Deep.Upon
set_option linter.unusedVariables false
set_option linter.unusedSimpArgs false
set_option maxHeartbeats 8000000
set_option maxRecDepth 20000
namespace Go.Proofs.YtkfgijkkffbpmaaGreat
open Go.RowKit Go.Joins
theorem Own1.rd0 {w : World} {lo hi : Nat} {ts : List Tr} {vs : List Value} (h : Own1 w lo hi ts vs) (i : Nat) (v : Value) (hv : vs[i]? = some v) : Rd w 0 (trs ts i) v := by
 obtain ⟨K, h1, h2, h3, h4⟩ := h
 exact (h2 i v hv).rd (fun b _ => Nat.zero_le b)
def csVC (X : VC) : Nat := sumN X.n (fun i => ctRu (X.f i))
def nsVC (k : Nat) (X : VC) : VC := ⟨X.wt, X.tr, X.n, fun i => nmRu (k + sumN i (fun i => ctRu (X.f i))) (X.f i)⟩
def csVT (X : VT) : Nat := sumN X.m (fun i => ctVD (X.f i))
def nsVT (k : Nat) (X : VT) : VT := ⟨X.nx, X.m, fun i => nmVD (k + sumN i (fun i => ctVD (X.f i))) (X.f i)⟩
def csVF (X : VF) : Nat := csVC X.set + csVT X.op + sumN X.nl (fun i => ctVN (X.lf i))
def nsVF (k : Nat) (X : VF) : VF := ⟨X.nw, nsVC (k) X.set, nsVT (k + csVC X.set) X.op, X.nl, fun i => nmVN (k + csVC X.set + csVT X.op + sumN i (fun i => ctVN (X.lf i))) (X.lf i), X.sk, X.re, X.fa, X.se⟩
theorem markConfig_f (X : VC) (a1 : Option Addr) (l1 c1 : Nat) (s : Nat) (x : Int) (K1 : Sk) (w : World) (hx : x = ((s : Nat) : Int)) (f1 : Fit w (.list 7 X.n (fun i => trs (xrT (X.f i)))) K1 (.slice a1 l1 c1)) (o1 : K1.ok)  (hB : s + csVC X <= 1125899906842624) :
 Calls Tryz.prog 32 #[.agg (xcL X a1 l1 c1).toArray, .int .i64 x] w fun e w' => e = .returned (.int .i64 ((s + csVC X : Nat) : Int)) /\ Fit w' (.list 7 X.n (fun i => trs (xrT (nmRu (s + sumN i (fun i => ctRu (X.f i))) (X.f i))))) K1 (.slice a1 l1 c1) /\ Cg w w' (fun b => K1.bl b) := by
 subst hx
 obtain ⟨W, hW⟩ : ∃ W, W = w.alloc (.cells (xcL X a1 l1 c1).toArray 35) := ⟨_, rfl⟩
 have bW : Below w.heap.size w W := by rw [hW]; exact bel_alloc _ _
 have HN : Hid ((∀ b, K1.bl b -> b < w.heap.size) /\ True) := ⟨fun b hb => f1.lt hb, trivial⟩
 have G0 : Hid (Fit W (.list 7 X.n (fun i => trs (xrT (X.f i)))) K1 (.slice a1 l1 c1) /\ Cg w W (fun b => K1.bl b) /\ Blk W w.heap.size 35 (xcL X a1 l1 c1).toArray /\ w.heap.size < W.heap.size) := ⟨f1.below bW, Cg.ofBelow bW, by rw [hW]; exact Blk.new _ _ _, by rw [hW]; simp⟩
 have HC : Hid (csVC X = sumN X.n (fun i => ctRu (X.f i))) := rfl
 clear f1 bW
 go_enter Tryz.func32, Tryz.ntmps32
 go_upto_region 1 with fail
 rw [<- hW]
 clear hW
 obtain ⟨⟨y0, y1, y2⟩, yf⟩ := G0.out.2.2.1.tc3
 clear yf
 go_wp2_with fail
 refine (markRuleS_f X.n X.f a1 _ c1 (s) _ K1 _ (by first | rfl | (have := HC.out; omega)) G0.out.1 o1 (by have := HC.out; omega)).mono ?_
 rintro e w1 ⟨rfl, m1, cg⟩
 have G1 : Hid (Fit w1 (.list 7 X.n (fun i => trs (xrT (nmRu (s + sumN i (fun i => ctRu (X.f i))) (X.f i))))) K1 (.slice a1 l1 c1) /\ Cg w w1 (fun b => K1.bl b) /\ Blk w1 w.heap.size 35 (xcL X a1 l1 c1).toArray /\ w.heap.size < w1.heap.size) := ⟨m1, G0.out.2.1.trans (cg.mono (fun b hb => by simp [hb])), (cg.block w.heap.size G0.out.2.2.2 (fun q => by have h9 := HN.out; first | exact absurd (h9.1 w.heap.size q) (Nat.lt_irrefl _) | (rcases q with q | q <;> first | exact absurd (h9.1 w.heap.size q) (Nat.lt_irrefl _) | exact absurd (h9.2.1 w.heap.size q) (Nat.lt_irrefl _) | exact absurd (h9.2.2.1 w.heap.size q) (Nat.lt_irrefl _)))).trans G0.out.2.2.1, Nat.lt_of_lt_of_le G0.out.2.2.2 cg.size⟩
 obtain ⟨k1, hk1⟩ : ∃ k1 : Nat, k1 = s + sumN X.n (fun i => ctRu (X.f i)) := ⟨_, rfl⟩
 rw [<- hk1]
 have HK1 : Hid (k1 = s + sumN X.n (fun i => ctRu (X.f i))) := hk1
 clear hk1 cg m1 G0 y0 y1 y2
 have HE : Hid (((k1 : Nat) : Int) = ((s + csVC X : Nat) : Int)) := by show _ = _; have := HC.out; have := HK1.out; omega
 go_wp2
 go_ret
 exact ⟨congrArg (fun z => Ending.returned (Value.int .i64 z)) HE.out, G1.out.1, G1.out.2.1⟩
theorem markTable_f (X : VT) (a1 : Option Addr) (l1 c1 : Nat) (s : Nat) (x : Int) (K1 : Sk) (w : World) (hx : x = ((s : Nat) : Int)) (f1 : Fit w (.list 13 X.m (fun i => trs (dT (X.f i)))) K1 (.slice a1 l1 c1)) (o1 : K1.ok)  (hB : s + csVT X <= 1125899906842624) :
 Calls Tryz.prog 62 #[.agg (tL X a1 l1 c1).toArray, .int .i64 x] w fun e w' => e = .returned (.int .i64 ((s + csVT X : Nat) : Int)) /\ Fit w' (.list 13 X.m (fun i => trs (dT (nmVD (s + sumN i (fun i => ctVD (X.f i))) (X.f i))))) K1 (.slice a1 l1 c1) /\ Cg w w' (fun b => K1.bl b) := by
 subst hx
 obtain ⟨W, hW⟩ : ∃ W, W = w.alloc (.cells (tL X a1 l1 c1).toArray 38) := ⟨_, rfl⟩
 have bW : Below w.heap.size w W := by rw [hW]; exact bel_alloc _ _
 have HN : Hid ((∀ b, K1.bl b -> b < w.heap.size) /\ True) := ⟨fun b hb => f1.lt hb, trivial⟩
 have G0 : Hid (Fit W (.list 13 X.m (fun i => trs (dT (X.f i)))) K1 (.slice a1 l1 c1) /\ Cg w W (fun b => K1.bl b) /\ Blk W w.heap.size 38 (tL X a1 l1 c1).toArray /\ w.heap.size < W.heap.size) := ⟨f1.below bW, Cg.ofBelow bW, by rw [hW]; exact Blk.new _ _ _, by rw [hW]; simp⟩
 have HC : Hid (csVT X = sumN X.m (fun i => ctVD (X.f i))) := rfl
 clear f1 bW
 go_enter Tryz.func62, Tryz.ntmps62
 go_upto_region 1 with fail
 rw [<- hW]
 clear hW
 obtain ⟨⟨y0, y1⟩, yf⟩ := G0.out.2.2.1.tc2
 clear yf
 go_wp2_with fail
 refine (markPendS_f X.m X.f a1 _ c1 (s) _ K1 _ (by first | rfl | (have := HC.out; omega)) G0.out.1 o1 (by have := HC.out; omega)).mono ?_
 rintro e w1 ⟨rfl, m1, cg⟩
 have G1 : Hid (Fit w1 (.list 13 X.m (fun i => trs (dT (nmVD (s + sumN i (fun i => ctVD (X.f i))) (X.f i))))) K1 (.slice a1 l1 c1) /\ Cg w w1 (fun b => K1.bl b) /\ Blk w1 w.heap.size 38 (tL X a1 l1 c1).toArray /\ w.heap.size < w1.heap.size) := ⟨m1, G0.out.2.1.trans (cg.mono (fun b hb => by simp [hb])), (cg.block w.heap.size G0.out.2.2.2 (fun q => by have h9 := HN.out; first | exact absurd (h9.1 w.heap.size q) (Nat.lt_irrefl _) | (rcases q with q | q <;> first | exact absurd (h9.1 w.heap.size q) (Nat.lt_irrefl _) | exact absurd (h9.2.1 w.heap.size q) (Nat.lt_irrefl _) | exact absurd (h9.2.2.1 w.heap.size q) (Nat.lt_irrefl _)))).trans G0.out.2.2.1, Nat.lt_of_lt_of_le G0.out.2.2.2 cg.size⟩
 obtain ⟨k1, hk1⟩ : ∃ k1 : Nat, k1 = s + sumN X.m (fun i => ctVD (X.f i)) := ⟨_, rfl⟩
 rw [<- hk1]
 have HK1 : Hid (k1 = s + sumN X.m (fun i => ctVD (X.f i))) := hk1
 clear hk1 cg m1 G0 y0 y1
 have HE : Hid (((k1 : Nat) : Int) = ((s + csVT X : Nat) : Int)) := by show _ = _; have := HC.out; have := HK1.out; omega
 go_wp2
 go_ret
 exact ⟨congrArg (fun z => Ending.returned (Value.int .i64 z)) HE.out, G1.out.1, G1.out.2.1⟩
theorem markFabric_f (X : VF) (a1 : Option Addr) (l1 c1 : Nat) (a2 : Option Addr) (l2 c2 : Nat) (a3 : Option Addr) (l3 c3 : Nat) (s : Nat) (x : Int) (K1 K2 K3 : Sk) (w : World) (hx : x = ((s : Nat) : Int)) (f1 : Fit w (.list 7 X.set.n (fun i => trs (xrT (X.set.f i)))) K1 (.slice a1 l1 c1)) (f2 : Fit w (.list 13 X.op.m (fun i => trs (dT (X.op.f i)))) K2 (.slice a2 l2 c2)) (f3 : Fit w (.list 17 X.nl (fun i => trs (xnT (X.lf i)))) K3 (.slice a3 l3 c3)) (o1 : K1.ok) (o2 : K2.ok) (o3 : K3.ok) (d12 : ∀ b, K1.bl b -> ¬ K2.bl b) (d13 : ∀ b, K1.bl b -> ¬ K3.bl b) (d21 : ∀ b, K2.bl b -> ¬ K1.bl b) (d23 : ∀ b, K2.bl b -> ¬ K3.bl b) (d31 : ∀ b, K3.bl b -> ¬ K1.bl b) (d32 : ∀ b, K3.bl b -> ¬ K2.bl b) (hB : s + csVF X <= 1125899906842624) :
 Calls Tryz.prog 18 #[.agg (xfL X a1 l1 c1 a2 l2 c2 a3 l3 c3).toArray, .int .i64 x] w fun e w' => e = .returned (.int .i64 ((s + csVF X : Nat) : Int)) /\ Fit w' (.list 7 X.set.n (fun i => trs (xrT (nmRu ((s) + sumN i (fun i => ctRu (X.set.f i))) (X.set.f i))))) K1 (.slice a1 l1 c1) /\ Fit w' (.list 13 X.op.m (fun i => trs (dT (nmVD ((s + csVC X.set) + sumN i (fun i => ctVD (X.op.f i))) (X.op.f i))))) K2 (.slice a2 l2 c2) /\ Fit w' (.list 17 X.nl (fun i => trs (xnT (nmVN (s + csVC X.set + csVT X.op + sumN i (fun i => ctVN (X.lf i))) (X.lf i))))) K3 (.slice a3 l3 c3) /\ Cg w w' (fun b => K1.bl b \/ K2.bl b \/ K3.bl b) := by
 subst hx
 obtain ⟨W, hW⟩ : ∃ W, W = w.alloc (.cells (xfL X a1 l1 c1 a2 l2 c2 a3 l3 c3).toArray 41) := ⟨_, rfl⟩
 have bW : Below w.heap.size w W := by rw [hW]; exact bel_alloc _ _
 have HN : Hid ((∀ b, K1.bl b -> b < w.heap.size) /\ (∀ b, K2.bl b -> b < w.heap.size) /\ (∀ b, K3.bl b -> b < w.heap.size) /\ True) := ⟨fun b hb => f1.lt hb, fun b hb => f2.lt hb, fun b hb => f3.lt hb, trivial⟩
 have G0 : Hid (Fit W (.list 7 X.set.n (fun i => trs (xrT (X.set.f i)))) K1 (.slice a1 l1 c1) /\ Fit W (.list 13 X.op.m (fun i => trs (dT (X.op.f i)))) K2 (.slice a2 l2 c2) /\ Fit W (.list 17 X.nl (fun i => trs (xnT (X.lf i)))) K3 (.slice a3 l3 c3) /\ Cg w W (fun b => K1.bl b \/ K2.bl b \/ K3.bl b) /\ Blk W w.heap.size 41 (xfL X a1 l1 c1 a2 l2 c2 a3 l3 c3).toArray /\ w.heap.size < W.heap.size) := ⟨f1.below bW, f2.below bW, f3.below bW, Cg.ofBelow bW, by rw [hW]; exact Blk.new _ _ _, by rw [hW]; simp⟩
 have HC : Hid (csVF X = csVC X.set + csVT X.op + sumN X.nl (fun i => ctVN (X.lf i))) := rfl
 clear f1 f2 f3 bW
 go_enter Tryz.func18, Tryz.ntmps18
 go_upto_region 1 with fail
 rw [<- hW]
 clear hW
 obtain ⟨⟨y0, y1, y2, y3, y4, y5, y6, y7, y8, y9, y10⟩, yf⟩ := G0.out.2.2.2.2.1.tc11
 clear yf
 go_wp2_with fail
 refine (markConfig_f X.set a1 _ c1 (s) _ K1 _ (by first | rfl | (have := HC.out; omega)) G0.out.1 o1  (by have := HC.out; omega)).mono ?_
 rintro e w1 ⟨rfl, m1, cg⟩
 have G1 : Hid (Fit w1 (.list 7 X.set.n (fun i => trs (xrT (nmRu ((s) + sumN i (fun i => ctRu (X.set.f i))) (X.set.f i))))) K1 (.slice a1 l1 c1) /\ Fit w1 (.list 13 X.op.m (fun i => trs (dT (X.op.f i)))) K2 (.slice a2 l2 c2) /\ Fit w1 (.list 17 X.nl (fun i => trs (xnT (X.lf i)))) K3 (.slice a3 l3 c3) /\ Cg w w1 (fun b => K1.bl b \/ K2.bl b \/ K3.bl b) /\ Blk w1 w.heap.size 41 (xfL X a1 l1 c1 a2 l2 c2 a3 l3 c3).toArray /\ w.heap.size < w1.heap.size) := ⟨m1, G0.out.2.1.cg cg (fun b hb hb9 => d21 b hb hb9), G0.out.2.2.1.cg cg (fun b hb hb9 => d31 b hb hb9), G0.out.2.2.2.1.trans (cg.mono (fun b hb => by simp [hb])), (cg.block w.heap.size G0.out.2.2.2.2.2 (fun q => by have h9 := HN.out; first | exact absurd (h9.1 w.heap.size q) (Nat.lt_irrefl _) | (rcases q with q | q <;> first | exact absurd (h9.1 w.heap.size q) (Nat.lt_irrefl _) | exact absurd (h9.2.1 w.heap.size q) (Nat.lt_irrefl _) | exact absurd (h9.2.2.1 w.heap.size q) (Nat.lt_irrefl _)))).trans G0.out.2.2.2.2.1, Nat.lt_of_lt_of_le G0.out.2.2.2.2.2 cg.size⟩
 obtain ⟨k1, hk1⟩ : ∃ k1 : Nat, k1 = s + csVC X.set := ⟨_, rfl⟩
 rw [<- hk1]
 have HK1 : Hid (k1 = s + csVC X.set) := hk1
 clear hk1 cg m1 G0 y0 y1 y2 y3 y4 y5 y6 y7 y8 y9 y10
 obtain ⟨⟨y0, y1, y2, y3, y4, y5, y6, y7, y8, y9, y10⟩, yf⟩ := G1.out.2.2.2.2.1.tc11
 clear yf
 go_wp2_with fail
 refine (markTable_f X.op a2 _ c2 (s + csVC X.set) _ K2 _ (by first | rfl | (have := HC.out; have := HK1.out; omega)) G1.out.2.1 o2  (by have := HC.out; omega)).mono ?_
 rintro e w2 ⟨rfl, m2, cg⟩
 have G2 : Hid (Fit w2 (.list 7 X.set.n (fun i => trs (xrT (nmRu ((s) + sumN i (fun i => ctRu (X.set.f i))) (X.set.f i))))) K1 (.slice a1 l1 c1) /\ Fit w2 (.list 13 X.op.m (fun i => trs (dT (nmVD ((s + csVC X.set) + sumN i (fun i => ctVD (X.op.f i))) (X.op.f i))))) K2 (.slice a2 l2 c2) /\ Fit w2 (.list 17 X.nl (fun i => trs (xnT (X.lf i)))) K3 (.slice a3 l3 c3) /\ Cg w w2 (fun b => K1.bl b \/ K2.bl b \/ K3.bl b) /\ Blk w2 w.heap.size 41 (xfL X a1 l1 c1 a2 l2 c2 a3 l3 c3).toArray /\ w.heap.size < w2.heap.size) := ⟨G1.out.1.cg cg (fun b hb hb9 => d12 b hb hb9), m2, G1.out.2.2.1.cg cg (fun b hb hb9 => d32 b hb hb9), G1.out.2.2.2.1.trans (cg.mono (fun b hb => by simp [hb])), (cg.block w.heap.size G1.out.2.2.2.2.2 (fun q => by have h9 := HN.out; first | exact absurd (h9.2.1 w.heap.size q) (Nat.lt_irrefl _) | (rcases q with q | q <;> first | exact absurd (h9.1 w.heap.size q) (Nat.lt_irrefl _) | exact absurd (h9.2.1 w.heap.size q) (Nat.lt_irrefl _) | exact absurd (h9.2.2.1 w.heap.size q) (Nat.lt_irrefl _)))).trans G1.out.2.2.2.2.1, Nat.lt_of_lt_of_le G1.out.2.2.2.2.2 cg.size⟩
 obtain ⟨k2, hk2⟩ : ∃ k2 : Nat, k2 = s + csVC X.set + csVT X.op := ⟨_, rfl⟩
 rw [<- hk2]
 have HK2 : Hid (k2 = s + csVC X.set + csVT X.op) := hk2
 clear hk2 cg m2 G1 y0 y1 y2 y3 y4 y5 y6 y7 y8 y9 y10
 obtain ⟨⟨y0, y1, y2, y3, y4, y5, y6, y7, y8, y9, y10⟩, yf⟩ := G2.out.2.2.2.2.1.tc11
 clear yf
 go_wp2_with fail
 refine (markLineS_f X.nl X.lf a3 _ c3 (s + csVC X.set + csVT X.op) _ K3 _ (by first | rfl | (have := HC.out; have := HK1.out; have := HK2.out; omega)) G2.out.2.2.1 o3 (by have := HC.out; omega)).mono ?_
 rintro e w3 ⟨rfl, m3, cg⟩
 have G3 : Hid (Fit w3 (.list 7 X.set.n (fun i => trs (xrT (nmRu ((s) + sumN i (fun i => ctRu (X.set.f i))) (X.set.f i))))) K1 (.slice a1 l1 c1) /\ Fit w3 (.list 13 X.op.m (fun i => trs (dT (nmVD ((s + csVC X.set) + sumN i (fun i => ctVD (X.op.f i))) (X.op.f i))))) K2 (.slice a2 l2 c2) /\ Fit w3 (.list 17 X.nl (fun i => trs (xnT (nmVN (s + csVC X.set + csVT X.op + sumN i (fun i => ctVN (X.lf i))) (X.lf i))))) K3 (.slice a3 l3 c3) /\ Cg w w3 (fun b => K1.bl b \/ K2.bl b \/ K3.bl b) /\ Blk w3 w.heap.size 41 (xfL X a1 l1 c1 a2 l2 c2 a3 l3 c3).toArray /\ w.heap.size < w3.heap.size) := ⟨G2.out.1.cg cg (fun b hb hb9 => d13 b hb hb9), G2.out.2.1.cg cg (fun b hb hb9 => d23 b hb hb9), m3, G2.out.2.2.2.1.trans (cg.mono (fun b hb => by simp [hb])), (cg.block w.heap.size G2.out.2.2.2.2.2 (fun q => by have h9 := HN.out; first | exact absurd (h9.2.2.1 w.heap.size q) (Nat.lt_irrefl _) | (rcases q with q | q <;> first | exact absurd (h9.1 w.heap.size q) (Nat.lt_irrefl _) | exact absurd (h9.2.1 w.heap.size q) (Nat.lt_irrefl _) | exact absurd (h9.2.2.1 w.heap.size q) (Nat.lt_irrefl _)))).trans G2.out.2.2.2.2.1, Nat.lt_of_lt_of_le G2.out.2.2.2.2.2 cg.size⟩
 obtain ⟨k3, hk3⟩ : ∃ k3 : Nat, k3 = s + csVC X.set + csVT X.op + sumN X.nl (fun i => ctVN (X.lf i)) := ⟨_, rfl⟩
 rw [<- hk3]
 have HK3 : Hid (k3 = s + csVC X.set + csVT X.op + sumN X.nl (fun i => ctVN (X.lf i))) := hk3
 clear hk3 cg m3 G2 y0 y1 y2 y3 y4 y5 y6 y7 y8 y9 y10
 have HE : Hid (((k3 : Nat) : Int) = ((s + csVF X : Nat) : Int)) := by show _ = _; have := HC.out; have := HK3.out; omega
 go_wp2
 go_ret
 exact ⟨congrArg (fun z => Ending.returned (Value.int .i64 z)) HE.out, G3.out.1, G3.out.2.1, G3.out.2.2.1, G3.out.2.2.2.1⟩
theorem heldConfig_f (X : VC) (a1 : Option Addr) (l1 c1 : Nat) (s : Nat) (x : Int) (w : World) (hx : x = ((s : Nat) : Int)) (r1 : Rd w 0 (.list 7 X.n (fun i => trs (xrT (nmRu (s + sumN i (fun i => ctRu (X.f i))) (X.f i))))) (.slice a1 l1 c1)) (hB : s + csVC X <= 1125899906842624) :
 Calls Tryz.prog 64 #[.agg (xcL X a1 l1 c1).toArray, .int .i64 x] w fun e w' => e = .returned (.int .i64 ((s + csVC X : Nat) : Int)) /\ Below w.heap.size w w' := by
 subst hx
 obtain ⟨W, hW⟩ : ∃ W, W = w.alloc (.cells (xcL X a1 l1 c1).toArray 35) := ⟨_, rfl⟩
 have G0 : Hid (Below w.heap.size w W /\ Blk W w.heap.size 35 (xcL X a1 l1 c1).toArray) := ⟨by rw [hW]; exact bel_alloc _ _, by rw [hW]; exact Blk.new _ _ _⟩
 have HR : Hid (Rd w 0 (.list 7 X.n (fun i => trs (xrT (nmRu (s + sumN i (fun i => ctRu (X.f i))) (X.f i))))) (.slice a1 l1 c1) /\ True) := ⟨r1, trivial⟩
 have HC : Hid (csVC X = sumN X.n (fun i => ctRu (X.f i))) := rfl
 clear r1
 go_enter Tryz.func64, Tryz.ntmps64
 go_upto_region 1 with fail
 rw [<- hW]
 clear hW
 obtain ⟨⟨y0, y1, y2⟩, yf⟩ := G0.out.2.tc3
 clear yf
 go_wp2_with fail
 refine (heldRuleS_f X.n X.f a1 _ c1 (s) _ _ (by first | rfl | (have := HC.out; omega)) (HR.out.1.below G0.out.1) (by have := HC.out; omega)).mono ?_
 rintro e w1 ⟨rfl, hw9⟩
 have b9 : Below W.heap.size W w1 := by rw [hw9]; exact Below.refl _ _
 clear hw9
 have G1 : Hid (Below w.heap.size w w1 /\ Blk w1 w.heap.size 35 (xcL X a1 l1 c1).toArray) := ⟨bel_nx G0.out.1 b9, G0.out.2.below b9⟩
 obtain ⟨k1, hk1⟩ : ∃ k1 : Nat, k1 = s + sumN X.n (fun i => ctRu (X.f i)) := ⟨_, rfl⟩
 rw [<- hk1]
 have HK1 : Hid (k1 = s + sumN X.n (fun i => ctRu (X.f i))) := hk1
 have nn1 : ¬ ((k1 : Int) < 0) := by omega
 clear hk1 b9 G0 y0 y1 y2
 have HE : Hid (((k1 : Nat) : Int) = ((s + csVC X : Nat) : Int)) := by show _ = _; have := HC.out; have := HK1.out; omega
 go_wp2
 go_ret
 exact ⟨congrArg (fun z => Ending.returned (Value.int .i64 z)) HE.out, G1.out.1⟩
theorem heldTable_f (X : VT) (a1 : Option Addr) (l1 c1 : Nat) (s : Nat) (x : Int) (w : World) (hx : x = ((s : Nat) : Int)) (r1 : Rd w 0 (.list 13 X.m (fun i => trs (dT (nmVD (s + sumN i (fun i => ctVD (X.f i))) (X.f i))))) (.slice a1 l1 c1)) (hB : s + csVT X <= 1125899906842624) :
 Calls Tryz.prog 65 #[.agg (tL X a1 l1 c1).toArray, .int .i64 x] w fun e w' => e = .returned (.int .i64 ((s + csVT X : Nat) : Int)) /\ Below w.heap.size w w' := by
 subst hx
 obtain ⟨W, hW⟩ : ∃ W, W = w.alloc (.cells (tL X a1 l1 c1).toArray 38) := ⟨_, rfl⟩
 have G0 : Hid (Below w.heap.size w W /\ Blk W w.heap.size 38 (tL X a1 l1 c1).toArray) := ⟨by rw [hW]; exact bel_alloc _ _, by rw [hW]; exact Blk.new _ _ _⟩
 have HR : Hid (Rd w 0 (.list 13 X.m (fun i => trs (dT (nmVD (s + sumN i (fun i => ctVD (X.f i))) (X.f i))))) (.slice a1 l1 c1) /\ True) := ⟨r1, trivial⟩
 have HC : Hid (csVT X = sumN X.m (fun i => ctVD (X.f i))) := rfl
 clear r1
 go_enter Tryz.func65, Tryz.ntmps65
 go_upto_region 1 with fail
 rw [<- hW]
 clear hW
 obtain ⟨⟨y0, y1⟩, yf⟩ := G0.out.2.tc2
 clear yf
 go_wp2_with fail
 refine (heldPendS_f X.m X.f a1 _ c1 (s) _ _ (by first | rfl | (have := HC.out; omega)) (HR.out.1.below G0.out.1) (by have := HC.out; omega)).mono ?_
 rintro e w1 ⟨rfl, hw9⟩
 have b9 : Below W.heap.size W w1 := by rw [hw9]; exact Below.refl _ _
 clear hw9
 have G1 : Hid (Below w.heap.size w w1 /\ Blk w1 w.heap.size 38 (tL X a1 l1 c1).toArray) := ⟨bel_nx G0.out.1 b9, G0.out.2.below b9⟩
 obtain ⟨k1, hk1⟩ : ∃ k1 : Nat, k1 = s + sumN X.m (fun i => ctVD (X.f i)) := ⟨_, rfl⟩
 rw [<- hk1]
 have HK1 : Hid (k1 = s + sumN X.m (fun i => ctVD (X.f i))) := hk1
 have nn1 : ¬ ((k1 : Int) < 0) := by omega
 clear hk1 b9 G0 y0 y1
 have HE : Hid (((k1 : Nat) : Int) = ((s + csVT X : Nat) : Int)) := by show _ = _; have := HC.out; have := HK1.out; omega
 go_wp2
 go_ret
 exact ⟨congrArg (fun z => Ending.returned (Value.int .i64 z)) HE.out, G1.out.1⟩
theorem heldFabric_f (X : VF) (a1 : Option Addr) (l1 c1 : Nat) (a2 : Option Addr) (l2 c2 : Nat) (a3 : Option Addr) (l3 c3 : Nat) (s : Nat) (x : Int) (w : World) (hx : x = ((s : Nat) : Int)) (r1 : Rd w 0 (.list 7 X.set.n (fun i => trs (xrT (nmRu ((s) + sumN i (fun i => ctRu (X.set.f i))) (X.set.f i))))) (.slice a1 l1 c1)) (r2 : Rd w 0 (.list 13 X.op.m (fun i => trs (dT (nmVD ((s + csVC X.set) + sumN i (fun i => ctVD (X.op.f i))) (X.op.f i))))) (.slice a2 l2 c2)) (r3 : Rd w 0 (.list 17 X.nl (fun i => trs (xnT (nmVN (s + csVC X.set + csVT X.op + sumN i (fun i => ctVN (X.lf i))) (X.lf i))))) (.slice a3 l3 c3)) (hB : s + csVF X <= 1125899906842624) :
 Calls Tryz.prog 20 #[.agg (xfL X a1 l1 c1 a2 l2 c2 a3 l3 c3).toArray, .int .i64 x] w fun e w' => e = .returned (.int .i64 ((s + csVF X : Nat) : Int)) /\ Below w.heap.size w w' := by
 subst hx
 obtain ⟨W, hW⟩ : ∃ W, W = w.alloc (.cells (xfL X a1 l1 c1 a2 l2 c2 a3 l3 c3).toArray 41) := ⟨_, rfl⟩
 have G0 : Hid (Below w.heap.size w W /\ Blk W w.heap.size 41 (xfL X a1 l1 c1 a2 l2 c2 a3 l3 c3).toArray) := ⟨by rw [hW]; exact bel_alloc _ _, by rw [hW]; exact Blk.new _ _ _⟩
 have HR : Hid (Rd w 0 (.list 7 X.set.n (fun i => trs (xrT (nmRu ((s) + sumN i (fun i => ctRu (X.set.f i))) (X.set.f i))))) (.slice a1 l1 c1) /\ Rd w 0 (.list 13 X.op.m (fun i => trs (dT (nmVD ((s + csVC X.set) + sumN i (fun i => ctVD (X.op.f i))) (X.op.f i))))) (.slice a2 l2 c2) /\ Rd w 0 (.list 17 X.nl (fun i => trs (xnT (nmVN (s + csVC X.set + csVT X.op + sumN i (fun i => ctVN (X.lf i))) (X.lf i))))) (.slice a3 l3 c3) /\ True) := ⟨r1, r2, r3, trivial⟩
 have HC : Hid (csVF X = csVC X.set + csVT X.op + sumN X.nl (fun i => ctVN (X.lf i))) := rfl
 clear r1 r2 r3
 go_enter Tryz.func20, Tryz.ntmps20
 go_upto_region 1 with fail
 rw [<- hW]
 clear hW
 obtain ⟨⟨y0, y1, y2, y3, y4, y5, y6, y7, y8, y9, y10⟩, yf⟩ := G0.out.2.tc11
 clear yf
 go_wp2_with fail
 refine (heldConfig_f X.set a1 _ c1 (s) _ _ (by first | rfl | (have := HC.out; omega)) (HR.out.1.below G0.out.1) (by have := HC.out; omega)).mono ?_
 rintro e w1 ⟨rfl, b9⟩
 have G1 : Hid (Below w.heap.size w w1 /\ Blk w1 w.heap.size 41 (xfL X a1 l1 c1 a2 l2 c2 a3 l3 c3).toArray) := ⟨bel_nx G0.out.1 b9, G0.out.2.below b9⟩
 obtain ⟨k1, hk1⟩ : ∃ k1 : Nat, k1 = s + csVC X.set := ⟨_, rfl⟩
 rw [<- hk1]
 have HK1 : Hid (k1 = s + csVC X.set) := hk1
 have nn1 : ¬ ((k1 : Int) < 0) := by omega
 clear hk1 b9 G0 y0 y1 y2 y3 y4 y5 y6 y7 y8 y9 y10
 obtain ⟨⟨y0, y1, y2, y3, y4, y5, y6, y7, y8, y9, y10⟩, yf⟩ := G1.out.2.tc11
 clear yf
 go_wp2_with fail
 refine (heldTable_f X.op a2 _ c2 (s + csVC X.set) _ _ (by first | rfl | (have := HC.out; have := HK1.out; omega)) (HR.out.2.1.below G1.out.1) (by have := HC.out; omega)).mono ?_
 rintro e w2 ⟨rfl, b9⟩
 have G2 : Hid (Below w.heap.size w w2 /\ Blk w2 w.heap.size 41 (xfL X a1 l1 c1 a2 l2 c2 a3 l3 c3).toArray) := ⟨bel_nx G1.out.1 b9, G1.out.2.below b9⟩
 obtain ⟨k2, hk2⟩ : ∃ k2 : Nat, k2 = s + csVC X.set + csVT X.op := ⟨_, rfl⟩
 rw [<- hk2]
 have HK2 : Hid (k2 = s + csVC X.set + csVT X.op) := hk2
 have nn2 : ¬ ((k2 : Int) < 0) := by omega
 clear hk2 b9 G1 y0 y1 y2 y3 y4 y5 y6 y7 y8 y9 y10
 obtain ⟨⟨y0, y1, y2, y3, y4, y5, y6, y7, y8, y9, y10⟩, yf⟩ := G2.out.2.tc11
 clear yf
 go_wp2_with fail
 refine (heldLineS_f X.nl X.lf a3 _ c3 (s + csVC X.set + csVT X.op) _ _ (by first | rfl | (have := HC.out; have := HK1.out; have := HK2.out; omega)) (HR.out.2.2.1.below G2.out.1) (by have := HC.out; omega)).mono ?_
 rintro e w3 ⟨rfl, hw9⟩
 have b9 : Below w2.heap.size w2 w3 := by rw [hw9]; exact Below.refl _ _
 clear hw9
 have G3 : Hid (Below w.heap.size w w3 /\ Blk w3 w.heap.size 41 (xfL X a1 l1 c1 a2 l2 c2 a3 l3 c3).toArray) := ⟨bel_nx G2.out.1 b9, G2.out.2.below b9⟩
 obtain ⟨k3, hk3⟩ : ∃ k3 : Nat, k3 = s + csVC X.set + csVT X.op + sumN X.nl (fun i => ctVN (X.lf i)) := ⟨_, rfl⟩
 rw [<- hk3]
 have HK3 : Hid (k3 = s + csVC X.set + csVT X.op + sumN X.nl (fun i => ctVN (X.lf i))) := hk3
 have nn3 : ¬ ((k3 : Int) < 0) := by omega
 clear hk3 b9 G2 y0 y1 y2 y3 y4 y5 y6 y7 y8 y9 y10
 have HE : Hid (((k3 : Nat) : Int) = ((s + csVF X : Nat) : Int)) := by show _ = _; have := HC.out; have := HK3.out; omega
 go_wp2
 go_ret
 exact ⟨congrArg (fun z => Ending.returned (Value.int .i64 z)) HE.out, G3.out.1⟩
theorem markConfig_o (X : VC) (a1 : Option Addr) (l1 c1 : Nat) (s lo hi : Nat) (x : Int) (w : World) (hx : x = ((s : Nat) : Int)) (h : Own1 w lo hi (xcT X) (xcL X a1 l1 c1)) (hB : s + csVC X <= 1125899906842624) :
 Calls Tryz.prog 32 #[.agg (xcL X a1 l1 c1).toArray, .int .i64 x] w fun e w' => e = .returned (.int .i64 ((s + csVC X : Nat) : Int)) /\ Own1 w' lo hi (xcT (nsVC s X)) (xcL X a1 l1 c1) /\ Cg w w' (fun b => lo <= b /\ b < hi) := by
 obtain ⟨K, h1, h2, h3, h4⟩ := h
 refine (markConfig_f X a1 _ c1 s x (K 2) w hx (h2 2 _ rfl) (h3 2 (show 2 < (xcT X).length by simp [xcT])).1  hB).mono ?_
 rintro e w' ⟨rfl, m1, cg⟩
 refine ⟨rfl, ⟨K, rfl, fun i v hv => ?_, h3, h4⟩, cg.mono (fun b hb => ?_)⟩
 ·match i, hv with
  | 0, hv => have q := h2 0 v hv; exact q
  | 1, hv => have q := h2 1 v hv; exact q
  | 2, hv => obtain rfl := Option.some.inj (show some _ = some v from hv); exact m1
  | i + 3, hv => simp at hv
 exact (h3 2 (show 2 < (xcT X).length by simp [xcT])).2 b hb
end Go.Proofs.YtkfgijkkffbpmaaGreat
namespace Go.Proofs.YtkfgijkkffbpmaaGreat
open Go.RowKit Go.Joins
def lnV (wt tr : Int) : VN := ⟨0, fun _ => default, false, ⟨0, 0, 0, ⟨0, 0, 0, [], [], 0⟩⟩, 0, 0, 0, 0, wt, tr⟩
def nwF (ok : Bool) (wt tr : Int) (n : Nat) (f : Nat -> Ru) : VF := match ok with
 | true => ⟨0, ⟨wt, tr, n, f⟩, ⟨0, 0, fun _ => default⟩, 6, fun _ => lnV wt tr, 0, 0, 0, 0⟩
 | false => ⟨0, ⟨0, 0, 0, f⟩, ⟨0, 0, fun _ => default⟩, 0, fun _ => lnV wt tr, 0, 0, 0, 0⟩
theorem fit_no {w : World} {s : Nat} {f : Nat -> Nat -> Tr} {a : Option Addr} {c : Nat} : Fit w (.list s 0 f) .leaf (.slice a 0 c) := ⟨rfl, a, c, rfl⟩
theorem RowU.fit {w : World} {g n c : Nat} {f : Nat -> Ru} (h : RowU w g n f) (hn : n <= maxLen) (hc : n <= c) : Fit w (.list 7 n (fun i => trs (xrT (f i)))) (.row g 0 7 n (fun _ _ => .leaf)) (.slice (some ⟨g, 0, none⟩) n c) := by
 refine ⟨rfl, rfl, c, rfl, hc, hn, h.lt, h.fro, fun k j hk hj => ?_⟩
 match j, hj with
 | 0, _ => exact ⟨_, (by rw [Nat.zero_add, h.cell hk (by decide)]; rfl), rfl, rfl⟩
 | 1, _ => exact ⟨_, (by rw [Nat.zero_add, h.cell hk (by decide)]; rfl), rfl, rfl⟩
 | 2, _ => exact ⟨_, (by rw [Nat.zero_add, h.cell hk (by decide)]; rfl), rfl, rfl⟩
 | 3, _ => exact ⟨_, (by rw [Nat.zero_add, h.cell hk (by decide)]; rfl), rfl, rfl⟩
 | 4, _ => exact ⟨_, (by rw [Nat.zero_add, h.cell hk (by decide)]; rfl), rfl, rfl⟩
 | 5, _ => exact ⟨_, (by rw [Nat.zero_add, h.cell hk (by decide)]; rfl), rfl, rfl⟩
 | 6, _ => exact ⟨_, (by rw [Nat.zero_add, h.cell hk (by decide)]; rfl), rfl, rfl⟩
theorem RowL.fit {w : World} {g : Nat} {wt tr : Int} (h : RowS w g 98 17 6 (fun _ => lnL wt tr)) : Fit w (.list 17 6 (fun i => trs (xnT (lnV wt tr)))) (.row g 0 17 6 (fun _ _ => .leaf)) (.slice (some ⟨g, 0, none⟩) 6 6) := by
 refine ⟨rfl, rfl, 6, rfl, Nat.le_refl _, by decide, h.lt, h.fro, fun k j hk hj => ?_⟩
 match j, hj with
 | 0, _ => exact ⟨_, (by rw [Nat.zero_add, h.cell hk (by decide)]; rfl), fit_no⟩
 | 1, _ => exact ⟨_, (by rw [Nat.zero_add, h.cell hk (by decide)]; rfl), rfl, rfl⟩
 | 2, _ => exact ⟨_, (by rw [Nat.zero_add, h.cell hk (by decide)]; rfl), rfl, rfl⟩
 | 3, _ => exact ⟨_, (by rw [Nat.zero_add, h.cell hk (by decide)]; rfl), rfl, rfl⟩
 | 4, _ => exact ⟨_, (by rw [Nat.zero_add, h.cell hk (by decide)]; rfl), rfl, rfl⟩
 | 5, _ => exact ⟨_, (by rw [Nat.zero_add, h.cell hk (by decide)]; rfl), rfl, rfl⟩
 | 6, _ => exact ⟨_, (by rw [Nat.zero_add, h.cell hk (by decide)]; rfl), rfl, rfl⟩
 | 7, _ => exact ⟨_, (by rw [Nat.zero_add, h.cell hk (by decide)]; rfl), rfl, rfl⟩
 | 8, _ => exact ⟨_, (by rw [Nat.zero_add, h.cell hk (by decide)]; rfl), fit_no⟩
 | 9, _ => exact ⟨_, (by rw [Nat.zero_add, h.cell hk (by decide)]; rfl), fit_no⟩
 | 10, _ => exact ⟨_, (by rw [Nat.zero_add, h.cell hk (by decide)]; rfl), rfl, rfl⟩
 | 11, _ => exact ⟨_, (by rw [Nat.zero_add, h.cell hk (by decide)]; rfl), rfl, rfl⟩
 | 12, _ => exact ⟨_, (by rw [Nat.zero_add, h.cell hk (by decide)]; rfl), rfl, rfl⟩
 | 13, _ => exact ⟨_, (by rw [Nat.zero_add, h.cell hk (by decide)]; rfl), rfl, rfl⟩
 | 14, _ => exact ⟨_, (by rw [Nat.zero_add, h.cell hk (by decide)]; rfl), rfl, rfl⟩
 | 15, _ => exact ⟨_, (by rw [Nat.zero_add, h.cell hk (by decide)]; rfl), rfl, rfl⟩
 | 16, _ => exact ⟨_, (by rw [Nat.zero_add, h.cell hk (by decide)]; rfl), rfl, rfl⟩
 | j + 17, hj => exact absurd hj (by omega)
theorem sk_row {g s n b : Nat} (h : (Sk.row g 0 s n (fun _ _ => .leaf)).bl b) : b = g := by
 rcases h with h | ⟨_, _, _, _, h⟩
 ·exact h
 exact h.elim
theorem sk_ok (g s n : Nat) : (Sk.row g 0 s n (fun _ _ => .leaf)).ok := ⟨fun _ _ _ _ => ⟨trivial, fun x => x⟩, fun _ _ _ _ _ _ _ _ _ _ x => x.elim⟩
theorem fbQ_own {w w' : World} {e : Ending} {ok : Bool} {wt tr : Int} {n : Nat} {f : Nat -> Ru} (h : FbQ w w' e ok wt tr n f) (hn : ok = true -> n <= 24) :
 ∃ a1 c1 a2 c2 a3 c3, e = .returned (.agg (xfL (nwF ok wt tr n f) a1 (nwF ok wt tr n f).set.n c1 a2 (nwF ok wt tr n f).op.m c2 a3 (nwF ok wt tr n f).nl c3).toArray) /\ Own1 w' w.heap.size w'.heap.size (xfT (nwF ok wt tr n f)) (xfL (nwF ok wt tr n f) a1 (nwF ok wt tr n f).set.n c1 a2 (nwF ok wt tr n f).op.m c2 a3 (nwF ok wt tr n f).nl c3) /\ Below w.heap.size w w' := by
 obtain ⟨hb, ⟨rfl, he⟩ | ⟨rfl, g, h, he, rU, rL, h1, h2⟩⟩ := h
 ·refine ⟨none, 0, none, 0, none, 0, he, ⟨fun _ => .leaf, rfl, fun i v hv => ?_, fun i _ => ⟨trivial, fun b hb => hb.elim⟩, fun i i' _ _ _ b hb => hb.elim⟩, hb⟩
  match i, hv with
  | 0, hv => obtain rfl := Option.some.inj (show some _ = some v from hv); exact ⟨rfl, rfl⟩
  | 1, hv => obtain rfl := Option.some.inj (show some _ = some v from hv); exact ⟨rfl, rfl⟩
  | 2, hv => obtain rfl := Option.some.inj (show some _ = some v from hv); exact ⟨rfl, rfl⟩
  | 3, hv => obtain rfl := Option.some.inj (show some _ = some v from hv); exact fit_no
  | 4, hv => obtain rfl := Option.some.inj (show some _ = some v from hv); exact ⟨rfl, rfl⟩
  | 5, hv => obtain rfl := Option.some.inj (show some _ = some v from hv); exact fit_no
  | 6, hv => obtain rfl := Option.some.inj (show some _ = some v from hv); exact fit_no
  | 7, hv => obtain rfl := Option.some.inj (show some _ = some v from hv); exact ⟨rfl, rfl⟩
  | 8, hv => obtain rfl := Option.some.inj (show some _ = some v from hv); exact ⟨rfl, rfl⟩
  | 9, hv => obtain rfl := Option.some.inj (show some _ = some v from hv); exact ⟨rfl, rfl⟩
  | 10, hv => obtain rfl := Option.some.inj (show some _ = some v from hv); exact ⟨rfl, rfl⟩
  | i + 11, hv => simp at hv
 have hne := rowS_ne rU rL (by decide)
 have hn' := hn rfl
 have hm9 : n <= maxLen := by unfold maxLen; omega
 refine ⟨_, _, none, 0, _, _, he, ⟨fun i => if i = 3 then .row g 0 7 n (fun _ _ => .leaf) else if i = 6 then .row h 0 17 6 (fun _ _ => .leaf) else .leaf, rfl, fun i v hv => ?_, fun i _ => ?_, fun i i' _ _ hii b hb hb' => ?_⟩, hb⟩
 ·match i, hv with
  | 0, hv => obtain rfl := Option.some.inj (show some _ = some v from hv); exact ⟨rfl, rfl⟩
  | 1, hv => obtain rfl := Option.some.inj (show some _ = some v from hv); exact ⟨rfl, rfl⟩
  | 2, hv => obtain rfl := Option.some.inj (show some _ = some v from hv); exact ⟨rfl, rfl⟩
  | 3, hv => obtain rfl := Option.some.inj (show some _ = some v from hv); exact RowU.fit rU hm9 (Nat.le_refl n)
  | 4, hv => obtain rfl := Option.some.inj (show some _ = some v from hv); exact ⟨rfl, rfl⟩
  | 5, hv => obtain rfl := Option.some.inj (show some _ = some v from hv); exact fit_no
  | 6, hv => obtain rfl := Option.some.inj (show some _ = some v from hv); exact RowL.fit rL
  | 7, hv => obtain rfl := Option.some.inj (show some _ = some v from hv); exact ⟨rfl, rfl⟩
  | 8, hv => obtain rfl := Option.some.inj (show some _ = some v from hv); exact ⟨rfl, rfl⟩
  | 9, hv => obtain rfl := Option.some.inj (show some _ = some v from hv); exact ⟨rfl, rfl⟩
  | 10, hv => obtain rfl := Option.some.inj (show some _ = some v from hv); exact ⟨rfl, rfl⟩
  | i + 11, hv => simp at hv
 ·by_cases e3 : i = 3
  ·subst e3; exact ⟨sk_ok _ _ _, fun b hb => by rw [sk_row hb]; exact ⟨h1, RowS.lt rU⟩⟩
  by_cases e6 : i = 6
  ·subst e6; exact ⟨sk_ok _ _ _, fun b hb => by rw [sk_row hb]; exact ⟨h2, RowS.lt rL⟩⟩
  simp only [if_neg e3, if_neg e6]; exact ⟨trivial, fun b hb => hb.elim⟩
 dsimp only at hb hb'
 by_cases e3 : i = 3
 ·subst e3
  rw [if_pos rfl] at hb
  have q := sk_row hb
  rw [if_neg (fun q => hii q.symm)] at hb'
  by_cases e6 : i' = 6
  ·rw [if_pos e6] at hb'; exact hne (q.symm.trans (sk_row hb'))
  rw [if_neg e6] at hb'; exact hb'
 rw [if_neg e3] at hb
 by_cases e6 : i = 6
 ·subst e6
  rw [if_pos rfl] at hb
  have q := sk_row hb
  by_cases e3' : i' = 3
  ·rw [if_pos e3'] at hb'; exact hne ((sk_row hb').symm.trans q)
  rw [if_neg e3', if_neg (fun q => hii q.symm)] at hb'; exact hb'
 rw [if_neg e6] at hb; exact hb
theorem rd_no {w : World} {lo s : Nat} {f : Nat -> Nat -> Tr} {a : Option Addr} {c : Nat} : Rd w lo (.list s 0 f) (.slice a 0 c) := ⟨a, c, rfl, Nat.zero_le _, Nat.zero_le _, .inl rfl⟩
theorem sumN_c (g : Nat -> Nat) (c : Nat) (h : ∀ k, g k <= c) : ∀ n, sumN n g <= n * c
 | 0 => by simp [sumN]
 | n + 1 => by
  have := sumN_c g c h n
  have := h n
  simp only [sumN, Nat.add_mul, Nat.one_mul]
  omega
theorem nwF_sz (ok : Bool) (wt tr : Int) (n : Nat) (f : Nat -> Ru) (hn : ok = true -> n <= 24) : szT 11 (trs (xfT (nwF ok wt tr n f))) <= 1048576 /\ csVF (nwF ok wt tr n f) <= 100000 := by
 have hl : szT 17 (trs (xnT (lnV wt tr))) = 0 := by rw [szT_xn]; rfl
 have hc : ctVN (lnV wt tr) <= 100 := by
  simp [ctVN, ctVL, ctVQ, lnV, sumN]
 have hr : ∀ k, ctRu (f k) <= 7 := fun k => by simp [ctRu]
 cases ok
 case false =>
  rw [szT_xf]
  exact ⟨by show 0 + 0 + 0 <= _; omega, by show 0 + 0 + 0 <= _; omega⟩
 have hn' := hn rfl
 have h1 : (Tr.list 7 n (fun i => trs (xrT (f i)))).sz = n := by rw [Tr.sz_list, sum0 _ _ (fun k => szT_xr _)]; rfl
 have h2 : (Tr.list 17 6 (fun i => trs (xnT (lnV wt tr)))).sz = 6 := by rw [Tr.sz_list, sum0 _ _ (fun k => hl)]
 have h3 := sumN_c (fun k => ctRu (f k)) 7 hr n
 have h4 := sumN_c (fun _ => ctVN (lnV wt tr)) 100 (fun _ => hc) 6
 rw [szT_xf]
 refine ⟨?_, ?_⟩
 ·show (Tr.list 7 n (fun i => trs (xrT (f i)))).sz + 0 + (Tr.list 17 6 (fun i => trs (xnT (lnV wt tr)))).sz <= _
  rw [h1, h2]; omega
 show sumN n (fun k => ctRu (f k)) + 0 + sumN 6 (fun _ => ctVN (lnV wt tr)) <= _
 omega
theorem Blk.cgX {w w' : World} {S : Nat -> Prop} {b : Nat} {t : TypeId} {cs : Array Value} (h : Blk w b t cs) (hc : Cg w w' S) (hn : ¬ S b) : Blk w' b t cs := (hc.block b h.lt hn).trans h
end Go.Proofs.YtkfgijkkffbpmaaGreat
namespace Go.Proofs.YtkfgijkkffbpmaaGreat
open Go.RowKit Go.Joins
end Go.Proofs.YtkfgijkkffbpmaaGreat
namespace Go.Proofs.YtkfgijkkffbpmaaGreat
open Go.RowKit Go.Joins
theorem dis_IB {w : World} {lo lo' : Nat} {v1 v2 : Value} {ws : List Int} {bs : List Bool} (h1 : OwnI w lo v1 ws) (h2 : OwnB w lo' v2 bs) {b : Nat} (e1 : v1.ownBlock = some b) (e2 : v2.ownBlock = some b) : False := by
 obtain ⟨_, h1⟩ := h1
 obtain ⟨_, h2⟩ := h2
 rcases h1 with ⟨rfl, _⟩ | ⟨g, _, _, rfl, _, hg, _⟩
 ·simp [Value.ownBlock] at e1
 rcases h2 with ⟨rfl, _⟩ | ⟨g', _, _, rfl, _, hg', _⟩
 ·simp [Value.ownBlock] at e2
 simp only [Value.ownBlock, Option.some.injEq] at e1 e2
 subst e1 e2
 rw [hg] at hg'
 simp at hg'
end Go.Proofs.YtkfgijkkffbpmaaGreat
namespace Go.Proofs.YtkfgijkkffbpmaaGreat
open Go.RowKit
abbrev dv (a1 a2 a3 a4 : Option Addr) (l1 l2 l3 l4 c1 c2 c3 c4 : Nat) : Value := .agg #[.slice a1 l1 c1, .slice a2 l2 c2, .slice a3 l3 c3, .slice a4 l4 c4]
theorem Blk.four {w : World} {g : Nat} {t : TypeId} {v0 v1 v2 v3 : Value} (h : Blk w g t #[v0, v1, v2, v3]) : w.cell? ⟨g, 0, none⟩ = some v0 /\ w.cell? ⟨g, 1, none⟩ = some v1 /\ w.cell? ⟨g, 2, none⟩ = some v2 /\ w.cell? ⟨g, 3, none⟩ = some v3 :=
 ⟨h.cell 0 rfl, h.cell 1 rfl, h.cell 2 rfl, h.cell 3 rfl⟩
def SlD (w : World) (a1 a2 a3 a4 : Option Addr) (cs is : List Bool) (hs rs : List Int) : Prop := SlB w a1 cs /\ SlB w a2 is /\ SlI w a3 hs /\ SlI w a4 rs
def LnD (l1 l2 l3 l4 : Nat) (cs is : List Bool) (hs rs : List Int) : Prop := l1 = cs.length /\ l2 = is.length /\ l3 = hs.length /\ l4 = rs.length
def SmD (m : Nat) (cs is : List Bool) (hs rs : List Int) : Prop := cs.length <= m /\ is.length <= m /\ hs.length <= m /\ rs.length <= m
def Df (v u : Value) : Prop := v.ownBlock = none \/ u.ownBlock = none \/ v.ownBlock ≠ u.ownBlock
theorem Df.symm {v u : Value} (h : Df v u) : Df u v := by
 rcases h with h | h | h
 ·exact .inr (.inl h)
 ·exact .inl h
 exact .inr (.inr (fun e => h e.symm))
theorem Df.ofBase {w w' : World} {b1 b2 s1 s2 n1 n2 : Nat} {e1 e2 : TypeId} {v1 v2 : Value} {x1 x2 : List Value} (h1 : w.ownsRow b1 e1 s1 v1 n1 x1) (h2 : w'.ownsRow b2 e2 s2 v2 n2 x2) (hb : w.heap.size <= b2) : Df v1 v2 := by
 cases e : v1.ownBlock with
 | none => exact .inl e
 | some k =>
  refine .inr (.inr ?_)
  intro e2
  have q1 := (World.ownsRow.lt h1 k e).2
  have q2 := (World.ownsRow.lt h2 k (by rw [<- e2]; exact e)).1
  omega
def OwnD (w : World) (B : Nat) (a1 a2 a3 a4 : Option Addr) (l1 l2 l3 l4 c1 c2 c3 c4 : Nat) (cs is : List Bool) (hs rs : List Int) : Prop :=
 OwnB w B (.slice a1 l1 c1) cs /\ OwnB w B (.slice a2 l2 c2) is /\ OwnI w B (.slice a3 l3 c3) hs /\ OwnI w B (.slice a4 l4 c4) rs /\ Df (.slice a1 l1 c1) (.slice a2 l2 c2) /\ Df (.slice a3 l3 c3) (.slice a4 l4 c4)
theorem SlD.below {w w' : World} {a1 a2 a3 a4 : Option Addr} {cs is : List Bool} {hs rs : List Int} (h : SlD w a1 a2 a3 a4 cs is hs rs) (hb : Below w.heap.size w w') : SlD w' a1 a2 a3 a4 cs is hs rs :=
 ⟨h.1.below hb, h.2.1.below hb, h.2.2.1.below hb, h.2.2.2.below hb⟩
theorem bel_set4 {B : Nat} {W w : World} {g : Nat} {v0 v1 v2 v3 : Value} (hb : Below B W w) (hg : B <= g) : Below B W ((((w.setCell ⟨g, 0, none⟩ v0).setCell ⟨g, 1, none⟩ v1).setCell ⟨g, 2, none⟩ v2).setCell ⟨g, 3, none⟩ v3) :=
 (((hb.setCell (p := ⟨g, 0, none⟩) hg _).setCell (p := ⟨g, 1, none⟩) hg _).setCell (p := ⟨g, 2, none⟩) hg _).setCell (p := ⟨g, 3, none⟩) hg _
theorem row_set4 {w : World} {base size n g : Nat} {e t : TypeId} {v v0 v1 v2 v3 : Value} {xs : List Value} (h : w.ownsRow base e size v n xs) (hb : ExB w g t) (ht : t ≠ e) :
 ((((w.setCell ⟨g, 0, none⟩ v0).setCell ⟨g, 1, none⟩ v1).setCell ⟨g, 2, none⟩ v2).setCell ⟨g, 3, none⟩ v3).ownsRow base e size v n xs :=
 row_setE (row_setE (row_setE (row_setE h hb ht) (ExB.set hb) ht) (ExB.set (ExB.set hb)) ht) (ExB.set (ExB.set (ExB.set hb))) ht
theorem OwnD.set4 {w : World} {B g : Nat} {t : TypeId} {v0 v1 v2 v3 : Value} {a1 a2 a3 a4 : Option Addr} {l1 l2 l3 l4 c1 c2 c3 c4 : Nat} {cs is : List Bool} {hs rs : List Int} (h : OwnD w B a1 a2 a3 a4 l1 l2 l3 l4 c1 c2 c3 c4 cs is hs rs) (hb : ExB w g t) (h1 : t ≠ 4) (h2 : t ≠ 3) :
 OwnD ((((w.setCell ⟨g, 0, none⟩ v0).setCell ⟨g, 1, none⟩ v1).setCell ⟨g, 2, none⟩ v2).setCell ⟨g, 3, none⟩ v3) B a1 a2 a3 a4 l1 l2 l3 l4 c1 c2 c3 c4 cs is hs rs :=
 ⟨row_set4 h.1 hb h1, row_set4 h.2.1 hb h1, row_set4 h.2.2.1 hb h2, row_set4 h.2.2.2.1 hb h2, h.2.2.2.2⟩
theorem toDevice_any (a1 a2 a3 a4 : Option Addr) (l1 l2 l3 l4 c1 c2 c3 c4 : Nat) (cs is : List Bool) (hs rs : List Int) (w : World) (hn : LnD l1 l2 l3 l4 cs is hs rs) (hs0 : SlD w a1 a2 a3 a4 cs is hs rs) (hl : SmD 2000000 cs is hs rs) :
 Calls Tryz.prog 135 #[.agg #[.slice a1 l1 c1, .slice a2 l2 c2, .slice a3 l3 c3, .slice a4 l4 c4]] w fun e w' => ∃ g1 g2 g3 g4, e = .returned (.agg #[.slice (some ⟨g1, 0, none⟩) l1 l1, .slice (some ⟨g2, 0, none⟩) l2 l2, .slice (some ⟨g3, 0, none⟩) l3 l3, .slice (some ⟨g4, 0, none⟩) l4 l4]) /\ OwnD w' w.heap.size (some ⟨g1, 0, none⟩) (some ⟨g2, 0, none⟩) (some ⟨g3, 0, none⟩) (some ⟨g4, 0, none⟩) l1 l2 l3 l4 l1 l2 l3 l4 cs is hs rs /\ Below w.heap.size w w' := by
 obtain ⟨W0, hW0⟩ : ∃ W0, W0 = ((w.alloc (.cells #[.slice a1 l1 c1, .slice a2 l2 c2, .slice a3 l3 c3, .slice a4 l4 c4] 120)).alloc (.cells #[.slice none 0 0, .slice none 0 0, .slice none 0 0, .slice none 0 0] 126)).alloc (.cells #[.slice none 0 0, .slice none 0 0, .slice none 0 0, .slice none 0 0] 126) := ⟨_, rfl⟩
 have HW : Hid (W0 = _) := hW0
 have HN : Hid (LnD l1 l2 l3 l4 cs is hs rs) := hn
 have HL : Hid (SmD 2000000 cs is hs rs) := hl
 have hz : W0.heap.size = w.heap.size + 1 + 1 + 1 := by rw [hW0]; simp
 have b0 : Below w.heap.size w W0 := by rw [hW0]; exact bel_next (bel_next (bel_alloc w _) (bel_alloc _ _)) (bel_alloc _ _)
 have A0 : Blk W0 w.heap.size 120 #[.slice a1 l1 c1, .slice a2 l2 c2, .slice a3 l3 c3, .slice a4 l4 c4] := by rw [hW0]; exact ((Blk.new w _ _).below (bel_alloc _ _)).below (bel_alloc _ _)
 have R0 : Blk W0 (w.heap.size + 1) 126 #[.slice none 0 0, .slice none 0 0, .slice none 0 0, .slice none 0 0] := by
  rw [hW0]; have := (Blk.new (w.alloc (.cells #[.slice a1 l1 c1, .slice a2 l2 c2, .slice a3 l3 c3, .slice a4 l4 c4] 120)) #[.slice none 0 0, .slice none 0 0, .slice none 0 0, .slice none 0 0] 126).below (bel_alloc _ (.cells #[.slice none 0 0, .slice none 0 0, .slice none 0 0, .slice none 0 0] 126)); simpa using this
 have O0 : Blk W0 (w.heap.size + 1 + 1) 126 #[.slice none 0 0, .slice none 0 0, .slice none 0 0, .slice none 0 0] := by
  rw [hW0]; have := Blk.new ((w.alloc (.cells #[.slice a1 l1 c1, .slice a2 l2 c2, .slice a3 l3 c3, .slice a4 l4 c4] 120)).alloc (.cells #[.slice none 0 0, .slice none 0 0, .slice none 0 0, .slice none 0 0] 126)) #[.slice none 0 0, .slice none 0 0, .slice none 0 0, .slice none 0 0] 126; simpa using this
 have HS : Hid (SlD w a1 a2 a3 a4 cs is hs rs) := hs0
 clear hW0 hn hl hs0
 go_enter Tryz.func135, Tryz.ntmps135
 go_upto_region 2 with fail
 rw [<- HW.out]
 have ca := A0.cell 0 rfl
 go_wp2_with fail
 refine (toBoolS_ok a1 l1 c1 cs _ HN.out.1 (HS.out.1.below b0) (by have := HL.out.1; omega)).mono ?_
 rintro e w1 ⟨g1, rfl, i1, b'⟩
 have b1 := bel_next b0 b'
 have A1 := A0.below b'
 have R1 := R0.below b'
 have O1 := O0.below b'
 have co := O1.cell 0 rfl
 have fo := O1.fro 0
 have A2 := A1.setNe (g' := w.heap.size + 1 + 1) (j := 0) (y := .slice (some ⟨g1, 0, none⟩) l1 l1) (by omega)
 have R2 := R1.setNe (g' := w.heap.size + 1 + 1) (j := 0) (y := .slice (some ⟨g1, 0, none⟩) l1 l1) (by omega)
 have O2 := O1.set 0 (.slice (some ⟨g1, 0, none⟩) l1 l1)
 have b2 := b1.setCell (p := ⟨w.heap.size + 1 + 1, 0, none⟩) (by show w.heap.size <= w.heap.size + 1 + 1; omega) (.slice (some ⟨g1, 0, none⟩) l1 l1)
 have r21 : OwnB _ _ (.slice (some ⟨g1, 0, none⟩) l1 l1) cs := row_set (j := 0) (y := .slice (some ⟨g1, 0, none⟩) l1 l1) i1 O1 (by decide)
 have HB : Hid (W0.heap.size <= w1.heap.size) := b'.size
 clear b' ca A0 R0 O0 A1 R1 O1 b0 b1 i1
 go_upto_region 3 with fail
 clear co fo
 obtain ⟨w2, hw2⟩ : ∃ x, x = w1.setCell ⟨w.heap.size + 1 + 1, 0, none⟩ (.slice (some ⟨g1, 0, none⟩) l1 l1) := ⟨_, rfl⟩
 have HZ1 : Hid (w.heap.size <= w2.heap.size) := by show w.heap.size <= w2.heap.size; rw [hw2]; exact b2.size
 simp only [<- hw2] at r21 A2 R2 O2 b2 ⊢
 clear hw2 HB
 have ca := A2.cell 1 rfl
 go_wp2_with fail
 refine (toBoolS_ok a2 l2 c2 is _ HN.out.2.1 (HS.out.2.1.below b2) (by have := HL.out.2.1; omega)).mono ?_
 rintro e w3 ⟨g2, rfl, i2, b'⟩
 have b3 := bel_next b2 b'
 have A3 := A2.below b'
 have R3 := R2.below b'
 have O3 := O2.below b'
 have r21' := r21.below b'
 have D12 := Df.ofBase r21 i2 (Nat.le_refl _)
 have co := O3.cell 1 rfl
 have fo := O3.fro 1
 clear r21
 have A4 := A3.setNe (g' := w.heap.size + 1 + 1) (j := 1) (y := .slice (some ⟨g2, 0, none⟩) l2 l2) (by omega)
 have R4 := R3.setNe (g' := w.heap.size + 1 + 1) (j := 1) (y := .slice (some ⟨g2, 0, none⟩) l2 l2) (by omega)
 have O4 := O3.set 1 (.slice (some ⟨g2, 0, none⟩) l2 l2)
 have b4 := b3.setCell (p := ⟨w.heap.size + 1 + 1, 1, none⟩) (by show w.heap.size <= w.heap.size + 1 + 1; omega) (.slice (some ⟨g2, 0, none⟩) l2 l2)
 have r41 : OwnB _ _ (.slice (some ⟨g1, 0, none⟩) l1 l1) cs := row_set (j := 1) (y := .slice (some ⟨g2, 0, none⟩) l2 l2) r21' O3 (by decide)
 have r42 : OwnB _ _ (.slice (some ⟨g2, 0, none⟩) l2 l2) is := row_set (j := 1) (y := .slice (some ⟨g2, 0, none⟩) l2 l2) i2 O3 (by decide)
 have HB : Hid (w2.heap.size <= w3.heap.size) := b'.size
 clear b' ca A2 R2 O2 A3 R3 O3 b2 b3 i2 r21'
 go_upto_region 4 with fail
 clear co fo
 obtain ⟨w4, hw4⟩ : ∃ x, x = w3.setCell ⟨w.heap.size + 1 + 1, 1, none⟩ (.slice (some ⟨g2, 0, none⟩) l2 l2) := ⟨_, rfl⟩
 have HZ2 : Hid (w.heap.size <= w4.heap.size) := by show w.heap.size <= w4.heap.size; rw [hw4]; exact b4.size
 simp only [<- hw4] at r41 r42 A4 R4 O4 b4 ⊢
 clear hw4 HB
 have ca := A4.cell 2 rfl
 go_wp2_with fail
 refine (toIntS_ok a3 l3 c3 hs _ HN.out.2.2.1 (HS.out.2.2.1.below b4) (by have := HL.out.2.2.1; omega)).mono ?_
 rintro e w5 ⟨g3, rfl, i3, b'⟩
 have b5 := bel_next b4 b'
 have A5 := A4.below b'
 have R5 := R4.below b'
 have O5 := O4.below b'
 have r41' := r41.below b'
 have r42' := r42.below b'
 have D13 := Df.ofBase r41 i3 (Nat.le_refl _)
 have D23 := Df.ofBase r42 i3 (Nat.le_refl _)
 have co := O5.cell 2 rfl
 have fo := O5.fro 2
 clear r41 r42
 have A6 := A5.setNe (g' := w.heap.size + 1 + 1) (j := 2) (y := .slice (some ⟨g3, 0, none⟩) l3 l3) (by omega)
 have R6 := R5.setNe (g' := w.heap.size + 1 + 1) (j := 2) (y := .slice (some ⟨g3, 0, none⟩) l3 l3) (by omega)
 have O6 := O5.set 2 (.slice (some ⟨g3, 0, none⟩) l3 l3)
 have b6 := b5.setCell (p := ⟨w.heap.size + 1 + 1, 2, none⟩) (by show w.heap.size <= w.heap.size + 1 + 1; omega) (.slice (some ⟨g3, 0, none⟩) l3 l3)
 have r61 : OwnB _ _ (.slice (some ⟨g1, 0, none⟩) l1 l1) cs := row_set (j := 2) (y := .slice (some ⟨g3, 0, none⟩) l3 l3) r41' O5 (by decide)
 have r62 : OwnB _ _ (.slice (some ⟨g2, 0, none⟩) l2 l2) is := row_set (j := 2) (y := .slice (some ⟨g3, 0, none⟩) l3 l3) r42' O5 (by decide)
 have r63 : OwnI _ _ (.slice (some ⟨g3, 0, none⟩) l3 l3) hs := row_set (j := 2) (y := .slice (some ⟨g3, 0, none⟩) l3 l3) i3 O5 (by decide)
 have HB : Hid (w4.heap.size <= w5.heap.size) := b'.size
 clear b' ca A4 R4 O4 A5 R5 O5 b4 b5 i3 r41' r42'
 go_upto_region 5 with fail
 clear co fo
 obtain ⟨w6, hw6⟩ : ∃ x, x = w5.setCell ⟨w.heap.size + 1 + 1, 2, none⟩ (.slice (some ⟨g3, 0, none⟩) l3 l3) := ⟨_, rfl⟩
 have HZ3 : Hid (w.heap.size <= w6.heap.size) := by show w.heap.size <= w6.heap.size; rw [hw6]; exact b6.size
 simp only [<- hw6] at r61 r62 r63 A6 R6 O6 b6 ⊢
 clear hw6 HB
 have ca := A6.cell 3 rfl
 go_wp2_with fail
 refine (toIntS_ok a4 l4 c4 rs _ HN.out.2.2.2 (HS.out.2.2.2.below b6) (by have := HL.out.2.2.2; omega)).mono ?_
 rintro e w7 ⟨g4, rfl, i4, b'⟩
 have b7 := bel_next b6 b'
 have A7 := A6.below b'
 have R7 := R6.below b'
 have O7 := O6.below b'
 have r61' := r61.below b'
 have r62' := r62.below b'
 have r63' := r63.below b'
 have D14 := Df.ofBase r61 i4 (Nat.le_refl _)
 have D24 := Df.ofBase r62 i4 (Nat.le_refl _)
 have D34 := Df.ofBase r63 i4 (Nat.le_refl _)
 have co := O7.cell 3 rfl
 have fo := O7.fro 3
 clear r61 r62 r63
 obtain ⟨o0, o1, o2, o3⟩ := O7.four
 obtain ⟨r0, r1, r2, r3⟩ := R7.four
 have fo := O7.fro
 have fr := R7.fro
 have eO : ExB w7 (w.heap.size + 1 + 1) 126 := ⟨_, O7⟩
 have eR : ExB w7 (w.heap.size + 1) 126 := ⟨_, R7⟩
 have HH : Hid ((OwnB w7 W0.heap.size (.slice (some ⟨g1, 0, none⟩) l1 l1) cs /\ OwnB w7 w2.heap.size (.slice (some ⟨g2, 0, none⟩) l2 l2) is /\ OwnI w7 w4.heap.size (.slice (some ⟨g3, 0, none⟩) l3 l3) hs /\ OwnI w7 w6.heap.size (.slice (some ⟨g4, 0, none⟩) l4 l4) rs) /\ Below w.heap.size w w7 /\ ExB w7 (w.heap.size + 1 + 1) 126 /\ ExB w7 (w.heap.size + 1) 126 /\ Df (.slice (some ⟨g1, 0, none⟩) l1 l1) (.slice (some ⟨g2, 0, none⟩) l2 l2) /\ Df (.slice (some ⟨g3, 0, none⟩) l3 l3) (.slice (some ⟨g4, 0, none⟩) l4 l4) /\ w.heap.size <= W0.heap.size) := ⟨⟨r61', r62', r63', i4⟩, b7, eO, eR, D12, D34, by omega⟩
 clear A6 R6 O6 A7 R7 O7 b6 b7 b' co ca eO eR i4 D12 D34 D13 D23 D14 D24 r61' r62' r63'
 go_wp2
 refine bodyPost_ret (v := .agg #[.slice (some ⟨g1, 0, none⟩) l1 l1, .slice (some ⟨g2, 0, none⟩) l2 l2, .slice (some ⟨g3, 0, none⟩) l3 l3, .slice (some ⟨g4, 0, none⟩) l4 l4]) (by simp [results, Tryz.results135, go_sem, r0, r1, r2, r3]) rfl ?_
 obtain ⟨⟨p1, p2, p3, p4⟩, b7, eO, eR, d12, d34, hz0⟩ := HH.out
 have hz2 := HZ1.out
 have hz4 := HZ2.out
 have hz6 := HZ3.out
 refine ⟨g1, g2, g3, g4, rfl, ⟨?_, ?_, ?_, ?_, d12, d34⟩, ?_⟩
 ·exact OwnB.mono (show OwnB _ _ _ _ from row_set4 (row_setE p1 eO (by decide)) (ExB.set eR) (by decide)) (by omega)
 ·exact OwnB.mono (show OwnB _ _ _ _ from row_set4 (row_setE p2 eO (by decide)) (ExB.set eR) (by decide)) (by omega)
 ·exact OwnI.mono (show OwnI _ _ _ _ from row_set4 (row_setE p3 eO (by decide)) (ExB.set eR) (by decide)) (by omega)
 ·exact OwnI.mono (show OwnI _ _ _ _ from row_set4 (row_setE p4 eO (by decide)) (ExB.set eR) (by decide)) (by omega)
 exact bel_set4 (b7.setCell (p := ⟨w.heap.size + 1 + 1, 3, none⟩) (by show w.heap.size <= w.heap.size + 1 + 1; omega) _) (by omega)
end Go.Proofs.YtkfgijkkffbpmaaGreat
namespace Go.Proofs.YtkfgijkkffbpmaaGreat
open Go.RowKit
def pv (bits : List Bool) : Nat -> Nat -> Int
 | 0, _ => 0
 | k + 1, j => if k / 8 = j /\ bits.getD k false = true then pv bits k j + (2 ^ (k % 8) : Nat) else pv bits k j
end Go.Proofs.YtkfgijkkffbpmaaGreat
namespace Go.Proofs.YtkfgijkkffbpmaaGreat
open Go.RowKit
def nfB (bs : List Bool) (n : Nat) : Bool := decide (∀ k, k < bs.length -> n <= k -> bs.getD k false = false)
end Go.Proofs.YtkfgijkkffbpmaaGreat
namespace Go.Proofs.YtkfgijkkffbpmaaGreat
open Go.RowKit
def okD (l1 l2 l3 l4 : Nat) (hs rs : List Int) : Bool := decide (l1 <= 64 /\ l2 <= 64 /\ l3 <= 64 /\ l4 <= 64) && (allW hs && allW rs)
theorem specDeviceOk_any (a1 a2 a3 a4 : Option Addr) (l1 l2 l3 l4 c1 c2 c3 c4 : Nat) (cs is : List Bool) (hs rs : List Int) (w : World) (hn : LnD l1 l2 l3 l4 cs is hs rs) (hs0 : SlD w a1 a2 a3 a4 cs is hs rs) (hl : SmD 2000000 cs is hs rs) (b : Bool) (hb : okD l1 l2 l3 l4 hs rs = b) :
 Calls Tryz.prog 132 #[dv a1 a2 a3 a4 l1 l2 l3 l4 c1 c2 c3 c4] w fun e w' => e = .returned (.bool b) /\ Below w.heap.size w w' := by
 have b0 := bel_alloc w (.cells #[.slice a1 l1 c1, .slice a2 l2 c2, .slice a3 l3 c3, .slice a4 l4 c4] 126)
 have HS : Hid (SlI (w.alloc (.cells #[.slice a1 l1 c1, .slice a2 l2 c2, .slice a3 l3 c3, .slice a4 l4 c4] 126)) a3 hs /\ SlI (w.alloc (.cells #[.slice a1 l1 c1, .slice a2 l2 c2, .slice a3 l3 c3, .slice a4 l4 c4] 126)) a4 rs) := ⟨hs0.2.2.1.below b0, hs0.2.2.2.below b0⟩
 have HN : Hid (l3 = hs.length /\ l4 = rs.length /\ hs.length <= 2000000 /\ rs.length <= 2000000) := ⟨hn.2.2.1, hn.2.2.2, hl.2.2.1, hl.2.2.2⟩
 obtain ⟨k1, k2, k3, k4⟩ : l1 <= 2000000 /\ l2 <= 2000000 /\ l3 <= 2000000 /\ l4 <= 2000000 := by obtain ⟨e1, e2, e3, e4⟩ := hn; obtain ⟨f1, f2, f3, f4⟩ := hl; omega
 subst hb
 clear hn hs0 hl
 by_cases h1 : (l1 : Int) <= 64
 case neg =>
  rw [show okD l1 l2 l3 l4 hs rs = false by unfold okD; rw [decide_eq_false (by omega)]; rfl]
  go_enter Tryz.func132, Tryz.ntmps132
  go_wp2
  go_ret
  exact ⟨rfl, b0⟩
 by_cases h2 : (l2 : Int) <= 64
 case neg =>
  rw [show okD l1 l2 l3 l4 hs rs = false by unfold okD; rw [decide_eq_false (by omega)]; rfl]
  go_enter Tryz.func132, Tryz.ntmps132
  go_wp2
  go_ret
  exact ⟨rfl, b0⟩
 by_cases h3 : (l3 : Int) <= 64
 case neg =>
  rw [show okD l1 l2 l3 l4 hs rs = false by unfold okD; rw [decide_eq_false (by omega)]; rfl]
  go_enter Tryz.func132, Tryz.ntmps132
  go_wp2
  go_ret
  exact ⟨rfl, b0⟩
 by_cases h4 : (l4 : Int) <= 64
 case neg =>
  rw [show okD l1 l2 l3 l4 hs rs = false by unfold okD; rw [decide_eq_false (by omega)]; rfl]
  go_enter Tryz.func132, Tryz.ntmps132
  go_wp2
  go_ret
  exact ⟨rfl, b0⟩
 have hd : decide (l1 <= 64 /\ l2 <= 64 /\ l3 <= 64 /\ l4 <= 64) = true := decide_eq_true (by omega)
 cases e3 : allW hs
 ·rw [show okD l1 l2 l3 l4 hs rs = false by unfold okD; rw [hd, e3]; rfl]
  clear hd k1 k2 k3 k4
  go_enter Tryz.func132, Tryz.ntmps132
  go_wp2_with fail
  refine (l3Words_any _ _ _ hs _ HN.out.1 HS.out.1 HN.out.2.2.1 _ e3).mono ?_
  rintro e wx ⟨rfl, rfl⟩
  go_wp2
  go_ret
  exact ⟨rfl, b0⟩
 cases e4 : allW rs
 ·rw [show okD l1 l2 l3 l4 hs rs = false by unfold okD; rw [hd, e3, e4]; rfl]
  clear hd k1 k2 k3 k4
  go_enter Tryz.func132, Tryz.ntmps132
  go_wp2_with fail
  refine (l3Words_any _ _ _ hs _ HN.out.1 HS.out.1 HN.out.2.2.1 _ e3).mono ?_
  rintro e wx ⟨rfl, rfl⟩
  go_wp2_with fail
  refine (l3Words_any _ _ _ rs _ HN.out.2.1 HS.out.2 HN.out.2.2.2 _ e4).mono ?_
  rintro e wx ⟨rfl, rfl⟩
  go_wp2
  go_ret
  exact ⟨rfl, b0⟩
 rw [show okD l1 l2 l3 l4 hs rs = true by unfold okD; rw [hd, e3, e4]; rfl]
 clear hd k1 k2 k3 k4
 go_enter Tryz.func132, Tryz.ntmps132
 go_wp2_with fail
 refine (l3Words_any _ _ _ hs _ HN.out.1 HS.out.1 HN.out.2.2.1 _ e3).mono ?_
 rintro e wx ⟨rfl, rfl⟩
 go_wp2_with fail
 refine (l3Words_any _ _ _ rs _ HN.out.2.1 HS.out.2 HN.out.2.2.2 _ e4).mono ?_
 rintro e wx ⟨rfl, rfl⟩
 go_wp2
 go_ret
 exact ⟨rfl, b0⟩
theorem idx4_0 (x0 x1 x2 x3 : Int) (w : World) : (Instr.index 254 (.agg #[.int .i64 x0, .int .i64 x1, .int .i64 x2, .int .i64 x3]) (.int .i64 0)).run Tryz.prog w = .ok (.int .i64 x0) w := by kernel_rfl
theorem idx4_1 (x0 x1 x2 x3 : Int) (w : World) : (Instr.index 254 (.agg #[.int .i64 x0, .int .i64 x1, .int .i64 x2, .int .i64 x3]) (.int .i64 1)).run Tryz.prog w = .ok (.int .i64 x1) w := by kernel_rfl
theorem idx4_2 (x0 x1 x2 x3 : Int) (w : World) : (Instr.index 254 (.agg #[.int .i64 x0, .int .i64 x1, .int .i64 x2, .int .i64 x3]) (.int .i64 2)).run Tryz.prog w = .ok (.int .i64 x2) w := by kernel_rfl
theorem idx4_3 (x0 x1 x2 x3 : Int) (w : World) : (Instr.index 254 (.agg #[.int .i64 x0, .int .i64 x1, .int .i64 x2, .int .i64 x3]) (.int .i64 3)).run Tryz.prog w = .ok (.int .i64 x3) w := by kernel_rfl
theorem sizes_any (a1 a2 a3 a4 : Option Addr) (l1 l2 l3 l4 c1 c2 c3 c4 : Nat) (w : World) (k1 : l1 <= 2000000) (k2 : l2 <= 2000000) (k3 : l3 <= 2000000) (k4 : l4 <= 2000000) :
 Calls Tryz.prog 202 #[dv a1 a2 a3 a4 l1 l2 l3 l4 c1 c2 c3 c4] w fun e w' => e = .returned (.agg #[.int .i64 (l1 : Int), .int .i64 (l2 : Int), .int .i64 (l3 : Int), .int .i64 (l4 : Int)]) /\ Below w.heap.size w w' := by
 have b0 := bel_next (bel_alloc w (.cells #[.slice a1 l1 c1, .slice a2 l2 c2, .slice a3 l3 c3, .slice a4 l4 c4] 126)) (bel_alloc _ (.cells #[.int .i64 0, .int .i64 0, .int .i64 0, .int .i64 0] 254))
 go_enter Tryz.func202, Tryz.ntmps202
 go_wp2
 refine bodyPost_ret (v := .agg #[.int .i64 (l1 : Int), .int .i64 (l2 : Int), .int .i64 (l3 : Int), .int .i64 (l4 : Int)]) (by simp [results, Tryz.results202, go_sem]) rfl ?_
 exact ⟨rfl, bel_next (bel_alloc _ _) (bel_alloc _ _)⟩
theorem implDeviceOk_any (a1 a2 a3 a4 : Option Addr) (l1 l2 l3 l4 c1 c2 c3 c4 : Nat) (cs is : List Bool) (hs rs : List Int) (w : World) (hn : LnD l1 l2 l3 l4 cs is hs rs) (hs0 : SlD w a1 a2 a3 a4 cs is hs rs) (hl : SmD 2000000 cs is hs rs) (b : Bool) (hb : okD l1 l2 l3 l4 hs rs = b) :
 Calls Tryz.prog 140 #[dv a1 a2 a3 a4 l1 l2 l3 l4 c1 c2 c3 c4] w fun e w' => e = .returned (.bool b) /\ Below w.heap.size w w' := by
 have b0 := bel_alloc w (.cells #[.slice a1 l1 c1, .slice a2 l2 c2, .slice a3 l3 c3, .slice a4 l4 c4] 126)
 have HS : Hid (SlI (w.alloc (.cells #[.slice a1 l1 c1, .slice a2 l2 c2, .slice a3 l3 c3, .slice a4 l4 c4] 126)) a3 hs /\ SlI (w.alloc (.cells #[.slice a1 l1 c1, .slice a2 l2 c2, .slice a3 l3 c3, .slice a4 l4 c4] 126)) a4 rs) := ⟨hs0.2.2.1.below b0, hs0.2.2.2.below b0⟩
 have HN : Hid (l3 = hs.length /\ l4 = rs.length /\ hs.length <= 2000000 /\ rs.length <= 2000000) := ⟨hn.2.2.1, hn.2.2.2, hl.2.2.1, hl.2.2.2⟩
 obtain ⟨k1, k2, k3, k4⟩ : l1 <= 2000000 /\ l2 <= 2000000 /\ l3 <= 2000000 /\ l4 <= 2000000 := by obtain ⟨e1, e2, e3, e4⟩ := hn; obtain ⟨f1, f2, f3, f4⟩ := hl; omega
 subst hb
 clear hn hs0 hl
 have j0 := idx4_0
 have j1 := idx4_1
 have j2 := idx4_2
 have j3 := idx4_3
 have X0 := Blk.new w #[.slice a1 l1 c1, .slice a2 l2 c2, .slice a3 l3 c3, .slice a4 l4 c4] 126
 by_cases h1 : (l1 : Int) > 64
 case pos =>
  rw [show okD l1 l2 l3 l4 hs rs = false by unfold okD; rw [decide_eq_false (by omega)]; rfl]
  go_enter Tryz.func140, Tryz.ntmps140
  go_wp2_with fail
  refine (sizes_any _ _ _ _ _ _ _ _ _ _ _ _ _ k1 k2 k3 k4).mono ?_
  rintro e w1 ⟨rfl, b'⟩
  have b1 := bel_next b0 b'
  have HS1 : Hid (SlI w1 a3 hs /\ SlI w1 a4 rs) := ⟨HS.out.1.below b', HS.out.2.below b'⟩
  obtain ⟨x0, x1, x2, x3⟩ := (X0.below b').four
  clear b' b0 X0
  go_wp2
  refine wp_loop_rounds 5 ?_
  rw [rounds_succ]
  go_wp2
  go_ret
  exact ⟨rfl, b1⟩
 by_cases h2 : (l2 : Int) > 64
 case pos =>
  rw [show okD l1 l2 l3 l4 hs rs = false by unfold okD; rw [decide_eq_false (by omega)]; rfl]
  go_enter Tryz.func140, Tryz.ntmps140
  go_wp2_with fail
  refine (sizes_any _ _ _ _ _ _ _ _ _ _ _ _ _ k1 k2 k3 k4).mono ?_
  rintro e w1 ⟨rfl, b'⟩
  have b1 := bel_next b0 b'
  have HS1 : Hid (SlI w1 a3 hs /\ SlI w1 a4 rs) := ⟨HS.out.1.below b', HS.out.2.below b'⟩
  obtain ⟨x0, x1, x2, x3⟩ := (X0.below b').four
  clear b' b0 X0
  go_wp2
  refine wp_loop_rounds 5 ?_
  rw [rounds_succ]
  go_wp2
  rw [rounds_succ]
  go_wp2
  go_ret
  exact ⟨rfl, b1⟩
 by_cases h3 : (l3 : Int) > 64
 case pos =>
  rw [show okD l1 l2 l3 l4 hs rs = false by unfold okD; rw [decide_eq_false (by omega)]; rfl]
  go_enter Tryz.func140, Tryz.ntmps140
  go_wp2_with fail
  refine (sizes_any _ _ _ _ _ _ _ _ _ _ _ _ _ k1 k2 k3 k4).mono ?_
  rintro e w1 ⟨rfl, b'⟩
  have b1 := bel_next b0 b'
  have HS1 : Hid (SlI w1 a3 hs /\ SlI w1 a4 rs) := ⟨HS.out.1.below b', HS.out.2.below b'⟩
  obtain ⟨x0, x1, x2, x3⟩ := (X0.below b').four
  clear b' b0 X0
  go_wp2
  refine wp_loop_rounds 5 ?_
  rw [rounds_succ]
  go_wp2
  rw [rounds_succ]
  go_wp2
  rw [rounds_succ]
  go_wp2
  go_ret
  exact ⟨rfl, b1⟩
 by_cases h4 : (l4 : Int) > 64
 case pos =>
  rw [show okD l1 l2 l3 l4 hs rs = false by unfold okD; rw [decide_eq_false (by omega)]; rfl]
  go_enter Tryz.func140, Tryz.ntmps140
  go_wp2_with fail
  refine (sizes_any _ _ _ _ _ _ _ _ _ _ _ _ _ k1 k2 k3 k4).mono ?_
  rintro e w1 ⟨rfl, b'⟩
  have b1 := bel_next b0 b'
  have HS1 : Hid (SlI w1 a3 hs /\ SlI w1 a4 rs) := ⟨HS.out.1.below b', HS.out.2.below b'⟩
  obtain ⟨x0, x1, x2, x3⟩ := (X0.below b').four
  clear b' b0 X0
  go_wp2
  refine wp_loop_rounds 5 ?_
  rw [rounds_succ]
  go_wp2
  rw [rounds_succ]
  go_wp2
  rw [rounds_succ]
  go_wp2
  rw [rounds_succ]
  go_wp2
  go_ret
  exact ⟨rfl, b1⟩
 have hd : decide (l1 <= 64 /\ l2 <= 64 /\ l3 <= 64 /\ l4 <= 64) = true := decide_eq_true (by omega)
 cases e3 : allW hs
 ·rw [show okD l1 l2 l3 l4 hs rs = false by unfold okD; rw [hd, e3]; rfl]
  go_enter Tryz.func140, Tryz.ntmps140
  go_wp2_with fail
  refine (sizes_any _ _ _ _ _ _ _ _ _ _ _ _ _ k1 k2 k3 k4).mono ?_
  rintro e w1 ⟨rfl, b'⟩
  have b1 := bel_next b0 b'
  have HS1 : Hid (SlI w1 a3 hs /\ SlI w1 a4 rs) := ⟨HS.out.1.below b', HS.out.2.below b'⟩
  obtain ⟨x0, x1, x2, x3⟩ := (X0.below b').four
  clear b' b0 X0
  go_wp2
  refine wp_loop_rounds 5 ?_
  rw [rounds_succ]
  go_wp2
  rw [rounds_succ]
  go_wp2
  rw [rounds_succ]
  go_wp2
  rw [rounds_succ]
  go_wp2
  rw [rounds_succ]
  go_wp2_with fail
  refine (areWords_any _ _ _ hs _ HN.out.1 HS1.out.1 HN.out.2.2.1 _ e3).mono ?_
  rintro e wx ⟨rfl, rfl⟩
  go_wp2
  go_ret
  exact ⟨rfl, b1⟩
 cases e4 : allW rs
 ·rw [show okD l1 l2 l3 l4 hs rs = false by unfold okD; rw [hd, e3, e4]; rfl]
  go_enter Tryz.func140, Tryz.ntmps140
  go_wp2_with fail
  refine (sizes_any _ _ _ _ _ _ _ _ _ _ _ _ _ k1 k2 k3 k4).mono ?_
  rintro e w1 ⟨rfl, b'⟩
  have b1 := bel_next b0 b'
  have HS1 : Hid (SlI w1 a3 hs /\ SlI w1 a4 rs) := ⟨HS.out.1.below b', HS.out.2.below b'⟩
  obtain ⟨x0, x1, x2, x3⟩ := (X0.below b').four
  clear b' b0 X0
  go_wp2
  refine wp_loop_rounds 5 ?_
  rw [rounds_succ]
  go_wp2
  rw [rounds_succ]
  go_wp2
  rw [rounds_succ]
  go_wp2
  rw [rounds_succ]
  go_wp2
  rw [rounds_succ]
  go_wp2_with fail
  refine (areWords_any _ _ _ hs _ HN.out.1 HS1.out.1 HN.out.2.2.1 _ e3).mono ?_
  rintro e wx ⟨rfl, rfl⟩
  go_wp2_with fail
  refine (areWords_any _ _ _ rs _ HN.out.2.1 HS1.out.2 HN.out.2.2.2 _ e4).mono ?_
  rintro e wx ⟨rfl, rfl⟩
  go_wp2
  go_ret
  exact ⟨rfl, b1⟩
 rw [show okD l1 l2 l3 l4 hs rs = true by unfold okD; rw [hd, e3, e4]; rfl]
 go_enter Tryz.func140, Tryz.ntmps140
 go_wp2_with fail
 refine (sizes_any _ _ _ _ _ _ _ _ _ _ _ _ _ k1 k2 k3 k4).mono ?_
 rintro e w1 ⟨rfl, b'⟩
 have b1 := bel_next b0 b'
 have HS1 : Hid (SlI w1 a3 hs /\ SlI w1 a4 rs) := ⟨HS.out.1.below b', HS.out.2.below b'⟩
 obtain ⟨x0, x1, x2, x3⟩ := (X0.below b').four
 clear b' b0 X0
 go_wp2
 refine wp_loop_rounds 5 ?_
 rw [rounds_succ]
 go_wp2
 rw [rounds_succ]
 go_wp2
 rw [rounds_succ]
 go_wp2
 rw [rounds_succ]
 go_wp2
 rw [rounds_succ]
 go_wp2_with fail
 refine (areWords_any _ _ _ hs _ HN.out.1 HS1.out.1 HN.out.2.2.1 _ e3).mono ?_
 rintro e wx ⟨rfl, rfl⟩
 go_wp2_with fail
 refine (areWords_any _ _ _ rs _ HN.out.2.1 HS1.out.2 HN.out.2.2.2 _ e4).mono ?_
 rintro e wx ⟨rfl, rfl⟩
 go_wp2
 go_ret
 exact ⟨rfl, b1⟩
def sdB (cs is : List Bool) (hs rs : List Int) (cs2 is2 : List Bool) (hs2 rs2 : List Int) : Bool := decide (cs = cs2) && (decide (is = is2) && (decide (hs = hs2) && decide (rs = rs2)))
end Go.Proofs.YtkfgijkkffbpmaaGreat
namespace Go.Proofs.YtkfgijkkffbpmaaGreat
open Go.RowKit
def ND (w w' : World) (e : Ending) (cs is : List Bool) (hs rs : List Int) : Prop :=
 ∃ a1 a2 a3 a4 l1 l2 l3 l4 c1 c2 c3 c4, e = .returned (dv a1 a2 a3 a4 l1 l2 l3 l4 c1 c2 c3 c4) /\ OwnD w' w.heap.size a1 a2 a3 a4 l1 l2 l3 l4 c1 c2 c3 c4 cs is hs rs /\ Below w.heap.size w w'
def dnN (n : Int) : Nat := if 0 <= n /\ n <= 64 then n.toNat else 0
abbrev NDn (w w' : World) (e : Ending) (m : Nat) : Prop := ND w w' e (List.replicate m false) (List.replicate m false) (List.replicate m 0) (List.replicate m 0)
end Go.Proofs.YtkfgijkkffbpmaaGreat
namespace Go.Proofs.YtkfgijkkffbpmaaGreat
open Go.RowKit
end Go.Proofs.YtkfgijkkffbpmaaGreat
namespace Go.Proofs.YtkfgijkkffbpmaaGreat
open Go.RowKit
theorem copyDevice_any (a1 a2 a3 a4 : Option Addr) (l1 l2 l3 l4 c1 c2 c3 c4 : Nat) (cs is : List Bool) (hs rs : List Int) (w : World) (hn : LnD l1 l2 l3 l4 cs is hs rs) (hs0 : SlD w a1 a2 a3 a4 cs is hs rs) (hl : SmD 2000000 cs is hs rs) :
 Calls Tryz.prog 143 #[dv a1 a2 a3 a4 l1 l2 l3 l4 c1 c2 c3 c4] w fun e w' => ∃ g1 g2 g3 g4, e = .returned (.agg #[.slice (some ⟨g1, 0, none⟩) l1 l1, .slice (some ⟨g2, 0, none⟩) l2 l2, .slice (some ⟨g3, 0, none⟩) l3 l3, .slice (some ⟨g4, 0, none⟩) l4 l4]) /\ OwnD w' w.heap.size (some ⟨g1, 0, none⟩) (some ⟨g2, 0, none⟩) (some ⟨g3, 0, none⟩) (some ⟨g4, 0, none⟩) l1 l2 l3 l4 l1 l2 l3 l4 cs is hs rs /\ Below w.heap.size w w' := by
 obtain ⟨z1, hz1⟩ : ∃ z, z = (w.alloc (.cells #[.slice a1 l1 c1, .slice a2 l2 c2, .slice a3 l3 c3, .slice a4 l4 c4] 126)).alloc (.cells #[.slice none 0 0, .slice none 0 0, .slice none 0 0, .slice none 0 0] 126) := ⟨_, rfl⟩
 have HZ : Hid (z1 = _) := hz1
 have hz : z1.heap.size = w.heap.size + 1 + 1 := by rw [hz1]; simp
 have b0 : Below w.heap.size w z1 := by rw [hz1]; exact bel_next (bel_alloc w _) (bel_alloc _ _)
 have X0 : Blk z1 w.heap.size 126 #[.slice a1 l1 c1, .slice a2 l2 c2, .slice a3 l3 c3, .slice a4 l4 c4] := by rw [hz1]; exact (Blk.new w _ _).below (bel_alloc _ _)
 have R0 : Blk z1 (w.heap.size + 1) 126 #[.slice none 0 0, .slice none 0 0, .slice none 0 0, .slice none 0 0] := by rw [hz1]; have := Blk.new (w.alloc (.cells #[.slice a1 l1 c1, .slice a2 l2 c2, .slice a3 l3 c3, .slice a4 l4 c4] 126)) #[.slice none 0 0, .slice none 0 0, .slice none 0 0, .slice none 0 0] 126; simpa using this
 have HS : Hid (SlD z1 a1 a2 a3 a4 cs is hs rs) := hs0.below b0
 have HN : Hid (LnD l1 l2 l3 l4 cs is hs rs /\ SmD 2000000 cs is hs rs) := ⟨hn, hl⟩
 have dz : Below z1.heap.size z1 z1.drew := (Below.refl _ _).drew
 obtain ⟨x0, x1, x2, x3⟩ := X0.four
 obtain ⟨y0, y1, y2, y3⟩ := R0.four
 have fy := R0.fro
 have fy0 := fy 0
 have fy1 := fy 1
 have fy2 := fy 2
 have fy3 := fy 3
 clear hn hs0 hl hz1
 go_enter Tryz.func143, Tryz.ntmps143
 go_upto_region 1 with fail
 rw [<- HZ.out]
 go_region_held3 (fun w' => w'.cell? ⟨w.heap.size, 0, none⟩ = some (.slice a1 l1 c1) /\ w'.cell? ⟨w.heap.size, 1, none⟩ = some (.slice a2 l2 c2) /\ w'.cell? ⟨w.heap.size, 2, none⟩ = some (.slice a3 l3 c3) /\ w'.cell? ⟨w.heap.size, 3, none⟩ = some (.slice a4 l4 c4)) (go_keep)
  (first
   | (go_at_call 206; have M1' := i1; clear M1'; refine (copyOfB a2 l2 c2 is _ HN.out.1.2.1 (HS.out.2.1.below (by first | exact B1 | exact B1.drew)) HN.out.2.2.1).mono ?_; rintro e w2 ⟨g2, rfl, i2, b'⟩; have B2 : Below z1.heap.size z1 w2 := (by first | exact bel_next B1 b' | exact bel_next B1.drew b'); have D12 := Df.ofBase i1 i2 (Nat.le_refl _); replace i1 := (by first | exact i1.below b' | exact (i1.below (Below.refl _ _).drew).below b'); obtain ⟨x20, x21, x22, x23⟩ := (X0.below B2).four; obtain ⟨y20, y21, y22, y23⟩ := (R0.below B2).four; have f20 := (R0.below B2).fro 0; have f21 := (R0.below B2).fro 1; have f22 := (R0.below B2).fro 2; have f23 := (R0.below B2).fro 3; clear b')
   | (go_at_call 206; refine (copyOfB a1 l1 c1 cs _ HN.out.1.1 (HS.out.1.below (by first | exact Below.refl _ _ | exact dz)) HN.out.2.1).mono ?_; rintro e w1 ⟨g1, rfl, i1, b'⟩; have B1 : Below z1.heap.size z1 w1 := (by first | exact bel_next (Below.refl _ z1) b' | exact bel_next (Below.refl _ z1).drew b'); obtain ⟨x10, x11, x12, x13⟩ := (X0.below B1).four; obtain ⟨y10, y11, y12, y13⟩ := (R0.below B1).four; have f10 := (R0.below B1).fro 0; have f11 := (R0.below B1).fro 1; have f12 := (R0.below B1).fro 2; have f13 := (R0.below B1).fro 3; clear b')
   | (go_at_call 207; have M3' := i3; clear M3'; refine (copyOfI a4 l4 c4 rs _ HN.out.1.2.2.2 (HS.out.2.2.2.below (by first | exact B3 | exact B3.drew)) HN.out.2.2.2.2).mono ?_; rintro e w4 ⟨g4, rfl, i4, b'⟩; have B4 : Below z1.heap.size z1 w4 := (by first | exact bel_next B3 b' | exact bel_next B3.drew b'); replace i1 := (by first | exact i1.below b' | exact (i1.below (Below.refl _ _).drew).below b'); replace i2 := (by first | exact i2.below b' | exact (i2.below (Below.refl _ _).drew).below b'); have D34 := Df.ofBase i3 i4 (Nat.le_refl _); replace i3 := (by first | exact i3.below b' | exact (i3.below (Below.refl _ _).drew).below b'); obtain ⟨x40, x41, x42, x43⟩ := (X0.below B4).four; obtain ⟨y40, y41, y42, y43⟩ := (R0.below B4).four; have f40 := (R0.below B4).fro 0; have f41 := (R0.below B4).fro 1; have f42 := (R0.below B4).fro 2; have f43 := (R0.below B4).fro 3; clear b')
   | (go_at_call 207; have M2' := i2; clear M2'; refine (copyOfI a3 l3 c3 hs _ HN.out.1.2.2.1 (HS.out.2.2.1.below (by first | exact B2 | exact B2.drew)) HN.out.2.2.2.1).mono ?_; rintro e w3 ⟨g3, rfl, i3, b'⟩; have B3 : Below z1.heap.size z1 w3 := (by first | exact bel_next B2 b' | exact bel_next B2.drew b'); replace i1 := (by first | exact i1.below b' | exact (i1.below (Below.refl _ _).drew).below b'); replace i2 := (by first | exact i2.below b' | exact (i2.below (Below.refl _ _).drew).below b'); obtain ⟨x30, x31, x32, x33⟩ := (X0.below B3).four; obtain ⟨y30, y31, y32, y33⟩ := (R0.below B3).four; have f30 := (R0.below B3).fro 0; have f31 := (R0.below B3).fro 1; have f32 := (R0.below B3).fro 2; have f33 := (R0.below B3).fro 3; clear b'))
 all_goals (
  have q0 := b0.size
  have q1 := (bel_next b0 B1).size
  have q2 := (bel_next b0 B2).size
  have q3 := (bel_next b0 B3).size
  have HH : Hid (OwnD w4 w.heap.size (some ⟨g1, 0, none⟩) (some ⟨g2, 0, none⟩) (some ⟨g3, 0, none⟩) (some ⟨g4, 0, none⟩) l1 l2 l3 l4 l1 l2 l3 l4 cs is hs rs /\ ExB w4 (w.heap.size + 1) 126 /\ Below w.heap.size w w4) := ⟨⟨OwnB.mono i1 (by first | exact q0 | exact q1), OwnB.mono i2 (by first | exact q1 | exact q2), OwnI.mono i3 (by first | exact q2 | exact q3), OwnI.mono i4 (by first | exact q3 | omega), D12, D34⟩, ⟨_, R0.below B4⟩, bel_next b0 B4⟩
  clear i1 i2 i3 i4 D12 D34
  go_wp2
  refine bodyPost_ret (v := .agg #[.slice (some ⟨g1, 0, none⟩) l1 l1, .slice (some ⟨g2, 0, none⟩) l2 l2, .slice (some ⟨g3, 0, none⟩) l3 l3, .slice (some ⟨g4, 0, none⟩) l4 l4]) (by simp [results, Tryz.results143, go_sem, y40, y41, y42, y43]) rfl ?_
  exact ⟨g1, g2, g3, g4, rfl, HH.out.1.set4 HH.out.2.1 (by decide) (by decide), bel_set4 HH.out.2.2 (by omega)⟩)
end Go.Proofs.YtkfgijkkffbpmaaGreat
namespace Go.Proofs.YtkfgijkkffbpmaaGreat
open Go.RowKit
theorem app0B (w : World) (g B : Nat) (a : Option Addr) (n c : Nat) (xs : List Bool) (hn : n = xs.length) (hs : SlB w a xs) (hl : xs.length <= 2000000) (hB : B <= g) (hg : OwnB w B (.slice (some ⟨g, 0, none⟩) 0 0) []) :
 ∃ v w', (Builtin.append_ #[92, 92] 92 #[.slice (some ⟨g, 0, none⟩) 0 0, .slice a n c]).run Tryz.prog w = .ok v w' /\ OwnB w' B v xs /\ Below w.heap.size w w' /\ (v = .slice (some ⟨g, 0, none⟩) 0 0 \/ v.ownBlock = some w.heap.size) /\ ∃ a' c', v = .slice a' n c' := by
 obtain ⟨i0, hi, hz0, hz1, hz2⟩ := info_parts Tryz.info4
 rcases Nat.eq_zero_or_pos xs.length with h0 | hp
 ·have ex : xs = [] := List.eq_nil_of_length_eq_zero h0
  subst ex
  subst hn
  refine ⟨_, w, run_append_nothing w 92 92 92 4 i0 Tryz.underlying92 hi (some ⟨g, 0, none⟩) 0 0 (Nat.le_refl _) _ ?_, hg, Below.refl _ _, .inl rfl, _, _, rfl⟩
  cases a with
  | none => exact Src.ofNil w Tryz.underlying92 c
  | some ad => exact Src.ofSlice w Tryz.underlying92 ad 0 c [] (by simp) (fun j u hj => by simp at hj) (fun u hu => by simp at hu)
 subst hn
 rcases hs with e | ⟨b, off, rfl, hb, hc⟩
 ·subst e; simp at hp
 have hr := run_append_grow (P := Tryz.prog) w 92 92 4 i0 (.bool false) Tryz.underlying92 hi hz0 ⟨g, 0, none⟩ 0 0 [] (by simp) (fun j v h => by simp at h) ⟨b, off, none⟩ xs.length c (xs.map Value.bool) (by simp [hz1]) (slB_at (.inr ⟨b, off, rfl, hb, hc⟩)) (by omega) (by omega) (growslice_fits (by omega) (by rw [hz2]; omega))
 have hG0 := grownCap_ge w (0 + xs.length) 0 4
 have hG1 := grownCap_le_maxLen w (0 + xs.length) 0 4 (by unfold maxLen; omega)
 generalize grownCap w (0 + xs.length) 0 4 = G at *
 rw [Nat.zero_add] at hr hG0
 refine ⟨_, _, hr, ⟨by simp, .inr ⟨w.heap.size, G, _, rfl, ?_, Blk.new w.drew _ 4, hG0, hG1, ?_, ?_⟩⟩, bel_next (Below.refl _ _).drew (bel_alloc _ _), .inr rfl, _, _, rfl⟩
 ·have := (World.ownsRow.lt hg g rfl).2; omega
 ·simp [Builtin.zeroCells, Value.cells]; omega
 simp [Builtin.zeroCells]
theorem step_app0B {ops : Array Oper} {o : Oper} {act : Act} {w : World} {K : Act -> World -> Prop} {Q : Exit -> Act -> World -> Prop} {E : Prop} (hgd : o.guard = none) (s x : Operand)
 (ho : o.op = .call { callee := .builtin .append, args := #[s, x], argTypes := #[92, 92] }) (hty : o.type = 92) (g B : Nat) (a : Option Addr) (n c : Nat) (xs : List Bool) (hs' : act.eval s = .slice (some ⟨g, 0, none⟩) 0 0) (hx : act.eval x = .slice a n c)
 (hn : n = xs.length) (hs : SlB w a xs) (hl : xs.length <= 2000000) (hB : B <= g) (hg : OwnB w B (.slice (some ⟨g, 0, none⟩) 0 0) [])
 (h : ∀ v w', OwnB w' B v xs -> Below w.heap.size w w' -> (v = .slice (some ⟨g, 0, none⟩) 0 0 \/ v.ownBlock = some w.heap.size) -> (∃ a' c', v = .slice a' n c') -> K (act.put o.dst v) w') : if Region.wanted o (yielded ops act.tmps) = true then Oper.wp Tryz.prog o act w K Q else E := by
 have hw : Region.wanted o (yielded ops act.tmps) = true := by simp [Region.wanted, hgd]
 rw [if_pos hw]
 obtain ⟨v, w', hr, h1, h2, h3, h4⟩ := app0B w g B a n c xs hn hs hl hB hg
 unfold Oper.wp
 simp [execOp, ho, resolve, invoke, builtin, hs', hx, hty, hr, Result.andThen]
 exact h v w' h1 h2 h3 h4
theorem app0I (w : World) (g B : Nat) (a : Option Addr) (n c : Nat) (xs : List Int) (hn : n = xs.length) (hs : SlI w a xs) (hl : xs.length <= 2000000) (hB : B <= g) (hg : OwnI w B (.slice (some ⟨g, 0, none⟩) 0 0) []) :
 ∃ v w', (Builtin.append_ #[91, 91] 91 #[.slice (some ⟨g, 0, none⟩) 0 0, .slice a n c]).run Tryz.prog w = .ok v w' /\ OwnI w' B v xs /\ Below w.heap.size w w' /\ (v = .slice (some ⟨g, 0, none⟩) 0 0 \/ v.ownBlock = some w.heap.size) /\ ∃ a' c', v = .slice a' n c' := by
 obtain ⟨i0, hi, hz0, hz1, hz2⟩ := info_parts Tryz.infoI3
 rcases Nat.eq_zero_or_pos xs.length with h0 | hp
 ·have ex : xs = [] := List.eq_nil_of_length_eq_zero h0
  subst ex
  subst hn
  refine ⟨_, w, run_append_nothing w 91 91 91 3 i0 Tryz.underlying91 hi (some ⟨g, 0, none⟩) 0 0 (Nat.le_refl _) _ ?_, hg, Below.refl _ _, .inl rfl, _, _, rfl⟩
  cases a with
  | none => exact Src.ofNil w Tryz.underlying91 c
  | some ad => exact Src.ofSlice w Tryz.underlying91 ad 0 c [] (by simp) (fun j u hj => by simp at hj) (fun u hu => by simp at hu)
 subst hn
 rcases hs with e | ⟨b, off, rfl, hb, hc⟩
 ·subst e; simp at hp
 have hr := run_append_grow (P := Tryz.prog) w 91 91 3 i0 (.int .i64 0) Tryz.underlying91 hi hz0 ⟨g, 0, none⟩ 0 0 [] (by simp) (fun j v h => by simp at h) ⟨b, off, none⟩ xs.length c (xs.map (Value.int .i64)) (by simp [hz1]) (slI_at (.inr ⟨b, off, rfl, hb, hc⟩)) (by omega) (by omega) (growslice_fits (by omega) (by rw [hz2]; omega))
 have hG0 := grownCap_ge w (0 + xs.length) 0 3
 have hG1 := grownCap_le_maxLen w (0 + xs.length) 0 3 (by unfold maxLen; omega)
 generalize grownCap w (0 + xs.length) 0 3 = G at *
 rw [Nat.zero_add] at hr hG0
 refine ⟨_, _, hr, ⟨by simp, .inr ⟨w.heap.size, G, _, rfl, ?_, Blk.new w.drew _ 3, hG0, hG1, ?_, ?_⟩⟩, bel_next (Below.refl _ _).drew (bel_alloc _ _), .inr rfl, _, _, rfl⟩
 ·have := (World.ownsRow.lt hg g rfl).2; omega
 ·simp [Builtin.zeroCells, Value.cells]; omega
 simp [Builtin.zeroCells]
theorem step_app0I {ops : Array Oper} {o : Oper} {act : Act} {w : World} {K : Act -> World -> Prop} {Q : Exit -> Act -> World -> Prop} {E : Prop} (hgd : o.guard = none) (s x : Operand)
 (ho : o.op = .call { callee := .builtin .append, args := #[s, x], argTypes := #[91, 91] }) (hty : o.type = 91) (g B : Nat) (a : Option Addr) (n c : Nat) (xs : List Int) (hs' : act.eval s = .slice (some ⟨g, 0, none⟩) 0 0) (hx : act.eval x = .slice a n c)
 (hn : n = xs.length) (hs : SlI w a xs) (hl : xs.length <= 2000000) (hB : B <= g) (hg : OwnI w B (.slice (some ⟨g, 0, none⟩) 0 0) [])
 (h : ∀ v w', OwnI w' B v xs -> Below w.heap.size w w' -> (v = .slice (some ⟨g, 0, none⟩) 0 0 \/ v.ownBlock = some w.heap.size) -> (∃ a' c', v = .slice a' n c') -> K (act.put o.dst v) w') : if Region.wanted o (yielded ops act.tmps) = true then Oper.wp Tryz.prog o act w K Q else E := by
 have hw : Region.wanted o (yielded ops act.tmps) = true := by simp [Region.wanted, hgd]
 rw [if_pos hw]
 obtain ⟨v, w', hr, h1, h2, h3, h4⟩ := app0I w g B a n c xs hn hs hl hB hg
 unfold Oper.wp
 simp [execOp, ho, resolve, invoke, builtin, hs', hx, hty, hr, Result.andThen]
 exact h v w' h1 h2 h3 h4
end Go.Proofs.YtkfgijkkffbpmaaGreat
