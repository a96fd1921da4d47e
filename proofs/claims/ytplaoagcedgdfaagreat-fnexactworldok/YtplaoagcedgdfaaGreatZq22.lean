/- Parts of the proof. -/
import Derived.Test.YtplaoagcedgdfaaGreatZq1
import Derived.Laws.CopyOwn
import Derived.Test.YtplaoagcedgdfaaGreatZq21
import Derived.Test.YtplaoagcedgdfaaGreatZq10
set_option linter.unusedVariables false
set_option linter.unusedSimpArgs false
set_option maxHeartbeats 2000000
set_option maxRecDepth 20000
namespace Go.Proofs.YtplaoagcedgdfaaGreat
open Go.RowKit Go.Proofs.Tryz
theorem jP {P : Program} {w w' : World} {ops : Array Oper} {rest : List Oper} {o : Oper} {a : Act} {Q : Exit -> Act -> World -> Prop} (hgd : o.guard = none) (d s : Operand) (dT sT : TypeId)
 (ho : o.op = .call { callee := .builtin .copy, args := #[d, s], argTypes := #[dT, sT] }) (vd vs : Value) (hd : a.eval d = vd) (hs : a.eval s = vs) (v : Value)
 (hrun : (Builtin.copy_ #[dT, sT] o.type #[vd, vs]).run P w = .ok v w')
 (h : wpList P ops Q rest (a.put o.dst v) w') : wpList P ops Q (o :: rest) a w := by
 refine wpList_plain hgd fun K hK => ?_
 unfold Oper.wp
 simp [execOp, ho, resolve, invoke, builtin, hd, hs, hrun, Result.andThen]
 exact hK _ _ h
theorem nb {P : Program} (w : World) (dT sT ty elem : TypeId) (g n dCap sCap s : Nat) (a : Addr) (cur : Array Value) (t : TypeId) (cs : List Value)
 (hu : P.underlying dT = some (.slice elem)) (hs : (P.info? elem).map (·.size) = some s)
 (hg : w.heap[g]? = some (.cells cur t (0, 0))) (hl0 : cs.length = n * s)
 (hsrc : ∀ j v, cs[j]? = some v -> w.cell? (a.add j) = some v) (hfit : cs.length = cur.size) (h1 : ∀ v ∈ cs, v.oneCell' = true) :
 (Builtin.copy_ #[dT, sT] ty #[.slice (some ⟨g, 0, none⟩) n dCap, .slice (some a) n sCap]).run P w = .ok (goInt n) (w.setRow g cs.toArray) := by
 have hl := run_loadCells_list (P := P) w a cs hsrc
 have hst := run_storeCells_at P g 0 t cs 0 cur w hg (by omega) h1
 have e : (cur.toList.take (0 + 0) ++ cs ++ cur.toList.drop (0 + 0 + cs.length)) = cs := by
  rw [List.drop_of_length_le (by simp; omega)]
  simp
 rw [e] at hst
 cases hq : P.info? elem with
 | none => simp [hq] at hs
 | some i =>
  have hi : i.size = s := by simpa [hq] using hs
  rw [hl0] at hl
  simp [Builtin.copy_, run_underlying hu, Builtin.lenOf, Builtin.firstCells, sizeOf, typeInfo, hq, hi, hl, hst]
theorem mq {P : Program} (w : World) (dT sT ty elem : TypeId) (d a : Option Addr) (dCap sCap s : Nat) (hu : P.underlying dT = some (.slice elem)) (hs : (P.info? elem).map (·.size) = some s) :
 (Builtin.copy_ #[dT, sT] ty #[.slice d 0 dCap, .slice a 0 sCap]).run P w = .ok (goInt 0) w := by
 cases hq : P.info? elem with
 | none => simp [hq] at hs
 | some i =>
  have hl : ∀ (x : Addr), (loadCells x 0).run P w = .ok #[] w := fun x => by simpa using run_loadCells_list (P := P) w x [] (by simp)
  cases d <;> cases a <;> simp [Builtin.copy_, run_underlying hu, Builtin.lenOf, Builtin.firstCells, sizeOf, typeInfo, hq, storeCells, hl]
def gb (s n : Nat) (F : Nat -> List Value) : List Value := (List.range (n * s)).map (fun i => (F (i / s)).getD (i % s) undef)
theorem eS (s n : Nat) (F : Nat -> List Value) : (gb s n F).length = n * s := by simp [gb]
theorem mr {s n : Nat} {F : Nat -> List Value} {k j : Nat} (hk : k < n) (hj : j < s) (hF : (F k).length = s) : (gb s n F)[k * s + j]? = (F k)[j]? := by
 have hin : k * s + j < n * s := by
  have : (k + 1) * s <= n * s := Nat.mul_le_mul_right _ hk
  rw [Nat.add_mul, Nat.one_mul] at this
  omega
 have e1 : (k * s + j) / s = k := by rw [Nat.mul_comm, Nat.mul_add_div (by omega), Nat.div_eq_of_lt hj, Nat.add_zero]
 have e2 : (k * s + j) % s = j := by rw [Nat.add_comm, Nat.add_mul_mod_self_right, Nat.mod_eq_of_lt hj]
 simp [gb, hin, e1, e2, hF, hj]
theorem aG.ofFlat {w : World} {g : Nat} {t : TypeId} {s n : Nat} {F : Nat -> List Value} (h : w.heap[g]? = some (.cells (gb s n F).toArray t (0, 0))) (hF : ∀ k, k < n -> (F k).length = s) : aG w g t s n F :=
 ⟨_, h, by simp [eS], fun k hk j hj => by rw [List.getElem?_toArray]; exact mr hk hj (hF k hk)⟩
theorem pK {w : World} {b off s n : Nat} {F : Nat -> List Value} (hs0 : 0 < s) (hF : ∀ k, k < n -> (F k).length = s) (hc : ∀ k, k < n -> ∀ j, j < s -> w.cell? ⟨b, off + k * s + j, none⟩ = (F k)[j]?) :
 ∀ j v, (gb s n F)[j]? = some v -> w.cell? ((⟨b, off, none⟩ : Addr).add j) = some v := by
 intro j v hv
 have hj : j < n * s := by
  have := (List.getElem?_eq_some_iff.1 hv).1
  simpa [eS] using this
 have hk : j / s < n := Nat.div_lt_of_lt_mul (by rw [Nat.mul_comm]; exact hj)
 have hm : j % s < s := Nat.mod_lt _ hs0
 have e : j / s * s + j % s = j := by rw [Nat.mul_comm]; exact Nat.div_add_mod j s
 have e1 : (⟨b, off, none⟩ : Addr).add j = ⟨b, off + j / s * s + j % s, none⟩ := by
  rw [Nat.add_assoc, e]
  unfold Addr.add
  split
  ·rename_i h0; subst h0; rfl
  rfl
 rw [e1, hc _ hk _ hm, <- mr hk hm (hF _ hk), e]
 exact hv
theorem pM {s n : Nat} {F : Nat -> List Value} {P : Value -> Prop} (hs0 : 0 < s) (hF : ∀ k, k < n -> (F k).length = s) (h : ∀ k, k < n -> ∀ v ∈ F k, P v) : ∀ v ∈ gb s n F, P v := by
 intro v hv
 obtain ⟨i, hi, rfl⟩ := List.mem_map.1 hv
 have hi' : i < n * s := List.mem_range.1 hi
 have hk : i / s < n := Nat.div_lt_of_lt_mul (by rw [Nat.mul_comm]; exact hi')
 have hm : i % s < s := Nat.mod_lt _ hs0
 refine h _ hk _ ?_
 have e := hF _ hk
 rw [List.getD_eq_getElem?_getD, List.getElem?_eq_getElem (by omega)]
 simp
theorem pN : (prog.info? 102).map (·.size) = some 7 := by kernel_rfl
theorem tp (a : Option Addr) (n cap : Nat) (f : Nat -> Ru) (w : World) (hs : dQ w a n f) (hl : n <= 2000000) :
 Calls prog 53 #[.slice a n cap] w fun e w' => e = .returned (.slice (some ⟨w.heap.size, 0, none⟩) n n) /\ az w' w.heap.size n f /\ Below w.heap.size w w' := by
 have hmk := ck (P := prog) 33 102 (.agg (aS ⟨0, 0, 0, 0, 0, 0, 0⟩)) 7 56 underlying33 Tryz.info102 .i64 .i64 n (by omega) (by omega)
 obtain ⟨W, hW⟩ : ∃ W, W = w.alloc (.cells (madeCells (Value.agg (aS ⟨0, 0, 0, 0, 0, 0, 0⟩)).cells (n * 7)) 102) := ⟨_, rfl⟩
 have b0 : Below w.heap.size w W := by rw [hW]; exact (Below.refl _ w).alloc (Nat.le_refl _) _
 have hh : W.heap[w.heap.size]? = some (.cells (madeCells (Value.agg (aS ⟨0, 0, 0, 0, 0, 0, 0⟩)).cells (n * 7)) 102 (0, 0)) := by rw [hW]; show (w.heap.push _)[w.heap.size]? = _; simp
 have hs1 := eF.below hs b0
 have HRUN : Hid (∃ w2, (Builtin.copy_ #[33, 33] 3 #[.slice (some ⟨w.heap.size, 0, none⟩) n n, .slice a n cap]).run prog W = .ok (goInt n) w2 /\ az w2 w.heap.size n f /\ Below w.heap.size w w2) := by
  rcases hs1 with h0 | ⟨b, off, rfl, hlt, hc⟩
  ·subst h0
   exact ⟨W, mq W _ _ _ 102 _ _ _ _ 7 underlying33 pN, ⟨_, hh, by simp [madeCells], fun k hk => by omega⟩, b0⟩
  have hF : ∀ k, k < n -> (cT (f k)).length = 7 := fun _ _ => rfl
  refine ⟨_, nb W _ _ _ 102 w.heap.size n n cap 7 ⟨b, off, none⟩ _ 102 (gb 7 n (fun k => cT (f k))) underlying33 pN hh (eS _ _ _) (pK (by decide) hF hc) (by rw [eS, size_madeCells]) (pM (by decide) hF (fun k _ v hv => by simp at hv; rcases hv with rfl | rfl | rfl | rfl | rfl | rfl | rfl <;> rfl)), ?_, below_setRow b0 (Nat.le_refl _) _⟩
  exact aG.ofFlat (by exact setRow_heap W w.heap.size _ _ 102 _ hh) hF
 clear hs hs1 hh
 obtain ⟨w2, hr2, R2, B2⟩ := HRUN.out
 have HR : Hid ((Builtin.copy_ #[33, 33] 3 #[.slice (some ⟨w.heap.size, 0, none⟩) n n, .slice a n cap]).run prog W = .ok (goInt n) w2) := hr2
 have HX : Hid (az w2 w.heap.size n f /\ Below w.heap.size w w2) := ⟨R2, B2⟩
 clear HRUN hr2 R2 B2 b0
 rw [hW] at HR
 go_enter func53, ntmps53
 go_wp2_with (refine jP rfl (.tmp 7) (.tmp 8) 33 33 rfl _ _ rfl rfl _ HR.out ?_)
 go_ret
 exact ⟨rfl, HX.out⟩
theorem ou (g n c : Nat) (f : Nat -> Ru) (w0 w : World) (hb : Below w0.heap.size w0 w) (hg : w0.heap.size <= g) (hr : az w g n f) (hn : n <= 24) :
 Calls prog 245 #[.slice (some ⟨g, 0, none⟩) n c, .int .i64 (n : Int), .func (.func 164) #[] #[]] w fun e w' => e = .returned (.tuple #[]) /\ ∃ f', az w' g n f' /\ aH 0 n f f' /\ aC f' 0 n /\ Below w0.heap.size w0 w' := by
 by_cases h20 : 20 <= n
 ·have d1 : (20 : Int) <= (n : Int) := by omega
  have d2 : ¬ (40 : Int) <= (n : Int) := by omega
  go_enter func245, ntmps245
  go_wp2
  refine wp_loop_rounds 2 ?_
  rw [rounds_succ]
  go_wp2_with fail
  refine (fv g n c 0 20 f w0 _ hb hg hr h20 (by omega) (by omega)).mono ?_
  rintro e w1 ⟨rfl, f1, R1, P1, S1, B1⟩
  clear hr hb
  go_wp2
  rw [rounds_succ]
  go_wp2_with fail
  refine (fv g n c 20 n f1 w0 _ B1 hg R1 (Nat.le_refl _) (by omega) h20).mono ?_
  rintro e w2 ⟨rfl, f2, R2, P2, S2, B2⟩
  have PP : aH 0 n f f2 := (P1.mono (Nat.le_refl _) h20).trans (P2.mono (by omega) (Nat.le_refl _))
  have SL : aC f2 0 20 := fun i j h1 h2 h3 => by rw [P2.out (.inl (by omega)), P2.out (.inl h3)]; exact S1 i j h1 h2 h3
  clear R1 B1 P1 P2 S1
  by_cases h21 : 20 < n
  ·have d3 : (20 : Int) < (n : Int) := by omega
   have d4 : ¬ (40 : Int) < (n : Int) := by omega
   go_wp2
   refine wp_loop_rounds 2 ?_
   rw [rounds_succ]
   go_wp2
   refine wp_loop_rounds 1 ?_
   rw [rounds_succ]
   go_wp2_with fail
   refine (mp n g n c 0 20 n f2 w0 _ B2 hg R2 (by omega) h21 (Nat.le_refl _) (by omega) SL S2 (by omega)).mono ?_
   rintro e w3 ⟨rfl, f3, R3, P3, S3, B3⟩
   have HX : Hid (∃ f', az w3 g n f' /\ aH 0 n f f' /\ aC f' 0 n /\ Below w0.heap.size w0 w3) := ⟨f3, R3, PP.trans P3, S3, B3⟩
   clear R2 B2 PP SL S2 R3 B3 P3 S3
   go_wp2
   rw [rounds_succ]
   go_wp2
   refine bodyPost_end (v := .tuple #[]) (by simp [results, results245, go_sem]) rfl ⟨rfl, HX.out⟩
  have d3 : ¬ (20 : Int) < (n : Int) := by omega
  have HX : Hid (∃ f', az w2 g n f' /\ aH 0 n f f' /\ aC f' 0 n /\ Below w0.heap.size w0 w2) := ⟨f2, R2, PP, (by rw [show n = 20 by omega]; exact SL), B2⟩
  clear R2 B2 PP SL S2
  go_wp2
  refine wp_loop_rounds 1 ?_
  rw [rounds_succ]
  go_wp2
  refine bodyPost_end (v := .tuple #[]) (by simp [results, results245, go_sem]) rfl ⟨rfl, HX.out⟩
 have d1 : ¬ (20 : Int) <= (n : Int) := by omega
 have d3 : ¬ (20 : Int) < (n : Int) := by omega
 go_enter func245, ntmps245
 go_wp2
 refine wp_loop_rounds 1 ?_
 rw [rounds_succ]
 go_wp2_with fail
 refine (fv g n c 0 n f w0 _ hb hg hr (Nat.le_refl _) (by omega) (by omega)).mono ?_
 rintro e w1 ⟨rfl, f1, R1, P1, S1, B1⟩
 have HX : Hid (∃ f', az w1 g n f' /\ aH 0 n f f' /\ aC f' 0 n /\ Below w0.heap.size w0 w1) := ⟨f1, R1, P1, S1, B1⟩
 clear R1 B1 P1 S1 hr hb
 go_wp2
 refine wp_loop_rounds 1 ?_
 rw [rounds_succ]
 go_wp2
 refine bodyPost_end (v := .tuple #[]) (by simp [results, results245, go_sem]) rfl ⟨rfl, HX.out⟩
theorem kv (g n c : Nat) (f : Nat -> Ru) (w0 w : World) (hb : Below w0.heap.size w0 w) (hg : w0.heap.size <= g) (hr : az w g n f) (hn : n <= 24) :
 Calls prog 217 #[.slice (some ⟨g, 0, none⟩) n c, .func (.func 164) #[] #[]] w fun e w' => e = .returned (.tuple #[]) /\ ∃ f', az w' g n f' /\ aH 0 n f f' /\ aC f' 0 n /\ Below w0.heap.size w0 w' := by
 go_enter func217, ntmps217
 go_wp2_with fail
 refine (ou g n c f w0 _ hb hg hr hn).mono ?_
 rintro e w1 ⟨rfl, hx⟩
 have HX : Hid _ := hx
 clear hx hr hb
 go_wp2
 refine bodyPost_end (v := .tuple #[]) (by simp [results, results217, go_sem]) rfl ⟨rfl, HX.out⟩
theorem ms (a : Option Addr) (n cap : Nat) (f : Nat -> Ru) (w : World) (hs : dQ w a n f) (hn : n <= 24) :
 Calls prog 163 #[.slice a n cap, .func (.func 164) #[] #[]] w fun e w' => e = .returned (.slice (some ⟨w.heap.size, 0, none⟩) n n) /\ ∃ f', az w' w.heap.size n f' /\ aH 0 n f f' /\ aC f' 0 n /\ Below w.heap.size w w' := by
 go_enter func163, ntmps163
 go_wp2_with fail
 refine (tp a n cap f _ hs (by omega)).mono ?_
 rintro e w1 ⟨rfl, R1, B1⟩
 clear hs
 go_wp2_with fail
 refine (kv w.heap.size n n f w _ B1 (Nat.le_refl _) R1 hn).mono ?_
 rintro e w2 ⟨rfl, hx⟩
 have HX : Hid _ := hx
 clear hx R1 B1
 go_wp2
 go_ret
 exact ⟨rfl, HX.out⟩
end Go.Proofs.YtplaoagcedgdfaaGreat
namespace Go.Proofs.YtplaoagcedgdfaaGreat
open Go.Proofs.Tryz
def gc (a b : Ru) : Prop := a.u = b.u /\ a.s = b.s /\ a.lo <= b.hi /\ b.lo <= a.hi
instance (a b : Ru) : Decidable (gc a b) := by unfold gc; infer_instance
def gd (f : Nat -> Ru) (n : Nat) : Prop := ∀ i, i < n -> ∀ k, k < i -> ¬ gc (f k) (f i)
def ov (f : Nat -> Ru) (n : Nat) : Prop := ∀ i, i + 1 < n -> ft (f i) (f (i + 1)).u (f (i + 1)).s (f (i + 1)).lo = false
theorem mt {a b : Ru} (h : gc a b) : gc b a := by unfold gc at *; omega
theorem kN {r : Ru} {u s p : Int} : ft r u s p = true ↔ (r.u = u /\ r.s = s /\ r.lo <= p /\ p <= r.hi) := by
 simp [ft, and_assoc]
theorem kO {f : Nat -> Ru} {n : Nat} (h : ov f n) (hs : aC f 0 n) : ∀ i j, i < j -> j < n -> ¬ gc (f i) (f j) := by
 intro i j hij hj ho
 have h1 := h i (by omega)
 have h2 : cE (f i) (f (i + 1)) := hs i (i + 1) (by omega) (by omega) (by omega)
 have h3 : cE (f (i + 1)) (f j) := hs.le (by omega) (by omega) hj
 have h4 : ft (f i) (f (i + 1)).u (f (i + 1)).s (f (i + 1)).lo = true := by
  rw [kN]
  unfold gc at ho
  unfold cE cm at h2 h3
  omega
 rw [h1] at h4
 cases h4
theorem pO {f f' : Nat -> Ru} {n : Nat} (hok : ∀ k, k < n -> (f k).lo <= (f k).hi) (p : aH 0 n f f') (hs : aC f' 0 n) : ov f' n ↔ gd f n := by
 obtain ⟨σ, τ, p1, p2, p3, p4⟩ := p
 have pf : ∀ k, f k = f' (τ k) := fun k => by rw [p4, (p3 k).2]
 have τlt : ∀ k, k < n -> τ k < n := fun k hk => (p2 k (Nat.zero_le _) hk).2.2.2
 have σlt : ∀ k, k < n -> σ k < n := fun k hk => (p2 k (Nat.zero_le _) hk).2.1
 constructor
 ·intro h i hi k hk ho
  rw [pf k, pf i] at ho
  have hne : τ k ≠ τ i := fun e => by
   have e1 := (p3 k).2
   rw [e, (p3 i).2] at e1
   omega
  rcases Nat.lt_or_gt_of_ne hne with hl | hl
  ·exact kO h hs _ _ hl (τlt i hi) ho
  exact kO h hs _ _ hl (τlt k (by omega)) (mt ho)
 intro h i hi
 cases hx : ft (f' i) (f' (i + 1)).u (f' (i + 1)).s (f' (i + 1)).lo
 ·rfl
 exfalso
 rw [kN, p4 i, p4 (i + 1)] at hx
 have a1 := hok _ (σlt i (by omega))
 have a2 := hok _ (σlt (i + 1) hi)
 have ho : gc (f (σ i)) (f (σ (i + 1))) := by unfold gc; omega
 have hne : σ i ≠ σ (i + 1) := fun e => by
  have e1 := (p3 i).1
  rw [e, (p3 (i + 1)).1] at e1
  omega
 rcases Nat.lt_or_gt_of_ne hne with hl | hl
 ·exact h _ (σlt _ hi) _ hl ho
 exact h _ (σlt _ (by omega)) _ hl (mt ho)
def gw (f : Nat -> Ru) (n : Nat) : Prop := n <= 24 /\ (∀ k, k < n -> bD (f k)) /\ gd f n
end Go.Proofs.YtplaoagcedgdfaaGreat
namespace Go.Proofs.YtplaoagcedgdfaaGreat
open Go.RowKit Go.Proofs.Tryz
theorem mu (a : Option Addr) (n cap : Nat) (f : Nat -> Ru) (w : World) (hs : dQ w a n f) (hn : n <= 24) (hok : ∀ k, k < n -> (f k).lo <= (f k).hi) (b : Bool) (hb : b = true ↔ gd f n) :
 Calls prog 102 #[.slice a n cap] w fun e w' => e = .returned (.bool b) /\ Below w.heap.size w w' := by
 have HB : Hid (b = true ↔ gd f n) := hb
 have HOK : Hid (∀ k, k < n -> (f k).lo <= (f k).hi) := hok
 clear hb hok
 go_enter func102, ntmps102
 go_wp2_with fail
 refine (ms a n cap f _ hs hn).mono ?_
 rintro e w1 ⟨rfl, h, R1, P1, S1, B1⟩
 have HI : Hid (True /\ (ov h n ↔ gd f n)) := ⟨trivial, pO HOK.out P1 S1⟩
 clear P1 S1 HOK hs
 go_wp2
 go_loopw [4] (fun i wr => ∃ z : Nat, 1 <= z /\ (z <= n \/ z = 1) /\ i = .int .i64 z /\ az wr w.heap.size n h /\ (∀ j, j + 1 < z -> j + 1 < n -> ft (h j) (h (j + 1)).u (h (j + 1)).s (h (j + 1)).lo = false) /\ Below w.heap.size w wr) (fun i _ => n - (intOf i).toNat)
 case atStart => exact ⟨1, Nat.le_refl _, .inr rfl, rfl, R1, fun j h1 h2 => by omega, B1⟩
 case round =>
  clear R1 B1
  obtain ⟨z, hz, hzn, rfl, hrow, hadj, hbl⟩ := hrel
  have HA : Hid (∀ j, j + 1 < z -> j + 1 < n -> ft (h j) (h (j + 1)).u (h (j + 1)).s (h (j + 1)).lo = false) := hadj
  clear hadj
  by_cases hlt : z < n
  ·have hi : (z : Int) < (n : Int) := by omega
   obtain ⟨y, hy⟩ : ∃ y, z = y + 1 := ⟨z - 1, by omega⟩
   have wy : IntKind.i64.wrap ((z : Int) - 1) = (y : Int) := by rw [IntKind.wrap_i64]; omega
   have hyn : (y : Int) < (n : Int) := by omega
   have hyn2 : y < n := by omega
   obtain ⟨c0, c1, c2, c3, c4, c5, c6⟩ := az.seven hrow hlt
   obtain ⟨hv, hhv⟩ : ∃ hv, ft (h y) (h z).u (h z).s (h z).lo = hv := ⟨_, rfl⟩
   have HV : Hid (ft (h y) (h z).u (h z).s (h z).lo = hv) := hhv
   have HY : Hid (z = y + 1) := hy
   obtain ⟨gB, hgB⟩ : ∃ gB, gB = wr.heap.size := ⟨_, rfl⟩
   obtain ⟨W, hW⟩ : ∃ W, W = wr.alloc (.cells (aS (h z)) 102) := ⟨_, rfl⟩
   have HW : Hid (az W w.heap.size n h /\ Below w.heap.size w W /\ gB < W.heap.size /\ ∀ u, Below W.heap.size W u -> u.cell? ⟨gB, 0, none⟩ = some (.int .i64 (h z).u) /\ u.cell? ⟨gB, 1, none⟩ = some (.int .i64 (h z).s) /\ u.cell? ⟨gB, 2, none⟩ = some (.int .i64 (h z).lo)) := by
    have hl : gB < W.heap.size := by rw [hW, hgB]; simp
    refine ⟨by rw [hW]; exact hrow.below ((Below.refl _ _).alloc (Nat.le_refl _) _), by rw [hW]; exact ak hbl ((Below.refl _ _).alloc (Nat.le_refl _) _), hl, fun u hu => ⟨?_, ?_, ?_⟩⟩
    ·rw [hu.cell (p := ⟨gB, 0, none⟩) hl, hW, hgB]; simp [go_sem]
    ·rw [hu.cell (p := ⟨gB, 1, none⟩) hl, hW, hgB]; simp [go_sem]
    rw [hu.cell (p := ⟨gB, 2, none⟩) hl, hW, hgB]; simp [go_sem]
   clear hhv hy hrow hbl
   go_wp2
   rw [<- hW, <- hgB]
   clear hW hgB c0 c1 c2 c3 c4 c5 c6
   refine wp_region_any (by kernel_rfl) ?_
   refine aX (fun u => Below W.heap.size W u) (fun i v u => match i with
    | 0 => v = .slice (some ⟨w.heap.size, 0, none⟩) n n
    | 1 => v = .int .i64 (z : Int)
    | 2 => v = .int .i64 (y : Int)
    | 3 => v = .pointer (some ⟨w.heap.size, y * 7, none⟩)
    | 4 => v = .agg (aS (h y))
    | 5 => v = .pointer (some ⟨gB, 0, none⟩)
    | 6 => v = .int .i64 (h z).u
    | 7 => v = .pointer (some ⟨gB, 1, none⟩)
    | 8 => v = .int .i64 (h z).s
    | 9 => v = .pointer (some ⟨gB, 2, none⟩)
    | 10 => v = .int .i64 (h z).lo
    | 11 => v = .bool hv
    | _ => True) (by kernel_rfl) (by kernel_rfl) (fun _ _ _ _ h _ => h) (Below.refl _ _).drew ?_ ?_ _ _ rfl (by decide) (fun i => by simp [Array.getD]; try (split <;> rfl))
   ·intro vs u hR hall
    have e16 : vs 11 = .bool hv := hall 11 (by simp)
    simp only [bm]
    rw [e16]
    clear hall e16
    have HX : Hid (az u w.heap.size n h /\ Below w.heap.size w u) := ⟨HW.out.1.below hR, ak HW.out.2.1 hR⟩
    clear hR HW
    cases hv
    case false =>
     go_simp
     go_wp2
     go_roundw
     case rel => exact ⟨z + 1, by omega, by omega, by go_num, HX.out.1, fun j h1 h2 => (by have := HY.out; by_cases e : j = y; (subst e; rw [<- this]; exact HV.out); (exact HA.out j (by omega) h2)), HX.out.2⟩
     case measure => simp [intOf]; omega
    have hno : b = false := by cases b with | false => rfl | true => (have h9 := (HI.out.2.trans HB.out.symm).2 rfl y (by have := HY.out; omega); rw [<- HY.out, HV.out] at h9; cases h9)
    subst hno
    go_simp
    go_wp2
    go_ret
    exact ⟨rfl, HX.out.2⟩
   intro u i o ρ hR ho hρ hc hf hd
   have hi : i < 12 := by
    have := (Array.getElem?_eq_some_iff.1 ho).1
    simpa using this
   obtain rfl | rfl | rfl | rfl | rfl | rfl | rfl | rfl | rfl | rfl | rfl | rfl : i = 0 \/ i = 1 \/ i = 2 \/ i = 3 \/ i = 4 \/ i = 5 \/ i = 6 \/ i = 7 \/ i = 8 \/ i = 9 \/ i = 10 \/ i = 11 := by omega
   all_goals (simp only [List.getElem?_toArray, List.getElem?_cons_zero, List.getElem?_cons_succ, Option.some.injEq] at ho; subst ho)
   ·exact yr rfl (hρ 3 (by kernel_rfl)) hR
   ·exact yr rfl (hρ 4 (by kernel_rfl)) hR
   ·have h1 : ρ (.tmp 19) = .int .i64 (z : Int) := dq hd 1 19
    exact yr (aD rfl h1 (hc _) (by go_simp)) rfl hR
   ·have h0 : ρ (.tmp 18) = .slice (some ⟨w.heap.size, 0, none⟩) n n := dq hd 0 18
    have h2 : ρ (.tmp 20) = .int .i64 (y : Int) := dq hd 2 20
    exact yr (au rfl h0 h2 (by go_simp)) rfl hR
   ·have R0 : az u w.heap.size n h := HW.out.1.below hR
    obtain ⟨d0, d1, d2, d3, d4, d5, d6⟩ := az.seven R0 (show y < n from by omega)
    clear R0
    have h3 : ρ (.tmp 21) = .pointer (some ⟨w.heap.size, y * 7, none⟩) := dq hd 3 21
    exact yr (ai rfl h3 (by go_simp)) rfl hR
   ·exact yr (aq rfl (hρ 5 (by kernel_rfl)) (by go_simp)) rfl hR
   ·obtain ⟨q0, q1, q2⟩ := HW.out.2.2.2 u hR
    have h5 : ρ (.tmp 23) = .pointer (some ⟨gB, 0, none⟩) := dq hd 5 23
    exact yr (ai rfl h5 (by go_simp)) rfl hR
   ·exact yr (aq rfl (hρ 5 (by kernel_rfl)) (by go_simp)) rfl hR
   ·obtain ⟨q0, q1, q2⟩ := HW.out.2.2.2 u hR
    have h7 : ρ (.tmp 25) = .pointer (some ⟨gB, 1, none⟩) := dq hd 7 25
    exact yr (ai rfl h7 (by go_simp)) rfl hR
   ·exact yr (aq rfl (hρ 5 (by kernel_rfl)) (by go_simp)) rfl hR
   ·obtain ⟨q0, q1, q2⟩ := HW.out.2.2.2 u hR
    have h9 : ρ (.tmp 27) = .pointer (some ⟨gB, 2, none⟩) := dq hd 9 27
    exact yr (ai rfl h9 (by go_simp)) rfl hR
   have h4 : ρ (.tmp 22) = .agg (aS (h y)) := dq hd 4 22
   have h6 : ρ (.tmp 24) = .int .i64 (h z).u := dq hd 6 24
   have h8 : ρ (.tmp 26) = .int .i64 (h z).s := dq hd 8 26
   have h10 : ρ (.tmp 28) = .int .i64 (h z).lo := dq hd 10 28
   refine .inl ⟨rfl, .inr ⟨_, _, bj rfl (hf _) (args := #[.agg (aS (h y)), .int .i64 (h z).u, .int .i64 (h z).s, .int .i64 (h z).lo]) (by simp [h4, h6, h8, h10]) (by kernel_rfl), ?_⟩⟩
   refine (rV (h y) (h z).u (h z).s (h z).lo _).mono ?_
   rintro e u' ⟨he, b'⟩
   rw [HV.out] at he
   exact ⟨_, he, rfl, ak hR b', b'⟩
  have hi : ¬ (z : Int) < (n : Int) := by omega
  have hyes : b = true := HB.out.2 (HI.out.2.1 (fun j hj => HA.out j (by omega) hj))
  subst hyes
  clear hrow
  go_wp2
  go_ret
  exact ⟨rfl, hbl⟩
theorem jQ (a : Option Addr) (n cap : Nat) (f : Nat -> Ru) (w : World) (hs : dQ w a n f) (hl : n <= 2000000) (h64 : ∀ k, k < n -> -9223372036854775808 <= (f k).sh /\ (f k).sh <= 9223372036854775807) (b : Bool) (hb : b = true ↔ gw f n) :
 Calls prog 52 #[.slice a n cap] w fun e w' => e = .returned (.bool b) /\ Below w.heap.size w w' := by
 have HB : Hid (b = true ↔ gw f n) := hb
 clear hb
 by_cases hn : 24 < n
 ·have d : (24 : Int) < (n : Int) := by omega
  have hno : b = false := by cases b with | false => rfl | true => (have := (HB.out.1 rfl).1; omega)
  subst hno
  clear hs
  go_enter func52, ntmps52
  go_wp2
  go_ret
  exact ⟨rfl, Below.refl _ _⟩
 have d : ¬ (24 : Int) < (n : Int) := by omega
 go_enter func52, ntmps52
 go_wp2
 go_loopw [10] (fun i wr => ∃ z : Nat, z <= n /\ i = .int .i64 z /\ (∀ k, k < z -> bD (f k)) /\ Below w.heap.size w wr) (fun i _ => n - (intOf i).toNat)
 case atStart => exact ⟨0, Nat.zero_le _, rfl, fun k hk => by omega, Below.refl _ _⟩
 case round =>
  obtain ⟨z, hz, rfl, hall, hbl⟩ := hrel
  by_cases hlt : z < n
  ·have hi : (z : Int) < (n : Int) := by omega
   obtain ⟨bb, off, rfl, hb0, c0, c1, c2, c3, c4, c5, c6⟩ := dQ.seven (eF.below hs hbl) hlt
   have B1 : Below w.heap.size w (wr.alloc (.cells (aS (f z)) 102)) := ak hbl ((Below.refl _ _).alloc (Nat.le_refl _) _)
   have HA : Hid (∀ k, k < z -> bD (f k)) := hall
   clear hall
   go_wp2_with fail
   refine (mL (f z) _ (h64 z hlt)).mono ?_
   rintro e w2 ⟨rfl, b2⟩
   have B2 := ak B1 b2
   clear B1 b2 hbl c0 c1 c2 c3 c4 c5 c6
   by_cases ho : bD (f z)
   ·rw [decide_eq_true ho]
    go_wp2
    go_roundw
    case rel => exact ⟨z + 1, by omega, by go_num, fun k hk => (by by_cases e : k = z; (subst e; exact ho); (exact HA.out k (by omega))), B2⟩
    case measure => simp [intOf]; omega
   rw [decide_eq_false ho]
   have hno : b = false := by cases b with | false => rfl | true => exact absurd ((HB.out.1 rfl).2.1 z hlt) ho
   subst hno
   go_wp2
   go_ret
   exact ⟨rfl, B2⟩
  have hi : ¬ (z : Int) < (n : Int) := by omega
  have S2 := eF.below hs hbl
  have HA : Hid (∀ k, k < n -> bD (f k)) := fun k hk => hall k (by omega)
  clear hall
  go_wp2_with fail
  refine (mu a n cap f _ S2 (by omega) (fun k hk => (HA.out k hk).2.2.1.2.1) b ⟨fun h => (HB.out.1 h).2.2, fun h => HB.out.2 ⟨by omega, HA.out, h⟩⟩).mono ?_
  rintro e w2 ⟨rfl, b2⟩
  have B2 := ak hbl b2
  clear b2 hbl S2
  go_wp2
  go_ret
  exact ⟨rfl, B2⟩
end Go.Proofs.YtplaoagcedgdfaaGreat
