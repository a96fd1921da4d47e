/- Texts that the proof needs, joined: CpS Sr8 Pt1 PutWord1 Pack1 R1 Cur1 Cur2 Cur3 AskU Dr1 Dr2 ArgQ ArgU Dr3 Dr4 Dr5 Sr10. -/
import Derived.Test.YtklnfeblkffgiaaDoorV1
import Derived.Laws.CopyOwn
import Derived.Test.YtklnfeblkffgiaaDoorV6
import Derived.Test.YtklnfeblkffgiaaDoorV3
import Derived.LoopN
import Derived.Lib.AppendZerosOnto
import Derived.Deep.Slices
import Derived.Deep.Upon
import Derived.Deep.Cut
import Derived.Deep.CutRange
namespace Go.Proofs.YtklnfeblkffgiaaDoor
open Go.RowKit
set_option linter.unusedVariables false
theorem wpList_copy_run {P : Program} {w w' : World} {ops : Array Oper} {rest : List Oper} {o : Oper} {a : Act} {Q : Exit → Act → World → Prop} (hgd : o.guard = none) (d s : Operand) (dT sT : TypeId)
    (ho : o.op = .call { callee := .builtin .copy, args := #[d, s], argTypes := #[dT, sT] }) (vd vs : Value) (hd : a.eval d = vd) (hs : a.eval s = vs) (v : Value)
    (hrun : (Builtin.copy_ #[dT, sT] o.type #[vd, vs]).run P w = .ok v w')
    (h : wpList P ops Q rest (a.put o.dst v) w') : wpList P ops Q (o :: rest) a w := by
  refine wpList_plain hgd fun K hK => ?_
  unfold Oper.wp
  simp [execOp, ho, resolve, invoke, builtin, hd, hs, hrun, Result.andThen]
  exact hK _ _ h
theorem run_copy_st {P : Program} (w : World) (dT sT ty elem : TypeId) (g n dCap sCap s : Nat) (a : Addr) (cur : Array Value) (t : TypeId) (cs : List Value)
    (hu : P.underlying dT = some (.slice elem)) (hs : (P.info? elem).map (·.size) = some s)
    (hg : w.heap[g]? = some (.cells cur t (0, 0))) (hl0 : cs.length = n * s)
    (hsrc : ∀ j v, cs[j]? = some v → w.cell? (a.add j) = some v) (hfit : cs.length = cur.size) (h1 : ∀ v ∈ cs, v.oneCell' = true) :
    (Builtin.copy_ #[dT, sT] ty #[.slice (some ⟨g, 0, none⟩) n dCap, .slice (some a) n sCap]).run P w = .ok (goInt n) (w.setRow g cs.toArray) := by
  have hl := run_loadCells_list (P := P) w a cs hsrc
  have hst := run_storeCells_at P g 0 t cs 0 cur w hg (by omega) h1
  have e : (cur.toList.take (0 + 0) ++ cs ++ cur.toList.drop (0 + 0 + cs.length)) = cs := by
    rw [List.drop_of_length_le (by simp; omega)]
    simp
  rw [e] at hst
  cases hq : P.info? elem with
  | none => simp [hq] at hs
  | some i =>
    have hi : i.size = s := by simpa [hq] using hs
    rw [hl0] at hl
    simp [Builtin.copy_, run_underlying hu, Builtin.lenOf, Builtin.firstCells, sizeOf, typeInfo, hq, hi, hl, hst]
theorem run_copy_st0 {P : Program} (w : World) (dT sT ty elem : TypeId) (d a : Option Addr) (dCap sCap s : Nat) (hu : P.underlying dT = some (.slice elem)) (hs : (P.info? elem).map (·.size) = some s) :
    (Builtin.copy_ #[dT, sT] ty #[.slice d 0 dCap, .slice a 0 sCap]).run P w = .ok (goInt 0) w := by
  cases hq : P.info? elem with
  | none => simp [hq] at hs
  | some i =>
    have hl : ∀ (x : Addr), (loadCells x 0).run P w = .ok #[] w := fun x => by simpa using run_loadCells_list (P := P) w x [] (by simp)
    cases d <;> cases a <;> simp [Builtin.copy_, run_underlying hu, Builtin.lenOf, Builtin.firstCells, sizeOf, typeInfo, hq, storeCells, hl]
def flatS (s n : Nat) (F : Nat → List Value) : List Value := (List.range (n * s)).map (fun i => (F (i / s)).getD (i % s) undef)
theorem flatS_length (s n : Nat) (F : Nat → List Value) : (flatS s n F).length = n * s := by simp [flatS]
theorem flatS_at {s n : Nat} {F : Nat → List Value} {k j : Nat} (hk : k < n) (hj : j < s) (hF : (F k).length = s) : (flatS s n F)[k * s + j]? = (F k)[j]? := by
  have hin : k * s + j < n * s := by
    have : (k + 1) * s ≤ n * s := Nat.mul_le_mul_right _ hk
    rw [Nat.add_mul, Nat.one_mul] at this
    omega
  have e1 : (k * s + j) / s = k := by rw [Nat.mul_comm, Nat.mul_add_div (by omega), Nat.div_eq_of_lt hj, Nat.add_zero]
  have e2 : (k * s + j) % s = j := by rw [Nat.add_comm, Nat.add_mul_mod_self_right, Nat.mod_eq_of_lt hj]
  simp [flatS, hin, e1, e2, hF, hj]
theorem RowS.ofFlat {w : World} {g : Nat} {t : TypeId} {s n : Nat} {F : Nat → List Value} (h : w.heap[g]? = some (.cells (flatS s n F).toArray t (0, 0))) (hF : ∀ k, k < n → (F k).length = s) : RowS w g t s n F :=
  ⟨_, h, by simp [flatS_length], fun k hk j hj => by rw [List.getElem?_toArray]; exact flatS_at hk hj (hF k hk)⟩
theorem flatS_src {w : World} {b off s n : Nat} {F : Nat → List Value} (hs0 : 0 < s) (hF : ∀ k, k < n → (F k).length = s) (hc : ∀ k, k < n → ∀ j, j < s → w.cell? ⟨b, off + k * s + j, none⟩ = (F k)[j]?) :
    ∀ j v, (flatS s n F)[j]? = some v → w.cell? ((⟨b, off, none⟩ : Addr).add j) = some v := by
  intro j v hv
  have hj : j < n * s := by
    have := (List.getElem?_eq_some_iff.1 hv).1
    simpa [flatS_length] using this
  have hk : j / s < n := Nat.div_lt_of_lt_mul (by rw [Nat.mul_comm]; exact hj)
  have hm : j % s < s := Nat.mod_lt _ hs0
  have e : j / s * s + j % s = j := by rw [Nat.mul_comm]; exact Nat.div_add_mod j s
  have e1 : (⟨b, off, none⟩ : Addr).add j = ⟨b, off + j / s * s + j % s, none⟩ := by
    rw [Nat.add_assoc, e]
    unfold Addr.add
    split
    · rename_i h0; subst h0; rfl
    · rfl
  rw [e1, hc _ hk _ hm, ← flatS_at hk hm (hF _ hk), e]
  exact hv
theorem flatS_mem {s n : Nat} {F : Nat → List Value} {P : Value → Prop} (hs0 : 0 < s) (hF : ∀ k, k < n → (F k).length = s) (h : ∀ k, k < n → ∀ v ∈ F k, P v) : ∀ v ∈ flatS s n F, P v := by
  intro v hv
  obtain ⟨i, hi, rfl⟩ := List.mem_map.1 hv
  have hi' : i < n * s := List.mem_range.1 hi
  have hk : i / s < n := Nat.div_lt_of_lt_mul (by rw [Nat.mul_comm]; exact hi')
  have hm : i % s < s := Nat.mod_lt _ hs0
  refine h _ hk _ ?_
  have e := hF _ hk
  rw [List.getD_eq_getElem?_getD, List.getElem?_eq_getElem (by omega)]
  simp
end Go.Proofs.YtklnfeblkffgiaaDoor
namespace Go.Proofs.YtklnfeblkffgiaaDoor
open Go.RowKit
set_option linter.unusedVariables false
set_option linter.unusedSimpArgs false
theorem szU33 : (Tryd.prog.info? 33).map (·.size) = some 7 := by kernel_rfl
set_option maxRecDepth 20000 in
set_option maxHeartbeats 1000000 in
theorem copyOfU (a : Option Addr) (n cap : Nat) (f : Nat → Ru) (w : World) (hs : SlU w a n f) (hl : n ≤ 2000000) :
    Calls Tryd.prog 69 #[.slice a n cap] w fun e w' => e = .returned (.slice (some ⟨w.heap.size, 0, none⟩) n n) ∧ RowU w' w.heap.size n f ∧ Below w.heap.size w w' := by
  have hmk := run_make_st (P := Tryd.prog) 24 33 (.agg (ruc ⟨0, 0, 0, 0, 0, 0, 0⟩)) 7 56 Tryd.underlying24 Tryd.info33 .i64 .i64 n (by omega) (by omega)
  obtain ⟨W, hW⟩ : ∃ W, W = w.alloc (.cells (madeCells (Value.agg (ruc ⟨0, 0, 0, 0, 0, 0, 0⟩)).cells (n * 7)) 33) := ⟨_, rfl⟩
  have b0 : Below w.heap.size w W := by rw [hW]; exact (Below.refl _ w).alloc (Nat.le_refl _) _
  have hh : W.heap[w.heap.size]? = some (.cells (madeCells (Value.agg (ruc ⟨0, 0, 0, 0, 0, 0, 0⟩)).cells (n * 7)) 33 (0, 0)) := by rw [hW]; show (w.heap.push _)[w.heap.size]? = _; simp
  have hs1 := SlS.below hs b0
  have HRUN : Hid (∃ w2, (Builtin.copy_ #[24, 24] 3 #[.slice (some ⟨w.heap.size, 0, none⟩) n n, .slice a n cap]).run Tryd.prog W = .ok (goInt n) w2 ∧ RowU w2 w.heap.size n f ∧ Below w.heap.size w w2) := by
    rcases hs1 with h0 | ⟨b, off, rfl, hlt, hc⟩
    · subst h0
      exact ⟨W, run_copy_st0 W _ _ _ 33 _ _ _ _ 7 Tryd.underlying24 szU33, ⟨_, hh, by simp [madeCells], fun k hk => by omega⟩, b0⟩
    · have hF : ∀ k, k < n → (rul (f k)).length = 7 := fun _ _ => rfl
      refine ⟨_, run_copy_st W _ _ _ 33 w.heap.size n n cap 7 ⟨b, off, none⟩ _ 33 (flatS 7 n (fun k => rul (f k))) Tryd.underlying24 szU33 hh (flatS_length _ _ _) (flatS_src (by decide) hF hc) (by rw [flatS_length, size_madeCells]) (flatS_mem (by decide) hF (fun k _ v hv => by simp at hv; rcases hv with rfl | rfl | rfl | rfl | rfl | rfl | rfl <;> rfl)), ?_, below_setRow b0 (Nat.le_refl _) _⟩
      exact RowS.ofFlat (by exact setRow_heap W w.heap.size _ _ 33 _ hh) hF
  clear hs hs1 hh
  obtain ⟨w2, hr2, R2, B2⟩ := HRUN.out
  have HR : Hid ((Builtin.copy_ #[24, 24] 3 #[.slice (some ⟨w.heap.size, 0, none⟩) n n, .slice a n cap]).run Tryd.prog W = .ok (goInt n) w2) := hr2
  have HX : Hid (RowU w2 w.heap.size n f ∧ Below w.heap.size w w2) := ⟨R2, B2⟩
  clear HRUN hr2 R2 B2 b0
  rw [hW] at HR
  go_enter Tryd.func69, Tryd.ntmps69
  go_wp2_with (refine wpList_copy_run rfl (.tmp 7) (.tmp 8) 24 24 rfl _ _ rfl rfl _ HR.out ?_)
  go_ret
  exact ⟨rfl, HX.out⟩
set_option maxRecDepth 20000 in
set_option maxHeartbeats 2000000 in
theorem stable_any (g n c : Nat) (f : Nat → Ru) (w0 w : World) (hb : Below w0.heap.size w0 w) (hg : w0.heap.size ≤ g) (hr : RowU w g n f) (hn : n ≤ 24) :
    Calls Tryd.prog 80 #[.slice (some ⟨g, 0, none⟩) n c, .int .i64 (n : Int), .func (.func 63) #[] #[]] w fun e w' => e = .returned (.tuple #[]) ∧ ∃ f', RowU w' g n f' ∧ PermIn 0 n f f' ∧ SortedOn f' 0 n ∧ Below w0.heap.size w0 w' := by
  by_cases h20 : 20 ≤ n
  · have d1 : (20 : Int) ≤ (n : Int) := by omega
    have d2 : ¬ (40 : Int) ≤ (n : Int) := by omega
    go_enter Tryd.func80, Tryd.ntmps80
    go_wp2
    refine wp_loop_rounds 2 ?_
    rw [rounds_succ]
    go_wp2_with fail
    refine (insertion_any g n c 0 20 f w0 _ hb hg hr h20 (by omega) (by omega)).mono ?_
    rintro e w1 ⟨rfl, f1, R1, P1, S1, B1⟩
    clear hr hb
    go_wp2
    rw [rounds_succ]
    go_wp2_with fail
    refine (insertion_any g n c 20 n f1 w0 _ B1 hg R1 (Nat.le_refl _) (by omega) h20).mono ?_
    rintro e w2 ⟨rfl, f2, R2, P2, S2, B2⟩
    have PP : PermIn 0 n f f2 := (P1.mono (Nat.le_refl _) h20).trans (P2.mono (by omega) (Nat.le_refl _))
    have SL : SortedOn f2 0 20 := fun i j h1 h2 h3 => by rw [P2.out (.inl (by omega)), P2.out (.inl h3)]; exact S1 i j h1 h2 h3
    clear R1 B1 P1 P2 S1
    by_cases h21 : 20 < n
    · have d3 : (20 : Int) < (n : Int) := by omega
      have d4 : ¬ (40 : Int) < (n : Int) := by omega
      go_wp2
      refine wp_loop_rounds 2 ?_
      rw [rounds_succ]
      go_wp2
      refine wp_loop_rounds 1 ?_
      rw [rounds_succ]
      go_wp2_with fail
      refine (symMerge_any n g n c 0 20 n f2 w0 _ B2 hg R2 (by omega) h21 (Nat.le_refl _) (by omega) SL S2 (by omega)).mono ?_
      rintro e w3 ⟨rfl, f3, R3, P3, S3, B3⟩
      have HX : Hid (∃ f', RowU w3 g n f' ∧ PermIn 0 n f f' ∧ SortedOn f' 0 n ∧ Below w0.heap.size w0 w3) := ⟨f3, R3, PP.trans P3, S3, B3⟩
      clear R2 B2 PP SL S2 R3 B3 P3 S3
      go_wp2
      rw [rounds_succ]
      go_wp2
      refine bodyPost_end (v := .tuple #[]) (by simp [results, Tryd.results80, go_sem]) rfl ⟨rfl, HX.out⟩
    · have d3 : ¬ (20 : Int) < (n : Int) := by omega
      have HX : Hid (∃ f', RowU w2 g n f' ∧ PermIn 0 n f f' ∧ SortedOn f' 0 n ∧ Below w0.heap.size w0 w2) := ⟨f2, R2, PP, (by rw [show n = 20 by omega]; exact SL), B2⟩
      clear R2 B2 PP SL S2
      go_wp2
      refine wp_loop_rounds 1 ?_
      rw [rounds_succ]
      go_wp2
      refine bodyPost_end (v := .tuple #[]) (by simp [results, Tryd.results80, go_sem]) rfl ⟨rfl, HX.out⟩
  · have d1 : ¬ (20 : Int) ≤ (n : Int) := by omega
    have d3 : ¬ (20 : Int) < (n : Int) := by omega
    go_enter Tryd.func80, Tryd.ntmps80
    go_wp2
    refine wp_loop_rounds 1 ?_
    rw [rounds_succ]
    go_wp2_with fail
    refine (insertion_any g n c 0 n f w0 _ hb hg hr (Nat.le_refl _) (by omega) (by omega)).mono ?_
    rintro e w1 ⟨rfl, f1, R1, P1, S1, B1⟩
    have HX : Hid (∃ f', RowU w1 g n f' ∧ PermIn 0 n f f' ∧ SortedOn f' 0 n ∧ Below w0.heap.size w0 w1) := ⟨f1, R1, P1, S1, B1⟩
    clear R1 B1 P1 S1 hr hb
    go_wp2
    refine wp_loop_rounds 1 ?_
    rw [rounds_succ]
    go_wp2
    refine bodyPost_end (v := .tuple #[]) (by simp [results, Tryd.results80, go_sem]) rfl ⟨rfl, HX.out⟩
set_option maxHeartbeats 1000000 in
theorem sortStable_any (g n c : Nat) (f : Nat → Ru) (w0 w : World) (hb : Below w0.heap.size w0 w) (hg : w0.heap.size ≤ g) (hr : RowU w g n f) (hn : n ≤ 24) :
    Calls Tryd.prog 70 #[.slice (some ⟨g, 0, none⟩) n c, .func (.func 63) #[] #[]] w fun e w' => e = .returned (.tuple #[]) ∧ ∃ f', RowU w' g n f' ∧ PermIn 0 n f f' ∧ SortedOn f' 0 n ∧ Below w0.heap.size w0 w' := by
  go_enter Tryd.func70, Tryd.ntmps70
  go_wp2_with fail
  refine (stable_any g n c f w0 _ hb hg hr hn).mono ?_
  rintro e w1 ⟨rfl, hx⟩
  have HX : Hid _ := hx
  clear hx hr hb
  go_wp2
  refine bodyPost_end (v := .tuple #[]) (by simp [results, Tryd.results70, go_sem]) rfl ⟨rfl, HX.out⟩
set_option maxHeartbeats 1000000 in
theorem sortedBy_any (a : Option Addr) (n cap : Nat) (f : Nat → Ru) (w : World) (hs : SlU w a n f) (hn : n ≤ 24) :
    Calls Tryd.prog 62 #[.slice a n cap, .func (.func 63) #[] #[]] w fun e w' => e = .returned (.slice (some ⟨w.heap.size, 0, none⟩) n n) ∧ ∃ f', RowU w' w.heap.size n f' ∧ PermIn 0 n f f' ∧ SortedOn f' 0 n ∧ Below w.heap.size w w' := by
  go_enter Tryd.func62, Tryd.ntmps62
  go_wp2_with fail
  refine (copyOfU a n cap f _ hs (by omega)).mono ?_
  rintro e w1 ⟨rfl, R1, B1⟩
  clear hs
  go_wp2_with fail
  refine (sortStable_any w.heap.size n n f w _ B1 (Nat.le_refl _) R1 hn).mono ?_
  rintro e w2 ⟨rfl, hx⟩
  have HX : Hid _ := hx
  clear hx R1 B1
  go_wp2
  go_ret
  exact ⟨rfl, HX.out⟩
end Go.Proofs.YtklnfeblkffgiaaDoor
namespace Go.Proofs.YtklnfeblkffgiaaDoor
open Go.RowKit
set_option linter.unusedVariables false
set_option linter.unusedSimpArgs false
def unFrom (f : Nat → Ru) (un : Int) (n k : Nat) : Int :=
  if h : k < n then (if (f k).u = un then (k : Int) else unFrom f un n (k + 1)) else -1
termination_by n - k
end Go.Proofs.YtklnfeblkffgiaaDoor
namespace Go.Proofs.YtklnfeblkffgiaaDoor
open Go.RowKit
end Go.Proofs.YtklnfeblkffgiaaDoor
namespace Go.Proofs.YtklnfeblkffgiaaDoor
open Go.RowKit
def pv (bits : List Bool) : Nat → Nat → Int
  | 0, _ => 0
  | k + 1, j => if k / 8 = j ∧ bits.getD k false = true then pv bits k j + (2 ^ (k % 8) : Nat) else pv bits k j
end Go.Proofs.YtklnfeblkffgiaaDoor
namespace Go.Proofs.YtklnfeblkffgiaaDoor
open Go.RowKit
set_option linter.unusedVariables false
set_option linter.unusedSimpArgs false
def wb (x : Int) : List Int := [x / 256 % 256, x % 256]
def wbs : List Int → List Int
  | [] => []
  | x :: r => x / 256 % 256 :: x % 256 :: wbs r
def Nw (w w' : World) (e : Ending) (zs : List Int) : Prop :=
  ∃ g c n, e = .returned (.slice (some ⟨g, 0, none⟩) n c) ∧ n = zs.length ∧ Own w' w.heap.size (.slice (some ⟨g, 0, none⟩) n c) zs ∧ Below w.heap.size w w'
end Go.Proofs.YtklnfeblkffgiaaDoor
namespace Go.Proofs.YtklnfeblkffgiaaDoor
open Go.RowKit
structure Cur (w0 : World) (a : Option Addr) (cap : Nat) (zs : List Int) (w : World) (g : Nat) : Prop where
  lo : w0.heap.size ≤ g
  hi : g < w.heap.size
  c0 : w.cell? ⟨g, 0, none⟩ = some (.slice a zs.length cap)
  c1 : ∃ i : Nat, i ≤ zs.length ∧ w.cell? ⟨g, 1, none⟩ = some (.int .i64 i)
  c2 : ∃ h : Int, w.cell? ⟨g, 2, none⟩ = some (.int .i64 h)
  fz : ∀ o, w.frozen? ⟨g, o, none⟩ = false
  sl : Sl w0 a zs
  rg : ∀ z ∈ zs, 0 ≤ z ∧ z ≤ 255
  len : zs.length ≤ 1048576
  bel : Below w0.heap.size w0 w
theorem grown_trans {w w1 w2 : World} {g : Nat} (h1 : w.grownBy w1 (some g)) (h2 : w1.grownBy w2 (some g)) : w.grownBy w2 (some g) :=
  ⟨h2.os.trans h1.os, h2.tape.trans h1.tape, h2.output.trans h1.output, Nat.le_trans h1.size h2.size, fun k hk hne => (h2.block k (Nat.lt_of_lt_of_le hk h1.size) hne).trans (h1.block k hk hne)⟩
theorem grown_set (w : World) (g o : Nat) (v : Value) : w.grownBy (w.setCell ⟨g, o, none⟩ v) (some g) :=
  ⟨rfl, rfl, rfl, by simp [World.setCell], fun k hk hne => Below.heap_setCell _ _ _ _ (fun e => hne (by simpa using e))⟩
theorem grown_drewN (w : World) (n : Nat) (row : Option Nat) : w.grownBy (w.drewN n) row := ⟨rfl, rfl, rfl, Nat.le_refl _, fun _ _ _ => rfl⟩
section
variable {w0 w w' : World} {a : Option Addr} {cap g : Nat} {zs : List Int}
theorem Cur.drewN (h : Cur w0 a cap zs w g) (n : Nat) : Cur w0 a cap zs (w.drewN n) g :=
  ⟨h.lo, h.hi, h.c0, h.c1, h.c2, h.fz, h.sl, h.rg, h.len, bel_drewN h.bel n⟩
theorem cell_other (w : World) (g o o' : Nat) (v : Value) (h : o' ≠ o) : (w.setCell ⟨g, o, none⟩ v).cell? ⟨g, o', none⟩ = w.cell? ⟨g, o', none⟩ :=
  World.cell?_setCell_other _ _ _ _ (fun e => h (congrArg Addr.off e).symm)
theorem Cur.set2 (h : Cur w0 a cap zs w g) (x : Int) : Cur w0 a cap zs (w.setCell ⟨g, 2, none⟩ (.int .i64 x)) g := by
  obtain ⟨i, hi, c1⟩ := h.c1
  obtain ⟨y, c2⟩ := h.c2
  refine ⟨h.lo, by simpa [World.setCell] using h.hi, by rw [cell_other _ _ _ _ _ (by decide)]; exact h.c0, ⟨i, hi, by rw [cell_other _ _ _ _ _ (by decide)]; exact c1⟩, ⟨x, World.cell?_setCell_same _ _ _ c2⟩, fun o => ?_, h.sl, h.rg, h.len, h.bel.setCell h.lo _⟩
  simpa using h.fz o
theorem Cur.set1 (h : Cur w0 a cap zs w g) (i : Nat) (hi : i ≤ zs.length) : Cur w0 a cap zs (w.setCell ⟨g, 1, none⟩ (.int .i64 i)) g := by
  obtain ⟨_, _, c1⟩ := h.c1
  obtain ⟨y, c2⟩ := h.c2
  refine ⟨h.lo, by simpa [World.setCell] using h.hi, by rw [cell_other _ _ _ _ _ (by decide)]; exact h.c0, ⟨i, hi, World.cell?_setCell_same _ _ _ c1⟩, ⟨y, by rw [cell_other _ _ _ _ _ (by decide)]; exact c2⟩, fun o => ?_, h.sl, h.rg, h.len, h.bel.setCell h.lo _⟩
  simpa using h.fz o
theorem Cur.grown {w2 : World} {row : Option Nat} (h : Cur w0 a cap zs w g) (hg : w.grownBy w2 row) (hne : some g ≠ row) (hr : ∀ k, row = some k → w0.heap.size ≤ k) : Cur w0 a cap zs w2 g := by
  have e : w2.heap[g]? = w.heap[g]? := hg.block g h.hi hne
  have ec : ∀ o, w2.cell? ⟨g, o, none⟩ = w.cell? ⟨g, o, none⟩ := fun o => World.cell?_of_block (a := ⟨g, o, none⟩) e
  have ef : ∀ o, w2.frozen? ⟨g, o, none⟩ = w.frozen? ⟨g, o, none⟩ := fun o => World.frozen?_of_block (a := ⟨g, o, none⟩) e
  obtain ⟨i, hi, c1⟩ := h.c1
  obtain ⟨y, c2⟩ := h.c2
  exact ⟨h.lo, Nat.lt_of_lt_of_le h.hi hg.size, by rw [ec]; exact h.c0, ⟨i, hi, by rw [ec]; exact c1⟩, ⟨y, by rw [ec]; exact c2⟩, fun o => by rw [ef]; exact h.fz o, h.sl, h.rg, h.len, h.bel.grown hg h.bel.size hr⟩
theorem Cur.alloc (h : Cur w0 a cap zs w g) (o : Obj) : Cur w0 a cap zs (w.alloc o) g :=
  h.grown (World.grownBy_alloc w o none) (by simp) (fun k hk => by cases hk)
end
end Go.Proofs.YtklnfeblkffgiaaDoor
namespace Go.Proofs.YtklnfeblkffgiaaDoor
open Go.RowKit
def Drawn (w0 : World) (a : Option Addr) (cap : Nat) (zs : List Int) (w : World) (g : Nat) (P : Int → Prop) (e : Ending) (w' : World) : Prop :=
  ∃ x : Int, e = .returned (.int .i64 x) ∧ P x ∧ Cur w0 a cap zs w' g ∧ w.grownBy w' (some g)
theorem mod_bd (n : Int) : 0 ≤ n % 256 ∧ n % 256 ≤ 255 := by omega
set_option maxHeartbeats 2000000 in
theorem l1Byte_any (w0 : World) (a : Option Addr) (cap : Nat) (zs : List Int) (w : World) (g : Nat) (hC : Cur w0 a cap zs w g) :
    Calls Tryd.prog 55 #[.pointer (some ⟨g, 0, none⟩)] w fun e w' => Drawn w0 a cap zs w g (fun x => 0 ≤ x ∧ x ≤ 255) e w' := by
  obtain ⟨i, hi, c1⟩ := hC.c1
  obtain ⟨h, c2⟩ := hC.c2
  have c0 := hC.c0
  have fz1 := hC.fz 1
  have fz2 := hC.fz 2
  have hlen := hC.len
  have e255 : ∀ n : Int, bits BinOp.and IntKind.i64 n 255 = n % 256 := and8
  by_cases hlt : i < zs.length
  · obtain ⟨b, off, hab, hb0, hz0⟩ := cell_at hC.sl hlt
    have hz : w.cell? ⟨b, off + i, none⟩ = some (.int .u8 (zs.getD i 0)) := by rw [hC.bel.cell (p := ⟨b, off + i, none⟩) hb0]; exact hz0
    have rg := get_range hC.rg i
    have hbg : b ≠ g := by have := hC.lo; omega
    have hz' : ∀ v, (w.setCell ⟨g, 2, none⟩ v).cell? ⟨b, off + i, none⟩ = some (.int .u8 (zs.getD i 0)) := fun v => by
      rw [World.cell?_setCell_other _ _ _ _ (fun e => hbg (congrArg Addr.block e).symm)]; exact hz
    generalize zs.getD i 0 = z at *
    rw [hab] at c0
    have HC : Hid (Cur w0 a cap zs w g) := hC
    have hi' : (i : Int) < (zs.length : Int) := by omega
    clear hC hz0 hz
    go_enter Tryd.func55, Tryd.ntmps55
    go_wp2
    go_quiet (fail)
    go_wp2
    go_quiet (fail)
    go_wp2
    go_quiet (fail)
    go_wp2
    go_ret
    exact ⟨_, rfl, mod_bd _, ((HC.out.set2 _).drewN _).set1 (i + 1) (by omega), grown_trans (grown_trans (grown_set w g 2 _) (grown_drewN _ _ _)) (grown_set _ g 1 _)⟩
  · have HC : Hid (Cur w0 a cap zs w g) := hC
    have hi' : ¬ (i : Int) < (zs.length : Int) := by omega
    clear hC
    go_enter Tryd.func55, Tryd.ntmps55
    go_wp2
    go_quiet (fail)
    go_wp2
    go_quiet (fail)
    go_wp2
    go_ret
    exact ⟨_, rfl, mod_bd _, ((HC.out.set2 _).drewN _).drewN _, grown_trans (grown_trans (grown_set w g 2 _) (grown_drewN _ _ _)) (grown_drewN _ _ _)⟩
set_option maxHeartbeats 1000000 in
theorem l1Below_any (w0 : World) (a : Option Addr) (cap : Nat) (zs : List Int) (w : World) (g : Nat) (n : Int) (hn : 1 ≤ n) (hC : Cur w0 a cap zs w g) :
    Calls Tryd.prog 38 #[.pointer (some ⟨g, 0, none⟩), .int .i64 n] w fun e w' => Drawn w0 a cap zs w g (fun x => 0 ≤ x ∧ x < n) e w' := by
  have h0 : ¬ n ≤ 0 := by omega
  by_cases h1 : n ≤ 256
  · go_enter Tryd.func38, Tryd.ntmps38
    go_wp2_with fail
    refine (l1Byte_any w0 a cap zs _ g hC).mono ?_
    rintro e w1 ⟨x, rfl, hx, C1, g1⟩
    go_wp2
    go_ret
    exact ⟨_, rfl, ⟨Int.emod_nonneg _ (by omega), Int.emod_lt_of_pos _ (by omega)⟩, C1, g1⟩
  · go_enter Tryd.func38, Tryd.ntmps38
    go_wp2_with fail
    refine (l1Byte_any w0 a cap zs _ g hC).mono ?_
    rintro e w1 ⟨x, rfl, hx, C1, g1⟩
    go_wp2_with fail
    refine (l1Byte_any w0 a cap zs _ g C1).mono ?_
    rintro e w2 ⟨y, rfl, hy, C2, g2⟩
    go_wp2_with fail
    refine (l1Byte_any w0 a cap zs _ g C2).mono ?_
    rintro e w3 ⟨z, rfl, hz, C3, g3⟩
    go_wp2
    go_ret
    exact ⟨_, rfl, ⟨Int.emod_nonneg _ (by omega), Int.emod_lt_of_pos _ (by omega)⟩, C3, grown_trans (grown_trans g1 g2) g3⟩
def Ints (w : World) (ad : Addr) (l : List Int) : Prop := ∃ b off, ad = ⟨b, off, none⟩ ∧ b < w.heap.size ∧ ∀ i, i < l.length → w.cell? ⟨b, off + i, none⟩ = some (.int .i64 (l.getD i 0))
theorem Ints.grown {w w' : World} {ad : Addr} {l : List Int} {row : Option Nat} (h : Ints w ad l) (hg : w.grownBy w' row) (hne : some ad.block ≠ row) : Ints w' ad l := by
  obtain ⟨b, off, rfl, hb, hc⟩ := h
  exact ⟨b, off, rfl, Nat.lt_of_lt_of_le hb hg.size, fun i hi => hg.cell (hc i hi) hne⟩
set_option maxHeartbeats 1000000 in
theorem l1Int_any (w0 : World) (a : Option Addr) (cap : Nat) (zs : List Int) (w : World) (g : Nat) (ad : Addr) (n c : Nat) (l : List Int) (hn : n = l.length) (h1 : 1 ≤ n) (h2 : n ≤ 1000) (hl : Ints w ad l) (hne : ad.block ≠ g) (hC : Cur w0 a cap zs w g) :
    Calls Tryd.prog 39 #[.pointer (some ⟨g, 0, none⟩), .slice (some ad) n c] w fun e w' => Drawn w0 a cap zs w g (fun x => x ∈ l) e w' := by
  subst hn
  go_enter Tryd.func39, Tryd.ntmps39
  go_wp2_with fail
  refine (l1Below_any w0 a cap zs _ g _ (by omega) hC).mono ?_
  rintro e w1 ⟨x, rfl, hx, C1, g1⟩
  obtain ⟨k, rfl⟩ := Int.eq_ofNat_of_zero_le hx.1
  obtain ⟨b, off, rfl, hb, hc⟩ := hl.grown g1 (by simpa using hne)
  have hk : k < l.length := by omega
  have hck := hc k hk
  have hm : l.getD k 0 ∈ l := by rw [List.getD_eq_getElem?_getD, List.getElem?_eq_getElem hk]; exact List.getElem_mem hk
  generalize l.getD k 0 = v at *
  clear hc hl
  go_wp2
  go_ret
  exact ⟨v, rfl, hm, C1, g1⟩
end Go.Proofs.YtklnfeblkffgiaaDoor
namespace Go.Proofs.YtklnfeblkffgiaaDoor
open Go.RowKit
theorem and30 (n : Int) : bits .and .i64 n 1073741823 = n % 1073741824 := i64_and_mask n 30 1073741823 (by decide) (by decide)
theorem cur_new {w : World} {a : Option Addr} {cap : Nat} {zs : List Int} (hs : Sl w a zs) (hr : ∀ z ∈ zs, 0 ≤ z ∧ z ≤ 255) (hl : zs.length ≤ 1048576) (h : Int) (t : TypeId) :
    Cur w a cap zs (w.alloc (.cells #[.slice a zs.length cap, .int .i64 0, .int .i64 h] t)) w.heap.size where
  lo := Nat.le_refl _
  hi := by simp
  c0 := by simp
  c1 := ⟨0, Nat.zero_le _, by simp⟩
  c2 := ⟨h, by simp⟩
  fz := fun o => by simp
  sl := hs
  rg := hr
  len := hl
  bel := (Below.refl _ _).alloc (Nat.le_refl _) _
set_option maxHeartbeats 1000000 in
theorem l1New_any (w : World) (a : Option Addr) (n cap : Nat) (zs : List Int) (hn : n = zs.length) (hs : Sl w a zs) (hr : ∀ z ∈ zs, 0 ≤ z ∧ z ≤ 255) (hl : zs.length ≤ 1048576) :
    Calls Tryd.prog 19 #[.slice a n cap] w fun e w' => e = .returned (.pointer (some ⟨w.heap.size, 0, none⟩)) ∧ Cur w a cap zs w' w.heap.size ∧ w.grownBy w' none := by
  subst hn
  have e30 : ∀ n : Int, bits BinOp.and IntKind.i64 n 1073741823 = n % 1073741824 := and30
  go_enter Tryd.func19, Tryd.ntmps19
  go_wp2
  go_loop [3, 4] (fun x i => ∃ (k : Nat) (h : Int), k ≤ zs.length ∧ i = .int .i64 k ∧ x = .int .i64 h ∧ 0 ≤ h ∧ h ≤ 1073741824) (fun _ i => zs.length - (intOf i).toNat)
  case atStart => exact ⟨0, _, Nat.zero_le _, rfl, rfl, by omega, by omega⟩
  case round =>
    obtain ⟨k, h, hk, rfl, rfl, h0, h1⟩ := hrel
    by_cases hlt : k < zs.length
    · by_cases h4 : k < 4000
      · obtain ⟨b, off, rfl, _, hc⟩ := cell_at hs hlt
        have rg := get_range hr k
        generalize zs.getD k 0 = z at *
        have hi' : (k : Int) < (zs.length : Int) := by omega
        have hi4 : (k : Int) < 4000 := by omega
        clear hs hr
        go_wp2
        go_round
        case rel => exact ⟨k + 1, _, by omega, by go_num, rfl, by omega, by omega⟩
        case measure => simp [intOf]; omega
      · have hi' : (k : Int) < (zs.length : Int) := by omega
        have hi4 : decide ((k : Int) < 4000) = false := by simp; omega
        have R := cur_new (cap := cap) hs hr hl h 64
        clear hs hr
        go_wp2
        go_ret
        exact ⟨rfl, R, World.grownBy_alloc _ _ _⟩
    · have hi' : decide ((k : Int) < (zs.length : Int)) = false := by simp; omega
      have R := cur_new (cap := cap) hs hr hl h 64
      clear hs hr
      go_wp2
      go_ret
      exact ⟨rfl, R, World.grownBy_alloc _ _ _⟩
end Go.Proofs.YtklnfeblkffgiaaDoor
namespace Go.Proofs.YtklnfeblkffgiaaDoor
open Go.RowKit
set_option linter.unusedVariables false
set_option linter.unusedSimpArgs false
set_option maxHeartbeats 1000000 in
theorem l1Once_any (w0 : World) (a : Option Addr) (cap : Nat) (zs : List Int) (w : World) (g : Nat) (n : Int) (hn : 1 ≤ n) (hC : Cur w0 a cap zs w g) :
    Calls Tryd.prog 53 #[.pointer (some ⟨g, 0, none⟩), .int .i64 n] w fun e w' => ∃ t : Bool, e = .returned (.bool t) ∧ Cur w0 a cap zs w' g ∧ w.grownBy w' (some g) := by
  go_enter Tryd.func53, Tryd.ntmps53
  go_wp2_with fail
  refine (l1Below_any w0 a cap zs _ g n hn hC).mono ?_
  rintro e w1 ⟨x, rfl, _, C1, g1⟩
  have R : Hid (Cur w0 a cap zs w1 g ∧ w.grownBy w1 (some g)) := ⟨C1, g1⟩
  clear hC C1 g1
  go_wp2
  go_ret
  exact ⟨_, rfl, R.out⟩
theorem ints_lit (w : World) (l : List Int) (t : TypeId) : Ints (w.alloc (.cells (l.map (Value.int .i64)).toArray t)) ⟨w.heap.size, 0, none⟩ l :=
  ⟨w.heap.size, 0, rfl, by simp, fun i hi => by simp [hi]⟩
end Go.Proofs.YtklnfeblkffgiaaDoor
namespace Go.Proofs.YtklnfeblkffgiaaDoor
open Go.RowKit
set_option linter.unusedVariables false
set_option linter.unusedSimpArgs false
def OwnU (w : World) (base : Nat) (v : Value) (l : List Ru) : Prop := w.ownsRow base 33 7 v l.length (l.flatMap rul)
theorem OwnU.kept {w w' : World} {base : Nat} {v : Value} {l : List Ru} {row : Option Nat} (h : OwnU w base v l) (hg : w.grownBy w' row) (hne : v.ownBlock = none ∨ v.ownBlock ≠ row) : OwnU w' base v l := World.ownsRow.kept h hg hne
theorem OwnU.shape {w : World} {base : Nat} {v : Value} {l : List Ru} (h : OwnU w base v l) : ∃ a cap, v = .slice a l.length cap := by
  rcases h.2 with ⟨rfl, h0⟩ | ⟨g, cap, cur, rfl, _⟩
  · exact ⟨none, 0, by rw [h0]⟩
  · exact ⟨_, cap, rfl⟩
def S64 (r : Ru) : Prop := -9223372036854775808 ≤ r.sh ∧ r.sh ≤ 9223372036854775807
theorem wpList_appU {w : World} {ops : Array Oper} {rest : List Oper} {o : Oper} {a : Act} {Q : Exit → Act → World → Prop} (hgd : o.guard = none) (s x : Operand)
    (ho : o.op = .call { callee := .builtin .append, args := #[s, x], argTypes := #[24, 24] }) (base : Nat) (v : Value) (l : List Ru) (hs : a.eval s = v) (hown : OwnU w base v l)
    (g c : Nat) (y : Ru) (hx : a.eval x = .slice (some ⟨g, 0, none⟩) 1 c) (hy : ∀ j u, (rul y)[j]? = some u → w.cell? ((⟨g, 0, none⟩ : Addr).add j) = some u) (hlen : l.length ≤ 1000000) (hbase : base ≤ w.heap.size)
    (h : ∀ v' w', OwnU w' base v' (l ++ [y]) → w.grownBy w' v.ownBlock → wpList Tryd.prog ops Q rest (a.put o.dst v') w') : wpList Tryd.prog ops Q (o :: rest) a w := by
  obtain ⟨i0, hi, hzz⟩ := Option.map_eq_some_iff.1 Tryd.info33
  simp only [Prod.mk.injEq] at hzz
  obtain ⟨hz0, hz1, hz2⟩ := hzz
  refine wpList_append_own w hgd s x 24 ho base 33 i0 _ 7 56 Tryd.underlying24 hi hz0 hz1 hz2 rfl (by decide) v l.length (l.flatMap rul) hs hown ⟨g, 0, none⟩ 1 c (rul y) hx rfl hy (fun u hu => by simp at hu; rcases hu with rfl | rfl | rfl | rfl | rfl | rfl | rfl <;> rfl) (by unfold maxLen; omega) (by omega) hbase ?_
  intro v' w' h1 h2 _
  refine h v' w' ?_ h2
  show w'.ownsRow base _ 7 v' (l ++ [y]).length ((l ++ [y]).flatMap rul)
  rw [List.length_append, List.flatMap_append]
  simpa using h1
structure DU (w0 : World) (a : Option Addr) (cap : Nat) (zs : List Int) (w : World) (g : Nat) (v : Value) (l : List Ru) (u : World) : Prop where
  cur : Cur w0 a cap zs u g
  gr : w.grownBy u (some g)
  own : OwnU u w.heap.size v l
  lt : g < w.heap.size
  s64 : ∀ r ∈ l, S64 r
theorem DU.call {w0 : World} {a : Option Addr} {cap : Nat} {zs : List Int} {w : World} {g : Nat} {v : Value} {l : List Ru} {u u' : World} (h : DU w0 a cap zs w g v l u) (c : Cur w0 a cap zs u' g) (hg : u.grownBy u' (some g)) : DU w0 a cap zs w g v l u' :=
  ⟨c, grown_trans h.gr hg, h.own.kept hg (.inr (fun e => by have := (World.ownsRow.lt h.own g e).1; have := h.lt; omega)), h.lt, h.s64⟩
theorem DU.alloc {w0 : World} {a : Option Addr} {cap : Nat} {zs : List Int} {w : World} {g : Nat} {v : Value} {l : List Ru} {u : World} (h : DU w0 a cap zs w g v l u) (o : Obj) : DU w0 a cap zs w g v l (u.alloc o) :=
  h.call (h.cur.alloc o) (World.grownBy_alloc u o (some g))
theorem DU.app {w0 : World} {a : Option Addr} {cap : Nat} {zs : List Int} {w : World} {g : Nat} {v v' : Value} {l : List Ru} {u u' : World} {y : Ru} (h : DU w0 a cap zs w g v l u) (hy : S64 y) (ho : OwnU u' w.heap.size v' (l ++ [y])) (hg : u.grownBy u' v.ownBlock) (hw0 : w0.heap.size ≤ w.heap.size) : DU w0 a cap zs w g v' (l ++ [y]) u' := by
  have hne : ∀ k, v.ownBlock = some k → w.heap.size ≤ k := fun k hk => (World.ownsRow.lt h.own k hk).1
  have hg' : some g ≠ v.ownBlock := fun e => by have := hne g e.symm; have := h.lt; omega
  refine ⟨h.cur.grown hg hg' (fun k hk => Nat.le_trans hw0 (hne k hk)), ?_, ho, h.lt, fun r hr => ?_⟩
  · refine ⟨hg.os.trans h.gr.os, hg.tape.trans h.gr.tape, hg.output.trans h.gr.output, Nat.le_trans h.gr.size hg.size, fun k hk hn => ?_⟩
    rw [hg.block k (Nat.lt_of_lt_of_le hk h.gr.size) (fun e => by have := hne k e.symm; omega)]
    exact h.gr.block k hk hn
  · rcases List.mem_append.1 hr with h9 | h9
    · exact h.s64 r h9
    · obtain rfl := List.mem_singleton.1 h9; exact hy
def DrawnU (w0 : World) (a : Option Addr) (cap : Nat) (zs : List Int) (w : World) (g m : Nat) (e : Ending) (w' : World) : Prop :=
  ∃ va vn vc l, e = .returned (.slice va vn vc) ∧ vn = l.length ∧ l.length ≤ m ∧ DU w0 a cap zs w g (.slice va vn vc) l w'
theorem cellsAt7 {w : World} {g : Nat} {r : Ru} (h : Blk w g 33 (ruc r)) : ∀ j u, (rul r)[j]? = some u → w.cell? ((⟨g, 0, none⟩ : Addr).add j) = some u := by
  intro j u hu
  have e1 : (⟨g, 0, none⟩ : Addr).add j = ⟨g, j, none⟩ := by unfold Addr.add; split <;> simp_all
  rw [e1]
  exact h.cell j (by rw [show ruc r = (rul r).toArray from rfl, List.getElem?_toArray]; exact hu)
set_option maxRecDepth 20000 in
set_option maxHeartbeats 2000000 in
theorem l10Rules_any (w0 : World) (a : Option Addr) (cap : Nat) (zs : List Int) (w : World) (g : Nat) (hC : Cur w0 a cap zs w g) (hw0 : w0.heap.size ≤ w.heap.size) :
    Calls Tryd.prog 52 #[.pointer (some ⟨g, 0, none⟩)] w fun e w' => DrawnU w0 a cap zs w g 12 e w' := by
  have hlt := hC.hi
  have D0 : DU w0 a cap zs w g (.slice (some ⟨w.heap.size, 0, none⟩) 0 0) [] (w.alloc (.cells #[] 33)) := ⟨hC.alloc _, World.grownBy_alloc w _ _, World.ownsRow_made w #[] 0 (Nat.le_refl _) (by unfold maxLen; omega) (by simp), hlt, fun r hr => by cases hr⟩
  go_enter Tryd.func52, Tryd.ntmps52
  go_wp2
  go_loopw [3, 4] (fun v i wr => ∃ (z : Nat) (va : Option Addr) (vn vc : Nat) (l : List Ru), z ≤ 4 ∧ i = .int .i64 z ∧ v = .slice va vn vc ∧ vn = l.length ∧ l.length ≤ 3 * z ∧ DU w0 a cap zs w g (.slice va vn vc) l wr) (fun v i _ => 4 - (intOf i).toNat)
  case atStart => exact ⟨0, _, _, _, [], by omega, rfl, rfl, rfl, by simp, D0⟩
  case round =>
    clear D0
    obtain ⟨z, va, vn, vc, l, hz, rfl, rfl, hvn, hl, D⟩ := hrel
    by_cases hz4 : z < 4
    · have hi : (z : Int) < 4 := by omega
      have HL : Hid (vn = l.length ∧ l.length ≤ 3 * z) := ⟨hvn, hl⟩
      clear hvn hl
      go_wp2_with fail
      refine (l1Below_any w0 a cap zs _ g 2 (by decide) D.cur).mono ?_
      rintro e u1 ⟨lo, rfl, hlo, C1, g1⟩
      have D1 := D.call C1 g1
      clear D C1 g1
      go_wp2_with fail
      refine (l1Below_any w0 a cap zs _ g 4 (by decide) D1.cur).mono ?_
      rintro e u2 ⟨cnt, rfl, hcnt, C2, g2⟩
      have D2 := D1.call C2 g2
      clear D1 C2 g2
      go_wp2
      go_loopw [3, 5, 6] (fun v lov i wr => ∃ (k lo : Int) (va : Option Addr) (vn vc : Nat) (l : List Ru), 0 ≤ k ∧ i = .int .i64 k ∧ lov = .int .i64 lo ∧ v = .slice va vn vc ∧ vn = l.length ∧ (l.length : Int) + k ≤ 3 * z + 3 ∧ 0 ≤ lo ∧ lo + 11 * k ≤ 40 ∧ DU w0 a cap zs w g (.slice va vn vc) l wr) (fun v lov i _ => (intOf i).toNat)
      case atStart => exact ⟨cnt, lo, _, _, _, l, by omega, rfl, rfl, rfl, HL.out.1, by have := HL.out; omega, by omega, by omega, D2⟩
      case round =>
        clear D2 HL
        obtain ⟨k, lo, va, vn, vc, l, hk, rfl, rfl, rfl, hvn, hl, hlo, hb, D⟩ := hrel
        have HL : Hid (vn = l.length ∧ (l.length : Int) + k ≤ 3 * z + 3 ∧ lo + 11 * k ≤ 40) := ⟨hvn, hl, hb⟩
        by_cases hk0 : 0 < k
        · clear hvn hl
          have wl : IntKind.i64.wrap (lo + 1) = lo + 1 := by rw [IntKind.wrap_i64]; omega
          go_wp2_with fail
          refine (l1Below_any w0 a cap zs _ g 7 (by decide) D.cur).mono ?_
          rintro e u1 ⟨x1, rfl, hx1, C1, g1⟩
          have D1 := D.call C1 g1
          clear D C1 g1
          obtain ⟨hiv, hhi⟩ : ∃ hiv, hiv = lo + 1 + x1 := ⟨_, rfl⟩
          have wh : IntKind.i64.wrap (lo + 1 + x1) = hiv := by rw [IntKind.wrap_i64]; omega
          have HH : Hid (hiv = lo + 1 + x1) := hhi
          have hb2 : 0 ≤ hiv ∧ hiv ≤ 60 := by omega
          clear hhi
          go_wp2_with fail
          refine (l1Below_any w0 a cap zs _ g 2 (by decide) D1.cur).mono ?_
          rintro e u2 ⟨p1, rfl, hp1, C', g'⟩
          have D2 := D1.call C' g'
          clear D1 C' g'
          have wp1 : IntKind.i64.wrap (1 + p1) = 1 + p1 := by rw [IntKind.wrap_i64]; omega
          go_wp2_with fail
          refine (l1Below_any w0 a cap zs _ g 3 (by decide) D2.cur).mono ?_
          rintro e u3 ⟨p2, rfl, hp2, C', g'⟩
          have D3 := D2.call C' g'
          clear D2 C' g'
          go_wp2_with fail
          refine (l1Below_any w0 a cap zs _ g 3 (by decide) D3.cur).mono ?_
          rintro e u4 ⟨p3, rfl, hp3, C', g'⟩
          have D4 := D3.call C' g'
          clear D3 C' g'
          have wp3 : IntKind.i64.wrap (1 + p3) = 1 + p3 := by rw [IntKind.wrap_i64]; omega
          have I5 : Ints (u4.alloc (.cells #[.int .i64 0, .int .i64 0, .int .i64 3, .int .i64 10] 3)) ⟨u4.heap.size, 0, none⟩ [0, 0, 3, 10] := ints_lit u4 [0, 0, 3, 10] 3
          have E5 := D4.alloc (.cells #[.int .i64 0, .int .i64 0, .int .i64 3, .int .i64 10] 3)
          have ne5 : u4.heap.size ≠ g := by have := D4.lt; have := D4.gr.size; omega
          have HI5 : Hid (Ints (u4.alloc (.cells #[.int .i64 0, .int .i64 0, .int .i64 3, .int .i64 10] 3)) ⟨u4.heap.size, 0, none⟩ [0, 0, 3, 10] ∧ DU w0 a cap zs w g (.slice va vn vc) l (u4.alloc (.cells #[.int .i64 0, .int .i64 0, .int .i64 3, .int .i64 10] 3)) ∧ u4.heap.size ≠ g) := ⟨I5, E5, ne5⟩
          clear I5 E5 ne5 D4
          go_wp2_with fail
          refine (l1Int_any w0 a cap zs _ g ⟨u4.heap.size, 0, none⟩ 4 4 [0, 0, 3, 10] rfl (by omega) (by omega) HI5.out.1 HI5.out.2.2 HI5.out.2.1.cur).mono ?_
          rintro e u5 ⟨t1, rfl, ht1, C', g'⟩
          have D5 := HI5.out.2.1.call C' g'
          clear HI5 C' g'
          have bt1 : 0 ≤ t1 ∧ t1 ≤ 10 := by simp at ht1; omega
          have I6 : Ints (u5.alloc (.cells #[.int .i64 0, .int .i64 lo] 3)) ⟨u5.heap.size, 0, none⟩ [0, lo] := ints_lit u5 [0, lo] 3
          have E6 := D5.alloc (.cells #[.int .i64 0, .int .i64 lo] 3)
          have ne6 : u5.heap.size ≠ g := by have := D5.lt; have := D5.gr.size; omega
          have HI6 : Hid (Ints (u5.alloc (.cells #[.int .i64 0, .int .i64 lo] 3)) ⟨u5.heap.size, 0, none⟩ [0, lo] ∧ DU w0 a cap zs w g (.slice va vn vc) l (u5.alloc (.cells #[.int .i64 0, .int .i64 lo] 3)) ∧ u5.heap.size ≠ g) := ⟨I6, E6, ne6⟩
          clear I6 E6 ne6 D5
          go_wp2_with fail
          refine (l1Int_any w0 a cap zs _ g ⟨u5.heap.size, 0, none⟩ 2 2 [0, lo] rfl (by omega) (by omega) HI6.out.1 HI6.out.2.2 HI6.out.2.1.cur).mono ?_
          rintro e u6 ⟨t2, rfl, ht2, C', g'⟩
          have D6 := HI6.out.2.1.call C' g'
          clear HI6 C' g'
          have bt2 : 0 ≤ t2 ∧ t2 ≤ 60 := by simp at ht2; omega
          have wt : IntKind.i64.wrap (t1 - t2) = t1 - t2 := by rw [IntKind.wrap_i64]; omega
          clear ht1 ht2
          obtain ⟨y, hy⟩ : ∃ y : Ru, y = ⟨1 + p1, z, lo, hiv, p2, 1 + p3, t1 - t2⟩ := ⟨_, rfl⟩
          have HS : Hid (S64 ⟨1 + p1, z, lo, hiv, p2, 1 + p3, t1 - t2⟩) := by show -9223372036854775808 ≤ t1 - t2 ∧ t1 - t2 ≤ 9223372036854775807; omega
          have E6 := D6.alloc (.cells (ruc ⟨1 + p1, z, lo, hiv, p2, 1 + p3, t1 - t2⟩) 33)
          have HE6 : Hid (DU w0 a cap zs w g (.slice va vn vc) l (u6.alloc (.cells (ruc ⟨1 + p1, z, lo, hiv, p2, 1 + p3, t1 - t2⟩) 33)) ∧ Blk (u6.alloc (.cells (ruc ⟨1 + p1, z, lo, hiv, p2, 1 + p3, t1 - t2⟩) 33)) u6.heap.size 33 (ruc ⟨1 + p1, z, lo, hiv, p2, 1 + p3, t1 - t2⟩)) := ⟨E6, Blk.new u6 _ 33⟩
          have hl9 : l.length ≤ 1000000 := by have := HL.out; omega
          clear D6 E6 hy
          go_upto_region 11 with (at_builtin; refine wpList_appU rfl (.tmp 26) (.tmp 47) rfl w.heap.size (.slice va vn vc) l rfl HE6.out.1.own u6.heap.size 1 ⟨1 + p1, z, lo, hiv, p2, 1 + p3, t1 - t2⟩ rfl (cellsAt7 HE6.out.2) hl9 HE6.out.1.gr.size ?_; intro v' u7 O7 gg)
          have D7 := HE6.out.1.app HS.out O7 gg hw0
          obtain ⟨va', vc', rfl⟩ := O7.shape
          obtain ⟨vn', hvn'⟩ : ∃ vn', vn' = (l ++ [(⟨1 + p1, z, lo, hiv, p2, 1 + p3, t1 - t2⟩ : Ru)]).length := ⟨_, rfl⟩
          rw [← hvn'] at D7 ⊢
          obtain ⟨l', hl'⟩ : ∃ l', l' = l ++ [(⟨1 + p1, z, lo, hiv, p2, 1 + p3, t1 - t2⟩ : Ru)] := ⟨_, rfl⟩
          have HL7 : Hid (vn' = l'.length ∧ l'.length = l.length + 1) := ⟨by rw [hl']; exact hvn', by rw [hl']; simp⟩
          rw [← hl'] at D7
          clear hl' hvn' O7 gg HE6 HS hl9
          have wh1 : IntKind.i64.wrap (hiv + 1) = hiv + 1 := by rw [IntKind.wrap_i64]; omega
          have I8 : Ints (u7.alloc (.cells #[.int .i64 0, .int .i64 0, .int .i64 0, .int .i64 2] 3)) ⟨u7.heap.size, 0, none⟩ [0, 0, 0, 2] := ints_lit u7 [0, 0, 0, 2] 3
          have HI8 : Hid (Ints (u7.alloc (.cells #[.int .i64 0, .int .i64 0, .int .i64 0, .int .i64 2] 3)) ⟨u7.heap.size, 0, none⟩ [0, 0, 0, 2] ∧ DU w0 a cap zs w g (.slice va' vn' vc') l' (u7.alloc (.cells #[.int .i64 0, .int .i64 0, .int .i64 0, .int .i64 2] 3)) ∧ u7.heap.size ≠ g) := ⟨I8, D7.alloc _, by have := D7.lt; have := D7.gr.size; omega⟩
          clear I8 D7
          go_wp2_with fail
          refine (l1Int_any w0 a cap zs _ g ⟨u7.heap.size, 0, none⟩ 4 4 [0, 0, 0, 2] rfl (by omega) (by omega) HI8.out.1 HI8.out.2.2 HI8.out.2.1.cur).mono ?_
          rintro e u8 ⟨d, rfl, hd, C', g'⟩
          have D8 := HI8.out.2.1.call C' g'
          clear HI8 C' g'
          have bd : 0 ≤ d ∧ d ≤ 2 := by simp at hd; omega
          have wd : IntKind.i64.wrap (hiv + 1 + d) = hiv + 1 + d := by rw [IntKind.wrap_i64]; omega
          have wk : IntKind.i64.wrap (k - 1) = k - 1 := by rw [IntKind.wrap_i64]; omega
          clear hd
          go_wp2
          go_roundw
          case rel => (have h1 := HL.out; have h2 := HL7.out; have h3 := HH.out; exact ⟨k - 1, hiv + 1 + d, va', vn', vc', l', by omega, rfl, rfl, rfl, h2.1, by omega, by omega, by omega, D8⟩)
          case measure => simp [intOf]; omega
        · have hk1 : ¬ 0 < k := hk0
          go_wp2
          go_roundw
          case rel => exact ⟨z + 1, va, vn, vc, l, by omega, by go_num, rfl, hvn, by omega, D⟩
          case measure => simp [intOf]; omega
    · have hi : ¬ (z : Int) < 4 := by omega
      have HX : Hid (vn = l.length ∧ l.length ≤ 12 ∧ DU w0 a cap zs w g (.slice va vn vc) l wr) := ⟨hvn, by omega, D⟩
      clear hvn hl D
      go_wp2
      go_ret
      exact ⟨va, vn, vc, l, rfl, HX.out⟩
end Go.Proofs.YtklnfeblkffgiaaDoor
namespace Go.Proofs.YtklnfeblkffgiaaDoor
open Go.RowKit
set_option linter.unusedVariables false
set_option linter.unusedSimpArgs false
set_option maxRecDepth 20000 in
set_option maxHeartbeats 2000000 in
theorem l10One_any (w0 : World) (a : Option Addr) (cap : Nat) (zs : List Int) (w : World) (g : Nat) (hC : Cur w0 a cap zs w g) (hw0 : w0.heap.size ≤ w.heap.size) :
    Calls Tryd.prog 54 #[.pointer (some ⟨g, 0, none⟩)] w fun e w' => DrawnU w0 a cap zs w g 28 e w' := by
  have hlt := hC.hi
  have D0 : DU w0 a cap zs w g (.slice (some ⟨w.heap.size, 0, none⟩) 0 0) [] (w.alloc (.cells #[] 33)) := ⟨hC.alloc _, World.grownBy_alloc w _ _, World.ownsRow_made w #[] 0 (Nat.le_refl _) (by unfold maxLen; omega) (by simp), hlt, fun r hr => by cases hr⟩
  go_enter Tryd.func54, Tryd.ntmps54
  go_wp2
  go_loopw [3, 4] (fun v i wr => ∃ (z : Nat) (va : Option Addr) (vn vc : Nat) (l : List Ru), z ≤ 4 ∧ i = .int .i64 z ∧ v = .slice va vn vc ∧ vn = l.length ∧ l.length ≤ 7 * z ∧ DU w0 a cap zs w g (.slice va vn vc) l wr) (fun v i _ => 4 - (intOf i).toNat)
  case atStart => exact ⟨0, _, _, _, [], by omega, rfl, rfl, rfl, by simp, D0⟩
  case round =>
    clear D0
    obtain ⟨z, va, vn, vc, l, hz, rfl, rfl, hvn, hl, D⟩ := hrel
    by_cases hz4 : z < 4
    · have hi : (z : Int) < 4 := by omega
      have HL : Hid (vn = l.length ∧ l.length ≤ 7 * z) := ⟨hvn, hl⟩
      clear hvn hl
      go_wp2
      go_loopw [3, 5] (fun v lov wr => ∃ (lo : Int) (va : Option Addr) (vn vc : Nat) (l : List Ru), lov = .int .i64 lo ∧ v = .slice va vn vc ∧ vn = l.length ∧ 3 * (l.length : Int) ≤ 21 * z + lo ∧ 0 ≤ lo ∧ lo ≤ 21 ∧ DU w0 a cap zs w g (.slice va vn vc) l wr) (fun v lov _ => 30 - (intOf lov).toNat)
      case atStart => exact ⟨0, _, _, _, l, rfl, rfl, HL.out.1, by have := HL.out; omega, by omega, by omega, D⟩
      case round =>
        clear D HL
        obtain ⟨lo, va, vn, vc, l, rfl, rfl, hvn, hl, hlo, hb, D⟩ := hrel
        have HL : Hid (vn = l.length ∧ 3 * (l.length : Int) ≤ 21 * z + lo) := ⟨hvn, hl⟩
        by_cases hk0 : lo < 20
        · clear hvn hl
          have wl : IntKind.i64.wrap (lo + 2) = lo + 2 := by rw [IntKind.wrap_i64]; omega
          go_wp2_with fail
          refine (l1Below_any w0 a cap zs _ g 9 (by decide) D.cur).mono ?_
          rintro e u1 ⟨x1, rfl, hx1, C1, g1⟩
          have D1 := D.call C1 g1
          clear D C1 g1
          have wx : IntKind.i64.wrap (lo + 2 + x1) = lo + 2 + x1 := by rw [IntKind.wrap_i64]; omega
          go_upto_if 20 with fail
          go_cut [6] (fun hv wx => ∃ hiv : Int, hv = .int .i64 hiv ∧ lo ≤ hiv ∧ lo + 2 ≤ hiv + (if hiv = 20 then 2 else 0) ∧ hiv ≤ 20 ∧ (hiv = 20 ∨ lo + 2 ≤ hiv) ∧ wx = u1)
          case first =>
            by_cases h20 : 20 < lo + 2 + x1
            · go_wp2_with fail
              go_meet
              exact ⟨20, rfl, by omega, by simp; omega, by omega, .inl rfl, rfl⟩
            · go_wp2_with fail
              go_meet
              exact ⟨lo + 2 + x1, rfl, by omega, by split <;> omega, by omega, .inr (by omega), rfl⟩
          case rest =>
          obtain ⟨hiv, rfl, q1, _, q3, q4, rfl⟩ := hcut
          go_wp2_with fail
          refine (l1Below_any w0 a cap zs _ g 3 (by decide) D1.cur).mono ?_
          rintro e u2 ⟨p2, rfl, hp2, C', g'⟩
          have D2 := D1.call C' g'
          clear D1 C' g'
          go_wp2_with fail
          refine (l1Below_any w0 a cap zs _ g 2 (by decide) D2.cur).mono ?_
          rintro e u3 ⟨p3, rfl, hp3, C', g'⟩
          have D3 := D2.call C' g'
          clear D2 C' g'
          have wp3 : IntKind.i64.wrap (1 + p3) = 1 + p3 := by rw [IntKind.wrap_i64]; omega
          have HS : Hid (S64 ⟨1, z, lo, hiv, p2, 1 + p3, 0⟩) := by show -9223372036854775808 ≤ (0 : Int) ∧ (0 : Int) ≤ 9223372036854775807; omega
          have HE6 : Hid (DU w0 a cap zs w g (.slice va vn vc) l (u3.alloc (.cells (ruc ⟨1, z, lo, hiv, p2, 1 + p3, 0⟩) 33)) ∧ Blk (u3.alloc (.cells (ruc ⟨1, z, lo, hiv, p2, 1 + p3, 0⟩) 33)) u3.heap.size 33 (ruc ⟨1, z, lo, hiv, p2, 1 + p3, 0⟩)) := ⟨D3.alloc _, Blk.new u3 _ 33⟩
          have hl9 : l.length ≤ 1000000 := by have := HL.out; omega
          clear D3
          go_upto_region 11 with (at_builtin; refine wpList_appU rfl (.tmp 21) (.tmp 31) rfl w.heap.size (.slice va vn vc) l rfl HE6.out.1.own u3.heap.size 1 ⟨1, z, lo, hiv, p2, 1 + p3, 0⟩ rfl (cellsAt7 HE6.out.2) hl9 HE6.out.1.gr.size ?_; intro v' u7 O7 gg)
          have D7 := HE6.out.1.app HS.out O7 gg hw0
          obtain ⟨va', vc', rfl⟩ := O7.shape
          obtain ⟨vn', hvn'⟩ : ∃ vn', vn' = (l ++ [(⟨1, z, lo, hiv, p2, 1 + p3, 0⟩ : Ru)]).length := ⟨_, rfl⟩
          rw [← hvn'] at D7 ⊢
          obtain ⟨l', hl'⟩ : ∃ l', l' = l ++ [(⟨1, z, lo, hiv, p2, 1 + p3, 0⟩ : Ru)] := ⟨_, rfl⟩
          have HL7 : Hid (vn' = l'.length ∧ l'.length = l.length + 1) := ⟨by rw [hl']; exact hvn', by rw [hl']; simp⟩
          rw [← hl'] at D7
          clear hl' hvn' O7 gg HE6 HS hl9
          have wh1 : IntKind.i64.wrap (hiv + 1) = hiv + 1 := by rw [IntKind.wrap_i64]; omega
          go_wp2
          go_roundw
          case rel => (have h1 := HL.out; have h2 := HL7.out; exact ⟨hiv + 1, va', vn', vc', l', rfl, rfl, h2.1, by omega, by omega, by omega, D7⟩)
          case measure => simp [intOf]; omega
        · have hk1 : ¬ lo < 20 := hk0
          go_wp2
          go_roundw
          case rel => exact ⟨z + 1, va, vn, vc, l, by omega, by go_num, rfl, hvn, by omega, D⟩
          case measure => simp [intOf]; omega
    · have hi : ¬ (z : Int) < 4 := by omega
      have HX : Hid (vn = l.length ∧ l.length ≤ 28 ∧ DU w0 a cap zs w g (.slice va vn vc) l wr) := ⟨hvn, by omega, D⟩
      clear hvn hl D
      go_wp2
      go_ret
      exact ⟨va, vn, vc, l, rfl, HX.out⟩
end Go.Proofs.YtklnfeblkffgiaaDoor
namespace Go.Proofs.YtklnfeblkffgiaaDoor
open Go.ChangeShapes Go.WideShapes Go.ChangeAt Go.RowKit Go.Deep Go.Joins
def InIos (w : World) (a : Option Addr) (len : Nat) (zs : List Int) : Prop := zs.length = len ∧ len ≤ maxLen ∧ SlI w a zs ∧ ∀ n ∈ zs, -9223372036854775808 ≤ n ∧ n ≤ 9223372036854775807
section
variable {H : Type} {enc : TypeId × Value → H} {P : Program} {w : World} {base : Nat} {held : Bool}
def InReq (w : World) (kd pl nn wa : Int) (a b : Option Addr) (la lb : Nat) (ws : List Int) (bs : List Bool) : Prop :=
  InIos w a la ws ∧ InBos w b lb bs ∧ lb ≤ maxLen ∧ (Lit.int .i64 kd).wf = true ∧ (Lit.int .i64 pl).wf = true ∧ (Lit.int .i64 nn).wf = true ∧ (Lit.int .i64 wa).wf = true
end
end Go.Proofs.YtklnfeblkffgiaaDoor
namespace Go.Proofs.YtklnfeblkffgiaaDoor
open Go.ChangeShapes Go.WideShapes Go.ChangeAt Go.RowKit Go.Deep Go.Joins
set_option linter.unusedVariables false
section
variable {H : Type} {enc : TypeId × Value → H} {P : Program} {w : World} {base : Nat} {held : Bool}
def InRus (w : World) (a : Option Addr) (n : Nat) (f : Nat → Ru) : Prop := n ≤ maxLen ∧ SlU w a n f ∧ ∀ k, k < n → -9223372036854775808 ≤ (f k).sh ∧ (f k).sh ≤ 9223372036854775807
instance : Inhabited Ru := ⟨⟨0, 0, 0, 0, 0, 0, 0⟩⟩
end
end Go.Proofs.YtklnfeblkffgiaaDoor
namespace Go.Proofs.YtklnfeblkffgiaaDoor
open Go.RowKit
set_option linter.unusedVariables false
set_option linter.unusedSimpArgs false
def updR (r : Ru) (j : Nat) (x : Int) : Ru :=
  match j with
  | 0 => { r with u := x }
  | 1 => { r with s := x }
  | 2 => { r with lo := x }
  | 3 => { r with hi := x }
  | 4 => { r with p := x }
  | 5 => { r with t := x }
  | _ => { r with sh := x }
theorem updR_rul (r : Ru) (x : Int) : ∀ j, j < 7 → rul (updR r j x) = (rul r).set j (.int .i64 x)
  | 0, _ => rfl
  | 1, _ => rfl
  | 2, _ => rfl
  | 3, _ => rfl
  | 4, _ => rfl
  | 5, _ => rfl
  | 6, _ => rfl
theorem updR_sh (r : Ru) (j : Nat) (x : Int) : (updR r j x).sh = r.sh ∨ (updR r j x).sh = x := by
  unfold updR
  split <;> simp
theorem flatMap_set : ∀ (l : List Ru) (k j : Nat) (x : Int), k < l.length → j < 7 → ∃ r0, l[k]? = some r0 ∧ (l.set k (updR r0 j x)).flatMap rul = (l.flatMap rul).set (k * 7 + j) (.int .i64 x)
  | [], k, j, x, hk, _ => by simp at hk
  | r :: t, 0, j, x, hk, hj => by
    refine ⟨r, rfl, ?_⟩
    rw [List.set_cons_zero, List.flatMap_cons, List.flatMap_cons, updR_rul r x j hj, Nat.zero_mul, Nat.zero_add, List.set_append_left _ _ (by simp; omega)]
  | r :: t, k + 1, j, x, hk, hj => by
    obtain ⟨r0, h1, h2⟩ := flatMap_set t k j x (by simpa using hk) hj
    refine ⟨r0, by simpa using h1, ?_⟩
    rw [List.set_cons_succ, List.flatMap_cons, List.flatMap_cons, h2, List.set_append_right _ _ (by simp; omega)]
    congr 2
    simp
    omega
theorem OwnU.set {w : World} {base gO n c k j : Nat} {l : List Ru} (h : OwnU w base (.slice (some ⟨gO, 0, none⟩) n c) l) (hk : k < l.length) (hj : j < 7) (x : Int) :
    ∃ l', OwnU (w.setCell ⟨gO, k * 7 + j, none⟩ (.int .i64 x)) base (.slice (some ⟨gO, 0, none⟩) n c) l' ∧ l'.length = l.length ∧ (∀ r ∈ l', r.sh = x ∨ ∃ r0 ∈ l, r.sh = r0.sh) := by
  obtain ⟨r0, e0, e1⟩ := flatMap_set l k j x hk hj
  refine ⟨l.set k (updR r0 j x), ?_, by simp, fun r hr => ?_⟩
  · rcases h.2 with ⟨e, _⟩ | ⟨g, cap', cur, hv, hb, hh, hle, hm, hs, ht⟩
    · cases e
    · simp only [Value.slice.injEq, Option.some.injEq, Addr.mk.injEq] at hv
      obtain ⟨⟨rfl, _, _⟩, rfl, rfl⟩ := hv
      refine ⟨by rw [e1]; simpa using h.1, .inr ⟨gO, c, cur.setIfInBounds (k * 7 + j) (.int .i64 x), by simp, hb, Go.Joins.block_setCell hh _, by simpa using hle, hm, by simpa using hs, ?_⟩⟩
      rw [e1, Array.toList_setIfInBounds, List.length_set, ← ht]
      rw [List.take_set]
  · rcases List.mem_or_eq_of_mem_set hr with h9 | h9
    · exact .inr ⟨r, h9, rfl⟩
    · subst h9
      rcases updR_sh r0 j x with e | e
      · exact .inr ⟨r0, List.mem_of_getElem? e0, e⟩
      · exact .inl e
theorem OwnU.cells {w : World} {base gO n c : Nat} {l : List Ru} (h : OwnU w base (.slice (some ⟨gO, 0, none⟩) n c) l) : n = l.length ∧ (∀ o, w.frozen? ⟨gO, o, none⟩ = false) ∧ ∀ i, i < l.length * 7 → (w.cell? ⟨gO, i, none⟩) = (l.flatMap rul)[i]? := by
  rcases h.2 with ⟨e, _⟩ | ⟨g, cap', cur, hv, hb, hh, hle, hm, hs, ht⟩
  · cases e
  · simp only [Value.slice.injEq, Option.some.injEq, Addr.mk.injEq] at hv
    obtain ⟨⟨rfl, _, _⟩, rfl, rfl⟩ := hv
    refine ⟨rfl, fun o => Go.Joins.unfrozen_of_block hh o, fun i hi => ?_⟩
    rw [← ht, List.getElem?_take, if_pos hi, Array.getElem?_toList]
    simp [World.cell?, hh]
theorem flatMap_at7 : ∀ (l : List Ru) (k j : Nat), k < l.length → j < 7 → (l.flatMap rul)[k * 7 + j]? = (rul (l.getD k default))[j]?
  | [], k, j, hk, _ => by simp at hk
  | x :: r, 0, j, hk, hj => by
    rw [List.flatMap_cons, List.getElem?_append_left (by simp; omega)]
    simp
  | x :: r, k + 1, j, hk, hj => by
    rw [List.flatMap_cons, List.getElem?_append_right (by simp; omega)]
    have e : (k + 1) * 7 + j - (rul x).length = k * 7 + j := by simp; omega
    rw [e, flatMap_at7 r k j (by simpa using hk) hj]
    simp
theorem OwnU.sl {w : World} {base n c : Nat} {a : Option Addr} {l : List Ru} (h : OwnU w base (.slice a n c) l) : n = l.length ∧ SlU w a l.length (fun k => l.getD k default) := by
  rcases h.2 with ⟨e, h0⟩ | ⟨g, cap', cur, hv, _, hh, hle, _, hs, ht⟩
  · simp only [Value.slice.injEq] at e
    exact ⟨by rw [h0]; exact e.2.1, .inl h0⟩
  · simp only [Value.slice.injEq] at hv
    refine ⟨hv.2.1, .inr ⟨g, 0, hv.1, (Array.getElem?_eq_some_iff.1 hh).1, fun k hk j hj => ?_⟩⟩
    have hlt : k * 7 + j < l.length * 7 := by omega
    have e1 : (l.flatMap rul)[k * 7 + j]? = cur[k * 7 + j]? := by
      rw [← ht, List.getElem?_take, if_pos hlt, Array.getElem?_toList]
    have e2 : w.cell? ⟨g, 0 + k * 7 + j, none⟩ = cur[k * 7 + j]? := by simp [World.cell?, hh]
    rw [e2, ← e1]
    exact flatMap_at7 l k j hk hj
end Go.Proofs.YtklnfeblkffgiaaDoor
namespace Go.Proofs.YtklnfeblkffgiaaDoor
open Go.RowKit
set_option linter.unusedVariables false
set_option linter.unusedSimpArgs false
theorem wpList_appUM {w : World} {ops : Array Oper} {rest : List Oper} {o : Oper} {a : Act} {Q : Exit → Act → World → Prop} (hgd : o.guard = none) (s x : Operand)
    (ho : o.op = .call { callee := .builtin .append, args := #[s, x], argTypes := #[24, 24] }) (base : Nat) (v : Value) (l : List Ru) (hs : a.eval s = v) (hown : OwnU w base v l)
    (ad : Option Addr) (m c : Nat) (l2 : List Ru) (hx : a.eval x = .slice ad m c) (hm : m = l2.length) (hsl : SlU w ad l2.length (fun k => l2.getD k default)) (hlen : l.length + l2.length ≤ 1000000) (hbase : base ≤ w.heap.size)
    (h : ∀ v' w', OwnU w' base v' (l ++ l2) → w.grownBy w' v.ownBlock → wpList Tryd.prog ops Q rest (a.put o.dst v') w') : wpList Tryd.prog ops Q (o :: rest) a w := by
  obtain ⟨i0, hi, hzz⟩ := Option.map_eq_some_iff.1 Tryd.info33
  simp only [Prod.mk.injEq] at hzz
  obtain ⟨hz0, hz1, hz2⟩ := hzz
  have len7 : ∀ q : List Ru, (q.flatMap rul).length = q.length * 7 := by
    intro q
    induction q with
    | nil => rfl
    | cons y r ih => rw [List.flatMap_cons, List.length_append, ih]; simp; omega
  subst hm
  cases ad with
  | none =>
    have h0 : l2 = [] := by
      rcases hsl with h0 | ⟨b, off, e, _⟩
      · exact List.eq_nil_of_length_eq_zero h0
      · cases e
    subst h0
    have hgo : ∀ (sa : Option Addr) (sn sc : Nat), sn ≤ sc → v = .slice sa sn sc → wpList Tryd.prog ops Q (o :: rest) a w := by
      rintro sa sn sc hcap rfl
      exact Lib.wpList_append_run _ hgd s x _ _ ho _ _ hs hx _ _ (run_append_nothing w 24 24 o.type 33 i0 Tryd.underlying24 hi sa sn sc hcap _ (Src.ofNil w Tryd.underlying24 c)) (h _ w (by simpa using hown) ⟨rfl, rfl, rfl, Nat.le_refl _, fun _ _ _ => rfl⟩)
    rcases hown.2 with ⟨e, _⟩ | ⟨g, cap', cur, hv, _, hh, h3, _⟩
    · exact hgo _ _ _ (Nat.le_refl 0) e
    · exact hgo _ _ _ h3 hv
  | some ad =>
    have hcells : ∀ j u, (l2.flatMap rul)[j]? = some u → w.cell? (ad.add j) = some u := by
      intro j u hu
      have hj : j < l2.length * 7 := by rw [← len7]; exact (List.getElem?_eq_some_iff.1 hu).1
      rcases hsl with h0 | ⟨b, off, e, _, hc⟩
      · omega
      · simp only [Option.some.injEq] at e
        subst e
        have hk : j / 7 < l2.length := by omega
        have hm7 : j % 7 < 7 := by omega
        have ej : j / 7 * 7 + j % 7 = j := by omega
        have e1 : (⟨b, off, none⟩ : Addr).add j = ⟨b, off + j / 7 * 7 + j % 7, none⟩ := by
          rw [Nat.add_assoc, ej]
          unfold Addr.add
          split
          · rename_i h0; subst h0; rfl
          · rfl
        rw [e1, hc _ hk _ hm7, ← flatMap_at7 l2 _ _ hk hm7, ej]
        exact hu
    refine wpList_append_own w hgd s x 24 ho base 33 i0 _ 7 56 Tryd.underlying24 hi hz0 hz1 hz2 rfl (by decide) v l.length (l.flatMap rul) hs hown ad l2.length c (l2.flatMap rul) hx (len7 l2) hcells (fun u hu => by
      obtain ⟨r, _, hr⟩ := List.mem_flatMap.1 hu
      simp at hr; rcases hr with rfl | rfl | rfl | rfl | rfl | rfl | rfl <;> rfl) (by unfold maxLen; omega) (by omega) hbase ?_
    intro v' w' h1 h2 _
    refine h v' w' ?_ h2
    show w'.ownsRow base _ 7 v' (l ++ l2).length ((l ++ l2).flatMap rul)
    rw [List.length_append, List.flatMap_append]
    exact h1
theorem DU.bend {w0 : World} {a : Option Addr} {cap : Nat} {zs : List Int} {w : World} {g gO n c : Nat} {l : List Ru} {u : World} (h : DU w0 a cap zs w g (.slice (some ⟨gO, 0, none⟩) n c) l u) (hw0 : w0.heap.size ≤ w.heap.size) {k j : Nat} (hk : k < l.length) (hj : j < 7) (y : Int) (hy : -9223372036854775808 ≤ y ∧ y ≤ 9223372036854775807) :
    ∃ l', l'.length = l.length ∧ DU w0 a cap zs w g (.slice (some ⟨gO, 0, none⟩) n c) l' (u.setCell ⟨gO, k * 7 + j, none⟩ (.int .i64 y)) := by
  obtain ⟨l', o, e, hsh⟩ := h.own.set hk hj y
  have hb := (World.ownsRow.lt h.own gO rfl).1
  have hg : g ≠ gO := by have := h.lt; omega
  refine ⟨l', e, h.cur.grown (grown_setb u gO (k * 7 + j) (.int .i64 y)) (by simpa using hg) (fun q hq => by have := Option.some.inj hq; omega), ?_, o, h.lt, fun r hr => ?_⟩
  · refine ⟨h.gr.os, h.gr.tape, h.gr.output, by simpa [World.setCell] using h.gr.size, fun q hq hne => ?_⟩
    rw [(grown_setb u gO (k * 7 + j) (.int .i64 y)).block q (Nat.lt_of_lt_of_le hq h.gr.size) (fun e9 => by have := Option.some.inj e9; omega)]
    exact h.gr.block q hq hne
  · rcases hsh r hr with e9 | ⟨r0, h0, e9⟩
    · unfold S64; rw [e9]; exact hy
    · unfold S64; rw [e9]; exact h.s64 r0 h0
theorem DU.at7 {w0 : World} {a : Option Addr} {cap : Nat} {zs : List Int} {w : World} {g gO n c : Nat} {l : List Ru} {u : World} (h : DU w0 a cap zs w g (.slice (some ⟨gO, 0, none⟩) n c) l u) {k j : Nat} (hk : k < l.length) (hj : j < 7) :
    (∃ old, u.cell? ⟨gO, k * 7 + j, none⟩ = some old) ∧ u.frozen? ⟨gO, k * 7 + j, none⟩ = false := by
  obtain ⟨_, h2, h3⟩ := h.own.cells
  refine ⟨?_, h2 _⟩
  rw [h3 _ (by omega), flatMap_at7 l k j hk hj]
  exact ⟨_, List.getElem?_eq_getElem (by simp; omega)⟩
theorem DU.appM {w0 : World} {a : Option Addr} {cap : Nat} {zs : List Int} {w : World} {g : Nat} {v v' : Value} {l l2 : List Ru} {u u' : World} (h : DU w0 a cap zs w g v l u) (hy : ∀ r ∈ l2, S64 r) (ho : OwnU u' w.heap.size v' (l ++ l2)) (hg : u.grownBy u' v.ownBlock) (hw0 : w0.heap.size ≤ w.heap.size) : DU w0 a cap zs w g v' (l ++ l2) u' := by
  have hne : ∀ k, v.ownBlock = some k → w.heap.size ≤ k := fun k hk => (World.ownsRow.lt h.own k hk).1
  have hg' : some g ≠ v.ownBlock := fun e => by have := hne g e.symm; have := h.lt; omega
  refine ⟨h.cur.grown hg hg' (fun k hk => Nat.le_trans hw0 (hne k hk)), ?_, ho, h.lt, fun r hr => ?_⟩
  · refine ⟨hg.os.trans h.gr.os, hg.tape.trans h.gr.tape, hg.output.trans h.gr.output, Nat.le_trans h.gr.size hg.size, fun k hk hn => ?_⟩
    rw [hg.block k (Nat.lt_of_lt_of_le hk h.gr.size) (fun e => by have := hne k e.symm; omega)]
    exact h.gr.block k hk hn
  · rcases List.mem_append.1 hr with h9 | h9
    · exact h.s64 r h9
    · exact hy r h9
set_option maxRecDepth 20000 in
set_option maxHeartbeats 4000000 in
theorem l10Bend_any (w0 : World) (a : Option Addr) (cap : Nat) (zs : List Int) (w : World) (g : Nat) (hC : Cur w0 a cap zs w g) (hw0 : w0.heap.size ≤ w.heap.size) (va : Option Addr) (vn vc : Nat) (l0 : List Ru) (hvn : vn = l0.length) (hs : SlU w va l0.length (fun k => l0.getD k default)) (hl : l0.length ≤ 30) (h64 : ∀ r ∈ l0, S64 r) :
    Calls Tryd.prog 40 #[.pointer (some ⟨g, 0, none⟩), .slice va vn vc] w fun e w' => DrawnU w0 a cap zs w g (l0.length + 1) e w' := by
  have hlt := hC.hi
  have D0 : DU w0 a cap zs w g (.slice (some ⟨w.heap.size, 0, none⟩) 0 0) [] (w.alloc (.cells #[] 33)) := ⟨hC.alloc _, World.grownBy_alloc w _ _, World.ownsRow_made w #[] 0 (Nat.le_refl _) (by unfold maxLen; omega) (by simp), hlt, fun r hr => by cases hr⟩
  have HD0 : Hid (DU w0 a cap zs w g (.slice (some ⟨w.heap.size, 0, none⟩) 0 0) [] (w.alloc (.cells #[] 33)) ∧ SlU (w.alloc (.cells #[] 33)) va l0.length (fun k => l0.getD k default) ∧ vn = l0.length ∧ l0.length ≤ 30 ∧ ∀ r ∈ l0, S64 r) := ⟨D0, SlS.below hs ((Below.refl _ _).alloc (Nat.le_refl _) _), hvn, hl, h64⟩
  clear D0 hs hvn hl h64 hC
  go_enter Tryd.func40, Tryd.ntmps40
  go_upto_region 2 with (at_builtin; refine wpList_appUM rfl (.tmp 7) (.tmp 8) rfl w.heap.size (.slice (some ⟨w.heap.size, 0, none⟩) 0 0) [] rfl HD0.out.1.own va vn vc l0 rfl HD0.out.2.2.1 HD0.out.2.1 (by have := HD0.out.2.2.2.1; simp; omega) HD0.out.1.gr.size ?_; intro v' u1 O1 gg)
  have D1 := HD0.out.1.appM HD0.out.2.2.2.2 O1 gg hw0
  rw [List.nil_append] at D1
  have HL0 : Hid (l0.length ≤ 30) := HD0.out.2.2.2.1
  clear O1 gg HD0
  by_cases h0 : l0 = []
  · subst h0
    obtain ⟨sa, sc, rfl⟩ := D1.own.shape
    go_wp2
    go_ret
    exact ⟨sa, _, sc, [], rfl, rfl, by simp, D1⟩
  · obtain ⟨gO, c, hv'⟩ : ∃ gO c, v' = .slice (some ⟨gO, 0, none⟩) l0.length c := by
      rcases D1.own.2 with ⟨_, e⟩ | ⟨gO, c, cur, e, _⟩
      · exact absurd (List.eq_nil_of_length_eq_zero e) h0
      · exact ⟨gO, c, e⟩
    subst hv'
    obtain ⟨n, hn⟩ : ∃ n, n = l0.length := ⟨_, rfl⟩
    rw [← hn] at D1 ⊢
    have hn1 : 1 ≤ n := by
      rw [hn]
      cases l0 with
      | nil => exact absurd rfl h0
      | cons _ _ => simp
    have hn30 : n ≤ 30 := by rw [hn]; exact HL0.out
    have HN : Hid (n = l0.length) := hn
    have e0 : ((n : Int) == 0) = false := by simp; omega
    have e0' : ¬ (n : Int) = 0 := by omega
    clear hn h0 HL0
    go_wp2_with fail
    refine (l1Below_any w0 a cap zs _ g (n : Int) (by omega) D1.cur).mono ?_
    rintro e u1' ⟨x, rfl, hx, C', g'⟩
    have D1' := D1.call C' g'
    clear D1 C' g'
    obtain ⟨xn, rfl⟩ : ∃ xn : Nat, x = (xn : Int) := ⟨x.toNat, by omega⟩
    have HL : Hid (n = l0.length ∧ xn < l0.length ∧ l0.length ≤ 30) := ⟨HN.out, by have := HN.out; omega, by have := HN.out; omega⟩
    have hxn : (xn : Int) < (n : Int) := hx.2
    clear hx HN
    go_wp2_with fail
    refine (l1Below_any w0 a cap zs _ g 7 (by decide) D1'.cur).mono ?_
    rintro e u2 ⟨sw, rfl, hsw, C', g'⟩
    have D2 := D1'.call C' g'
    clear D1' C' g'
    obtain rfl | rfl | rfl | rfl | rfl | rfl | rfl : sw = 0 ∨ sw = 1 ∨ sw = 2 ∨ sw = 3 ∨ sw = 4 ∨ sw = 5 ∨ sw = 6 := by omega
    all_goals clear hsw
    · have I : Ints (u2.alloc (.cells #[.int .i64 0, .int .i64 247, .int .i64 248] 3)) ⟨u2.heap.size, 0, none⟩ [0, 247, 248] := ints_lit u2 [0, 247, 248] 3
      have HI : Hid (Ints (u2.alloc (.cells #[.int .i64 0, .int .i64 247, .int .i64 248] 3)) ⟨u2.heap.size, 0, none⟩ [0, 247, 248] ∧ DU w0 a cap zs w g (.slice (some ⟨gO, 0, none⟩) n c) l0 (u2.alloc (.cells #[.int .i64 0, .int .i64 247, .int .i64 248] 3)) ∧ u2.heap.size ≠ g) := ⟨I, D2.alloc _, by have := D2.lt; have := D2.gr.size; omega⟩
      clear I D2
      go_wp2_with fail
      refine (l1Int_any w0 a cap zs _ g ⟨u2.heap.size, 0, none⟩ 3 3 [0, 247, 248] rfl (by omega) (by omega) HI.out.1 HI.out.2.2 HI.out.2.1.cur).mono ?_
      rintro e u3 ⟨y, rfl, hy, C', g'⟩
      have D3 := HI.out.2.1.call C' g'
      clear HI C' g'
      have hy64 : -9223372036854775808 ≤ y ∧ y ≤ 9223372036854775807 := by simp at hy; omega
      clear hy
      have HD := D3.bend hw0 HL.out.2.1 (j := 0) (by decide) y hy64
      obtain ⟨hcl, hfr⟩ := D3.at7 HL.out.2.1 (j := 0) (by decide)
      obtain ⟨old, hold⟩ := hcl
      try simp only [Nat.add_zero] at hold hfr
      have HDD : Hid (∃ l', l'.length = l0.length ∧ DU w0 a cap zs w g (.slice (some ⟨gO, 0, none⟩) n c) l' (u3.setCell ⟨gO, xn * 7, none⟩ (.int .i64 y))) := HD
      clear HD D3
      go_wp2
      go_ret
      obtain ⟨l', e1, D9⟩ := HDD.out
      exact ⟨_, n, c, l', rfl, by rw [e1]; exact HL.out.1, by have := HL.out; omega, D9⟩
    · have I : Ints (u2.alloc (.cells #[.int .i64 (-1), .int .i64 65535, .int .i64 65536, .int .i64 3] 3)) ⟨u2.heap.size, 0, none⟩ [-1, 65535, 65536, 3] := ints_lit u2 [-1, 65535, 65536, 3] 3
      have HI : Hid (Ints (u2.alloc (.cells #[.int .i64 (-1), .int .i64 65535, .int .i64 65536, .int .i64 3] 3)) ⟨u2.heap.size, 0, none⟩ [-1, 65535, 65536, 3] ∧ DU w0 a cap zs w g (.slice (some ⟨gO, 0, none⟩) n c) l0 (u2.alloc (.cells #[.int .i64 (-1), .int .i64 65535, .int .i64 65536, .int .i64 3] 3)) ∧ u2.heap.size ≠ g) := ⟨I, D2.alloc _, by have := D2.lt; have := D2.gr.size; omega⟩
      clear I D2
      go_wp2_with fail
      refine (l1Int_any w0 a cap zs _ g ⟨u2.heap.size, 0, none⟩ 4 4 [-1, 65535, 65536, 3] rfl (by omega) (by omega) HI.out.1 HI.out.2.2 HI.out.2.1.cur).mono ?_
      rintro e u3 ⟨y, rfl, hy, C', g'⟩
      have D3 := HI.out.2.1.call C' g'
      clear HI C' g'
      have hy64 : -9223372036854775808 ≤ y ∧ y ≤ 9223372036854775807 := by simp at hy; omega
      clear hy
      have HD := D3.bend hw0 HL.out.2.1 (j := 3) (by decide) y hy64
      obtain ⟨hcl, hfr⟩ := D3.at7 HL.out.2.1 (j := 3) (by decide)
      obtain ⟨old, hold⟩ := hcl
      try simp only [Nat.add_zero] at hold hfr
      have HDD : Hid (∃ l', l'.length = l0.length ∧ DU w0 a cap zs w g (.slice (some ⟨gO, 0, none⟩) n c) l' (u3.setCell ⟨gO, xn * 7 + 3, none⟩ (.int .i64 y))) := HD
      clear HD D3
      go_wp2
      go_ret
      obtain ⟨l', e1, D9⟩ := HDD.out
      exact ⟨_, n, c, l', rfl, by rw [e1]; exact HL.out.1, by have := HL.out; omega, D9⟩
    · have I : Ints (u2.alloc (.cells #[.int .i64 (-1), .int .i64 65535, .int .i64 (-65535), .int .i64 9223372036854775807] 3)) ⟨u2.heap.size, 0, none⟩ [-1, 65535, -65535, 9223372036854775807] := ints_lit u2 [-1, 65535, -65535, 9223372036854775807] 3
      have HI : Hid (Ints (u2.alloc (.cells #[.int .i64 (-1), .int .i64 65535, .int .i64 (-65535), .int .i64 9223372036854775807] 3)) ⟨u2.heap.size, 0, none⟩ [-1, 65535, -65535, 9223372036854775807] ∧ DU w0 a cap zs w g (.slice (some ⟨gO, 0, none⟩) n c) l0 (u2.alloc (.cells #[.int .i64 (-1), .int .i64 65535, .int .i64 (-65535), .int .i64 9223372036854775807] 3)) ∧ u2.heap.size ≠ g) := ⟨I, D2.alloc _, by have := D2.lt; have := D2.gr.size; omega⟩
      clear I D2
      go_wp2_with fail
      refine (l1Int_any w0 a cap zs _ g ⟨u2.heap.size, 0, none⟩ 4 4 [-1, 65535, -65535, 9223372036854775807] rfl (by omega) (by omega) HI.out.1 HI.out.2.2 HI.out.2.1.cur).mono ?_
      rintro e u3 ⟨y, rfl, hy, C', g'⟩
      have D3 := HI.out.2.1.call C' g'
      clear HI C' g'
      have hy64 : -9223372036854775808 ≤ y ∧ y ≤ 9223372036854775807 := by simp at hy; omega
      clear hy
      have HD := D3.bend hw0 HL.out.2.1 (j := 6) (by decide) y hy64
      obtain ⟨hcl, hfr⟩ := D3.at7 HL.out.2.1 (j := 6) (by decide)
      obtain ⟨old, hold⟩ := hcl
      try simp only [Nat.add_zero] at hold hfr
      have HDD : Hid (∃ l', l'.length = l0.length ∧ DU w0 a cap zs w g (.slice (some ⟨gO, 0, none⟩) n c) l' (u3.setCell ⟨gO, xn * 7 + 6, none⟩ (.int .i64 y))) := HD
      clear HD D3
      go_wp2
      go_ret
      obtain ⟨l', e1, D9⟩ := HDD.out
      exact ⟨_, n, c, l', rfl, by rw [e1]; exact HL.out.1, by have := HL.out; omega, D9⟩
    · obtain ⟨x0, x1, x2, x3, x4, x5, x6⟩ : u2.cell? ⟨gO, xn * 7, none⟩ = some (.int .i64 (l0.getD xn default).u) ∧ u2.cell? ⟨gO, xn * 7 + 1, none⟩ = some (.int .i64 (l0.getD xn default).s) ∧ u2.cell? ⟨gO, xn * 7 + 2, none⟩ = some (.int .i64 (l0.getD xn default).lo) ∧ u2.cell? ⟨gO, xn * 7 + 3, none⟩ = some (.int .i64 (l0.getD xn default).hi) ∧ u2.cell? ⟨gO, xn * 7 + 4, none⟩ = some (.int .i64 (l0.getD xn default).p) ∧ u2.cell? ⟨gO, xn * 7 + 5, none⟩ = some (.int .i64 (l0.getD xn default).t) ∧ u2.cell? ⟨gO, xn * 7 + 6, none⟩ = some (.int .i64 (l0.getD xn default).sh) := by
        obtain ⟨bb, off, e, _, q⟩ := SlU.seven D2.own.sl.2 HL.out.2.1
        simp only [Option.some.injEq, Addr.mk.injEq] at e
        obtain ⟨rfl, rfl, _⟩ := e
        simpa using q
      obtain ⟨y, hy⟩ : ∃ y, y = l0.getD xn default := ⟨_, rfl⟩
      rw [← hy] at x0 x1 x2 x3 x4 x5 x6
      have HS : Hid (S64 y) := D2.s64 y (by rw [hy, List.getD_eq_getElem?_getD, List.getElem?_eq_getElem HL.out.2.1]; simp)
      have HE6 : Hid (DU w0 a cap zs w g (.slice (some ⟨gO, 0, none⟩) n c) l0 (u2.alloc (.cells (ruc y) 33)) ∧ Blk (u2.alloc (.cells (ruc y) 33)) u2.heap.size 33 (ruc y)) := ⟨D2.alloc _, Blk.new u2 _ 33⟩
      have hl9 : l0.length ≤ 1000000 := by have := HL.out; omega
      clear D2 hy
      go_upto_region 18 with (at_builtin; refine wpList_appU rfl (.tmp 49) (.tmp 54) rfl w.heap.size (.slice (some ⟨gO, 0, none⟩) n c) l0 rfl HE6.out.1.own u2.heap.size 1 y rfl (cellsAt7 HE6.out.2) hl9 HE6.out.1.gr.size ?_; intro v' u7 O7 gg)
      have D7 := HE6.out.1.app HS.out O7 gg hw0
      obtain ⟨va', vc', rfl⟩ := O7.shape
      clear O7 gg HE6 HS hl9 x0 x1 x2 x3 x4 x5 x6
      go_wp2
      go_ret
      exact ⟨va', _, vc', _, rfl, rfl, by simp, D7⟩
    · have I : Ints (u2.alloc (.cells #[.int .i64 (-1), .int .i64 5, .int .i64 6] 3)) ⟨u2.heap.size, 0, none⟩ [-1, 5, 6] := ints_lit u2 [-1, 5, 6] 3
      have HI : Hid (Ints (u2.alloc (.cells #[.int .i64 (-1), .int .i64 5, .int .i64 6] 3)) ⟨u2.heap.size, 0, none⟩ [-1, 5, 6] ∧ DU w0 a cap zs w g (.slice (some ⟨gO, 0, none⟩) n c) l0 (u2.alloc (.cells #[.int .i64 (-1), .int .i64 5, .int .i64 6] 3)) ∧ u2.heap.size ≠ g) := ⟨I, D2.alloc _, by have := D2.lt; have := D2.gr.size; omega⟩
      clear I D2
      go_wp2_with fail
      refine (l1Int_any w0 a cap zs _ g ⟨u2.heap.size, 0, none⟩ 3 3 [-1, 5, 6] rfl (by omega) (by omega) HI.out.1 HI.out.2.2 HI.out.2.1.cur).mono ?_
      rintro e u3 ⟨y, rfl, hy, C', g'⟩
      have D3 := HI.out.2.1.call C' g'
      clear HI C' g'
      have hy64 : -9223372036854775808 ≤ y ∧ y ≤ 9223372036854775807 := by simp at hy; omega
      clear hy
      have HD := D3.bend hw0 HL.out.2.1 (j := 4) (by decide) y hy64
      obtain ⟨hcl, hfr⟩ := D3.at7 HL.out.2.1 (j := 4) (by decide)
      obtain ⟨old, hold⟩ := hcl
      try simp only [Nat.add_zero] at hold hfr
      have HDD : Hid (∃ l', l'.length = l0.length ∧ DU w0 a cap zs w g (.slice (some ⟨gO, 0, none⟩) n c) l' (u3.setCell ⟨gO, xn * 7 + 4, none⟩ (.int .i64 y))) := HD
      clear HD D3
      go_wp2
      go_ret
      obtain ⟨l', e1, D9⟩ := HDD.out
      exact ⟨_, n, c, l', rfl, by rw [e1]; exact HL.out.1, by have := HL.out; omega, D9⟩
    · have I : Ints (u2.alloc (.cells #[.int .i64 (-1), .int .i64 4] 3)) ⟨u2.heap.size, 0, none⟩ [-1, 4] := ints_lit u2 [-1, 4] 3
      have HI : Hid (Ints (u2.alloc (.cells #[.int .i64 (-1), .int .i64 4] 3)) ⟨u2.heap.size, 0, none⟩ [-1, 4] ∧ DU w0 a cap zs w g (.slice (some ⟨gO, 0, none⟩) n c) l0 (u2.alloc (.cells #[.int .i64 (-1), .int .i64 4] 3)) ∧ u2.heap.size ≠ g) := ⟨I, D2.alloc _, by have := D2.lt; have := D2.gr.size; omega⟩
      clear I D2
      go_wp2_with fail
      refine (l1Int_any w0 a cap zs _ g ⟨u2.heap.size, 0, none⟩ 2 2 [-1, 4] rfl (by omega) (by omega) HI.out.1 HI.out.2.2 HI.out.2.1.cur).mono ?_
      rintro e u3 ⟨y, rfl, hy, C', g'⟩
      have D3 := HI.out.2.1.call C' g'
      clear HI C' g'
      have hy64 : -9223372036854775808 ≤ y ∧ y ≤ 9223372036854775807 := by simp at hy; omega
      clear hy
      have HD := D3.bend hw0 HL.out.2.1 (j := 1) (by decide) y hy64
      obtain ⟨hcl, hfr⟩ := D3.at7 HL.out.2.1 (j := 1) (by decide)
      obtain ⟨old, hold⟩ := hcl
      try simp only [Nat.add_zero] at hold hfr
      have HDD : Hid (∃ l', l'.length = l0.length ∧ DU w0 a cap zs w g (.slice (some ⟨gO, 0, none⟩) n c) l' (u3.setCell ⟨gO, xn * 7 + 1, none⟩ (.int .i64 y))) := HD
      clear HD D3
      go_wp2
      go_ret
      obtain ⟨l', e1, D9⟩ := HDD.out
      exact ⟨_, n, c, l', rfl, by rw [e1]; exact HL.out.1, by have := HL.out; omega, D9⟩
    · go_wp2
      go_ret
      exact ⟨_, n, c, l0, rfl, HL.out.1, by omega, D2⟩
end Go.Proofs.YtklnfeblkffgiaaDoor
namespace Go.Proofs.YtklnfeblkffgiaaDoor
open Go.RowKit
set_option linter.unusedVariables false
set_option linter.unusedSimpArgs false
theorem DU.mono {w0 : World} {a : Option Addr} {cap : Nat} {zs : List Int} {w w2 : World} {g : Nat} {v : Value} {l : List Ru} {u : World} (h : DU w0 a cap zs w2 g v l u) (hg : w.grownBy w2 (some g)) (hlt : g < w.heap.size) : DU w0 a cap zs w g v l u :=
  ⟨h.cur, grown_trans hg h.gr, Go.Joins.ownsRow_le h.own hg.size, hlt, h.s64⟩
def VU (w0 : World) (a : Option Addr) (cap : Nat) (zs : List Int) (w : World) (g m : Nat) (v : Value) (u : World) : Prop :=
  ∃ va vn vc l k, v = .slice va k vc ∧ vn = l.length ∧ k ≤ l.length ∧ k ≤ m ∧ DU w0 a cap zs w g (.slice va vn vc) l u
theorem VU.call {w0 : World} {a : Option Addr} {cap : Nat} {zs : List Int} {w : World} {g m : Nat} {v : Value} {u u' : World} (h : VU w0 a cap zs w g m v u) (c : Cur w0 a cap zs u' g) (hg : u.grownBy u' (some g)) : VU w0 a cap zs w g m v u' := by
  obtain ⟨va, vn, vc, l, k, e1, e2, e3, e4, D⟩ := h
  exact ⟨va, vn, vc, l, k, e1, e2, e3, e4, D.call c hg⟩
theorem VU.of {w0 : World} {a : Option Addr} {cap : Nat} {zs : List Int} {w w2 : World} {g m : Nat} {e : Ending} {u : World} (h : DrawnU w0 a cap zs w2 g m e u) (hg : w.grownBy w2 (some g)) (hlt : g < w.heap.size) : ∃ va vn vc, e = .returned (.slice va vn vc) ∧ VU w0 a cap zs w g m (.slice va vn vc) u := by
  obtain ⟨va, vn, vc, l, rfl, hvn, hl, D⟩ := h
  exact ⟨va, vn, vc, rfl, va, vn, vc, l, vn, rfl, hvn, by omega, by omega, D.mono hg hlt⟩
theorem VU.read {w0 : World} {a : Option Addr} {cap : Nat} {zs : List Int} {w : World} {g m k vc : Nat} {va : Option Addr} {u : World} (h : VU w0 a cap zs w g m (.slice va k vc) u) :
    k ≤ m ∧ k ≤ vc ∧ Cur w0 a cap zs u g ∧ w.grownBy u (some g) ∧ ∃ l : List Ru, k = l.length ∧ SlU u va l.length (fun i => l.getD i default) ∧ ∀ r ∈ l, S64 r := by
  obtain ⟨va', vn, vc', l, k', e1, e2, e3, e4, D⟩ := h
  simp only [Value.slice.injEq] at e1
  obtain ⟨rfl, rfl, rfl⟩ := e1
  have hcap : vn ≤ vc := by
    rcases D.own.2 with ⟨e, h0⟩ | ⟨g', c', cur, e, _, _, hle, _⟩
    · simp only [Value.slice.injEq] at e; omega
    · simp only [Value.slice.injEq] at e; omega
  refine ⟨e4, by omega, D.cur, D.gr, l.take k, by simp; omega, ?_, fun r hr => D.s64 r (List.mem_of_mem_take hr)⟩
  have hs := D.own.sl.2
  have el : (l.take k).length = k := by simp; omega
  rw [el]
  rcases hs with h0 | ⟨b, off, ha, hlt, hc⟩
  · exact .inl (by omega)
  · exact .inr ⟨b, off, ha, hlt, fun i hi j hj => by
      rw [hc i (by omega) j hj]
      have e9 : (l.take k).getD i default = l.getD i default := by
        rw [List.getD_eq_getElem?_getD, List.getD_eq_getElem?_getD, List.getElem?_take, if_pos hi]
      show (rul (l.getD i default))[j]? = (rul ((l.take k).getD i default))[j]?
      rw [e9]⟩
end Go.Proofs.YtklnfeblkffgiaaDoor
namespace Go.Proofs.YtklnfeblkffgiaaDoor
open Go.RowKit
set_option linter.unusedVariables false
set_option linter.unusedSimpArgs false
set_option maxRecDepth 20000 in
set_option maxHeartbeats 2000000 in
theorem areApart_any (a : Option Addr) (n cap : Nat) (f : Nat → Ru) (w : World) (hs : SlU w a n f) (hn : n ≤ 24) (hok : ∀ k, k < n → (f k).lo ≤ (f k).hi) (b : Bool) (hb : b = true ↔ Apart f n) :
    Calls Tryd.prog 45 #[.slice a n cap] w fun e w' => e = .returned (.bool b) ∧ Below w.heap.size w w' := by
  have HB : Hid (b = true ↔ Apart f n) := hb
  have HOK : Hid (∀ k, k < n → (f k).lo ≤ (f k).hi) := hok
  clear hb hok
  go_enter Tryd.func45, Tryd.ntmps45
  go_wp2_with fail
  refine (sortedBy_any a n cap f _ hs hn).mono ?_
  rintro e w1 ⟨rfl, h, R1, P1, S1, B1⟩
  have HI : Hid (True ∧ (AdjOk h n ↔ Apart f n)) := ⟨trivial, apart_iff HOK.out P1 S1⟩
  clear P1 S1 HOK hs
  go_wp2
  go_loopw [4] (fun i wr => ∃ z : Nat, 1 ≤ z ∧ (z ≤ n ∨ z = 1) ∧ i = .int .i64 z ∧ RowU wr w.heap.size n h ∧ (∀ j, j + 1 < z → j + 1 < n → hasR (h j) (h (j + 1)).u (h (j + 1)).s (h (j + 1)).lo = false) ∧ Below w.heap.size w wr) (fun i _ => n - (intOf i).toNat)
  case atStart => exact ⟨1, Nat.le_refl _, .inr rfl, rfl, R1, fun j h1 h2 => by omega, B1⟩
  case round =>
    clear R1 B1
    obtain ⟨z, hz, hzn, rfl, hrow, hadj, hbl⟩ := hrel
    have HA : Hid (∀ j, j + 1 < z → j + 1 < n → hasR (h j) (h (j + 1)).u (h (j + 1)).s (h (j + 1)).lo = false) := hadj
    clear hadj
    by_cases hlt : z < n
    · have hi : (z : Int) < (n : Int) := by omega
      obtain ⟨y, hy⟩ : ∃ y, z = y + 1 := ⟨z - 1, by omega⟩
      have wy : IntKind.i64.wrap ((z : Int) - 1) = (y : Int) := by rw [IntKind.wrap_i64]; omega
      have hyn : (y : Int) < (n : Int) := by omega
      have hyn2 : y < n := by omega
      obtain ⟨c0, c1, c2, c3, c4, c5, c6⟩ := RowU.seven hrow hlt
      obtain ⟨hv, hhv⟩ : ∃ hv, hasR (h y) (h z).u (h z).s (h z).lo = hv := ⟨_, rfl⟩
      have HV : Hid (hasR (h y) (h z).u (h z).s (h z).lo = hv) := hhv
      have HY : Hid (z = y + 1) := hy
      obtain ⟨gB, hgB⟩ : ∃ gB, gB = wr.heap.size := ⟨_, rfl⟩
      obtain ⟨W, hW⟩ : ∃ W, W = wr.alloc (.cells (ruc (h z)) 33) := ⟨_, rfl⟩
      have HW : Hid (RowU W w.heap.size n h ∧ Below w.heap.size w W ∧ gB < W.heap.size ∧ ∀ u, Below W.heap.size W u → u.cell? ⟨gB, 0, none⟩ = some (.int .i64 (h z).u) ∧ u.cell? ⟨gB, 1, none⟩ = some (.int .i64 (h z).s) ∧ u.cell? ⟨gB, 2, none⟩ = some (.int .i64 (h z).lo)) := by
        have hl : gB < W.heap.size := by rw [hW, hgB]; simp
        refine ⟨by rw [hW]; exact hrow.below ((Below.refl _ _).alloc (Nat.le_refl _) _), by rw [hW]; exact bel_next hbl ((Below.refl _ _).alloc (Nat.le_refl _) _), hl, fun u hu => ⟨?_, ?_, ?_⟩⟩
        · rw [hu.cell (p := ⟨gB, 0, none⟩) hl, hW, hgB]; simp [go_sem]
        · rw [hu.cell (p := ⟨gB, 1, none⟩) hl, hW, hgB]; simp [go_sem]
        · rw [hu.cell (p := ⟨gB, 2, none⟩) hl, hW, hgB]; simp [go_sem]
      clear hhv hy hrow hbl
      go_wp2
      rw [← hW, ← hgB]
      clear hW hgB c0 c1 c2 c3 c4 c5 c6
      refine wp_region_any (by kernel_rfl) ?_
      refine wpAny_vals (fun u => Below W.heap.size W u) (fun i v u => match i with
        | 0 => v = .slice (some ⟨w.heap.size, 0, none⟩) n n
        | 1 => v = .int .i64 (z : Int)
        | 2 => v = .int .i64 (y : Int)
        | 3 => v = .pointer (some ⟨w.heap.size, y * 7, none⟩)
        | 4 => v = .agg (ruc (h y))
        | 5 => v = .pointer (some ⟨gB, 0, none⟩)
        | 6 => v = .int .i64 (h z).u
        | 7 => v = .pointer (some ⟨gB, 1, none⟩)
        | 8 => v = .int .i64 (h z).s
        | 9 => v = .pointer (some ⟨gB, 2, none⟩)
        | 10 => v = .int .i64 (h z).lo
        | 11 => v = .bool hv
        | _ => True) (by kernel_rfl) (by kernel_rfl) (fun _ _ _ _ h _ => h) (Below.refl _ _).drew ?_ ?_ _ _ rfl (by decide) (fun i => by simp [Array.getD]; try (split <;> rfl))
      · intro vs u hR hall
        have e16 : vs 11 = .bool hv := hall 11 (by simp)
        simp only [putsL]
        rw [e16]
        clear hall e16
        have HX : Hid (RowU u w.heap.size n h ∧ Below w.heap.size w u) := ⟨HW.out.1.below hR, bel_next HW.out.2.1 hR⟩
        clear hR HW
        cases hv with
        | false =>
          go_simp
          go_wp2
          go_roundw
          case rel => exact ⟨z + 1, by omega, by omega, by go_num, HX.out.1, fun j h1 h2 => (by have := HY.out; by_cases e : j = y; (subst e; rw [← this]; exact HV.out); (exact HA.out j (by omega) h2)), HX.out.2⟩
          case measure => simp [intOf]; omega
        | true =>
          have hno : b = false := by cases b with | false => rfl | true => (have h9 := (HI.out.2.trans HB.out.symm).2 rfl y (by have := HY.out; omega); rw [← HY.out, HV.out] at h9; cases h9)
          subst hno
          go_simp
          go_wp2
          go_ret
          exact ⟨rfl, HX.out.2⟩
      · intro u i o ρ hR ho hρ hc hf hd
        have hi : i < 12 := by
          have := (Array.getElem?_eq_some_iff.1 ho).1
          simpa using this
        obtain rfl | rfl | rfl | rfl | rfl | rfl | rfl | rfl | rfl | rfl | rfl | rfl : i = 0 ∨ i = 1 ∨ i = 2 ∨ i = 3 ∨ i = 4 ∨ i = 5 ∨ i = 6 ∨ i = 7 ∨ i = 8 ∨ i = 9 ∨ i = 10 ∨ i = 11 := by omega
        all_goals (simp only [List.getElem?_toArray, List.getElem?_cons_zero, List.getElem?_cons_succ, Option.some.injEq] at ho; subst ho)
        · -- 0
          have s3 : ρ (.tmp 3) = .slice (some ⟨w.heap.size, 0, none⟩) n n := (hρ 3 (by kernel_rfl)).trans rfl
          exact .inl ⟨rfl, .inl ⟨_, u, rfl, s3, hR, Below.refl _ _⟩⟩
        · -- 1
          have s4 : ρ (.tmp 4) = .int .i64 (z : Int) := (hρ 4 (by kernel_rfl)).trans rfl
          exact .inl ⟨rfl, .inl ⟨_, u, rfl, s4, hR, Below.refl _ _⟩⟩
        · -- 2
          have h1 : ρ (.tmp 19) = .int .i64 (z : Int) := hd ⟨1, .data⟩ (by simp) rfl 19 rfl
          exact .inl ⟨rfl, .inl ⟨.int .i64 (y : Int), u, run_bin_op rfl h1 (hc _) (by go_simp), rfl, hR, Below.refl _ _⟩⟩
        · -- 3
          have h0 : ρ (.tmp 18) = .slice (some ⟨w.heap.size, 0, none⟩) n n := hd ⟨0, .data⟩ (by simp) rfl 18 rfl
          have h2 : ρ (.tmp 20) = .int .i64 (y : Int) := hd ⟨2, .data⟩ (by simp) rfl 20 rfl
          exact .inl ⟨rfl, .inl ⟨.pointer (some ⟨w.heap.size, y * 7, none⟩), u, run_index_op rfl h0 h2 (by go_simp), rfl, hR, Below.refl _ _⟩⟩
        · -- 4
          have R0 : RowU u w.heap.size n h := HW.out.1.below hR
          obtain ⟨d0, d1, d2, d3, d4, d5, d6⟩ := RowU.seven R0 (show y < n from by omega)
          clear R0
          have h3 : ρ (.tmp 21) = .pointer (some ⟨w.heap.size, y * 7, none⟩) := hd ⟨3, .data⟩ (by simp) rfl 21 rfl
          have hr : (Instr.loadAt 33 (.pointer (some ⟨w.heap.size, y * 7, none⟩))).run Tryd.prog u = .ok (.agg (ruc (h y))) u := by go_simp
          exact .inl ⟨rfl, .inl ⟨.agg (ruc (h y)), u, run_load_op rfl h3 hr, rfl, hR, Below.refl _ _⟩⟩
        · -- 5
          have s5 : ρ (.tmp 5) = .pointer (some ⟨gB, 0, none⟩) := (hρ 5 (by kernel_rfl)).trans rfl
          exact .inl ⟨rfl, .inl ⟨.pointer (some ⟨gB, 0, none⟩), u, run_field_op rfl s5 (by go_simp), rfl, hR, Below.refl _ _⟩⟩
        · -- 6
          obtain ⟨q0, q1, q2⟩ := HW.out.2.2.2 u hR
          have h5 : ρ (.tmp 23) = .pointer (some ⟨gB, 0, none⟩) := hd ⟨5, .data⟩ (by simp) rfl 23 rfl
          have hr : (Instr.loadAt 3 (.pointer (some ⟨gB, 0, none⟩))).run Tryd.prog u = .ok (.int .i64 (h z).u) u := by go_simp
          exact .inl ⟨rfl, .inl ⟨.int .i64 (h z).u, u, run_load_op rfl h5 hr, rfl, hR, Below.refl _ _⟩⟩
        · -- 7
          have s5 : ρ (.tmp 5) = .pointer (some ⟨gB, 0, none⟩) := (hρ 5 (by kernel_rfl)).trans rfl
          exact .inl ⟨rfl, .inl ⟨.pointer (some ⟨gB, 1, none⟩), u, run_field_op rfl s5 (by go_simp), rfl, hR, Below.refl _ _⟩⟩
        · -- 8
          obtain ⟨q0, q1, q2⟩ := HW.out.2.2.2 u hR
          have h7 : ρ (.tmp 25) = .pointer (some ⟨gB, 1, none⟩) := hd ⟨7, .data⟩ (by simp) rfl 25 rfl
          have hr : (Instr.loadAt 3 (.pointer (some ⟨gB, 1, none⟩))).run Tryd.prog u = .ok (.int .i64 (h z).s) u := by go_simp
          exact .inl ⟨rfl, .inl ⟨.int .i64 (h z).s, u, run_load_op rfl h7 hr, rfl, hR, Below.refl _ _⟩⟩
        · -- 9
          have s5 : ρ (.tmp 5) = .pointer (some ⟨gB, 0, none⟩) := (hρ 5 (by kernel_rfl)).trans rfl
          exact .inl ⟨rfl, .inl ⟨.pointer (some ⟨gB, 2, none⟩), u, run_field_op rfl s5 (by go_simp), rfl, hR, Below.refl _ _⟩⟩
        · -- 10
          obtain ⟨q0, q1, q2⟩ := HW.out.2.2.2 u hR
          have h9 : ρ (.tmp 27) = .pointer (some ⟨gB, 2, none⟩) := hd ⟨9, .data⟩ (by simp) rfl 27 rfl
          have hr : (Instr.loadAt 3 (.pointer (some ⟨gB, 2, none⟩))).run Tryd.prog u = .ok (.int .i64 (h z).lo) u := by go_simp
          exact .inl ⟨rfl, .inl ⟨.int .i64 (h z).lo, u, run_load_op rfl h9 hr, rfl, hR, Below.refl _ _⟩⟩
        · -- 11
          have h4 : ρ (.tmp 22) = .agg (ruc (h y)) := hd ⟨4, .data⟩ (by simp) rfl 22 rfl
          have h6 : ρ (.tmp 24) = .int .i64 (h z).u := hd ⟨6, .data⟩ (by simp) rfl 24 rfl
          have h8 : ρ (.tmp 26) = .int .i64 (h z).s := hd ⟨8, .data⟩ (by simp) rfl 26 rfl
          have h10 : ρ (.tmp 28) = .int .i64 (h z).lo := hd ⟨10, .data⟩ (by simp) rfl 28 rfl
          refine .inl ⟨rfl, .inr ⟨_, _, run_call_op rfl (hf _) (args := #[.agg (ruc (h y)), .int .i64 (h z).u, .int .i64 (h z).s, .int .i64 (h z).lo]) (by simp [h4, h6, h8, h10]) (by kernel_rfl), ?_⟩⟩
          refine (has_any (h y) (h z).u (h z).s (h z).lo _).mono ?_
          rintro e u' ⟨he, b'⟩
          rw [HV.out] at he
          exact ⟨_, he, rfl, bel_next hR b', b'⟩
    · have hi : ¬ (z : Int) < (n : Int) := by omega
      have hyes : b = true := HB.out.2 (HI.out.2.1 (fun j hj => HA.out j (by omega) hj))
      subst hyes
      clear hrow
      go_wp2
      go_ret
      exact ⟨rfl, hbl⟩
set_option maxRecDepth 20000 in
set_option maxHeartbeats 2000000 in
theorem implRulesOk_any (a : Option Addr) (n cap : Nat) (f : Nat → Ru) (w : World) (hs : SlU w a n f) (hl : n ≤ 2000000) (h64 : ∀ k, k < n → -9223372036854775808 ≤ (f k).sh ∧ (f k).sh ≤ 9223372036854775807) (b : Bool) (hb : b = true ↔ OkRs f n) :
    Calls Tryd.prog 26 #[.slice a n cap] w fun e w' => e = .returned (.bool b) ∧ Below w.heap.size w w' := by
  have HB : Hid (b = true ↔ OkRs f n) := hb
  clear hb
  by_cases hn : 24 < n
  · have d : (24 : Int) < (n : Int) := by omega
    have hno : b = false := by cases b with | false => rfl | true => (have := (HB.out.1 rfl).1; omega)
    subst hno
    clear hs
    go_enter Tryd.func26, Tryd.ntmps26
    go_wp2
    go_ret
    exact ⟨rfl, Below.refl _ _⟩
  · have d : ¬ (24 : Int) < (n : Int) := by omega
    go_enter Tryd.func26, Tryd.ntmps26
    go_wp2
    go_loopw [10] (fun i wr => ∃ z : Nat, z ≤ n ∧ i = .int .i64 z ∧ (∀ k, k < z → OkRu (f k)) ∧ Below w.heap.size w wr) (fun i _ => n - (intOf i).toNat)
    case atStart => exact ⟨0, Nat.zero_le _, rfl, fun k hk => by omega, Below.refl _ _⟩
    case round =>
      obtain ⟨z, hz, rfl, hall, hbl⟩ := hrel
      by_cases hlt : z < n
      · have hi : (z : Int) < (n : Int) := by omega
        obtain ⟨bb, off, rfl, hb0, c0, c1, c2, c3, c4, c5, c6⟩ := SlU.seven (SlS.below hs hbl) hlt
        have B1 : Below w.heap.size w (wr.alloc (.cells (ruc (f z)) 33)) := bel_next hbl ((Below.refl _ _).alloc (Nat.le_refl _) _)
        have HA : Hid (∀ k, k < z → OkRu (f k)) := hall
        clear hall
        go_wp2_with fail
        refine (isRight_any (f z) _ (h64 z hlt)).mono ?_
        rintro e w2 ⟨rfl, b2⟩
        have B2 := bel_next B1 b2
        clear B1 b2 hbl c0 c1 c2 c3 c4 c5 c6
        by_cases ho : OkRu (f z)
        · rw [decide_eq_true ho]
          go_wp2
          go_roundw
          case rel => exact ⟨z + 1, by omega, by go_num, fun k hk => (by by_cases e : k = z; (subst e; exact ho); (exact HA.out k (by omega))), B2⟩
          case measure => simp [intOf]; omega
        · rw [decide_eq_false ho]
          have hno : b = false := by cases b with | false => rfl | true => exact absurd ((HB.out.1 rfl).2.1 z hlt) ho
          subst hno
          go_wp2
          go_ret
          exact ⟨rfl, B2⟩
      · have hi : ¬ (z : Int) < (n : Int) := by omega
        have S2 := SlS.below hs hbl
        have HA : Hid (∀ k, k < n → OkRu (f k)) := fun k hk => hall k (by omega)
        clear hall
        go_wp2_with fail
        refine (areApart_any a n cap f _ S2 (by omega) (fun k hk => (HA.out k hk).2.2.1.2.1) b ⟨fun h => (HB.out.1 h).2.2, fun h => HB.out.2 ⟨by omega, HA.out, h⟩⟩).mono ?_
        rintro e w2 ⟨rfl, b2⟩
        have B2 := bel_next hbl b2
        clear b2 hbl S2
        go_wp2
        go_ret
        exact ⟨rfl, B2⟩
end Go.Proofs.YtklnfeblkffgiaaDoor
