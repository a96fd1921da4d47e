/- copy of rows of structs. -/
import Derived.Test.YtklnfeblkffgiaaDoorStR
import Derived.Laws.CopyOwn
namespace Go.Proofs.YtklnfeblkffgiaaDoor
open Go.RowKit

set_option linter.unusedVariables false

theorem wpList_copy_run {P : Program} {w w' : World} {ops : Array Oper} {rest : List Oper} {o : Oper} {a : Act} {Q : Exit → Act → World → Prop} (hgd : o.guard = none) (d s : Operand) (dT sT : TypeId)
    (ho : o.op = .call { callee := .builtin .copy, args := #[d, s], argTypes := #[dT, sT] }) (vd vs : Value) (hd : a.eval d = vd) (hs : a.eval s = vs) (v : Value)
    (hrun : (Builtin.copy_ #[dT, sT] o.type #[vd, vs]).run P w = .ok v w')
    (h : wpList P ops Q rest (a.put o.dst v) w') : wpList P ops Q (o :: rest) a w := by
  refine wpList_plain hgd fun K hK => ?_
  unfold Oper.wp
  simp [execOp, ho, resolve, invoke, builtin, hd, hs, hrun, Result.andThen]
  exact hK _ _ h

/-- copy of n structs of s cells each into a row of the call's own that has room for just these. -/
theorem run_copy_st {P : Program} (w : World) (dT sT ty elem : TypeId) (g n dCap sCap s : Nat) (a : Addr) (cur : Array Value) (t : TypeId) (cs : List Value)
    (hu : P.underlying dT = some (.slice elem)) (hs : (P.info? elem).map (·.size) = some s)
    (hg : w.heap[g]? = some (.cells cur t (0, 0))) (hl0 : cs.length = n * s)
    (hsrc : ∀ j v, cs[j]? = some v → w.cell? (a.add j) = some v) (hfit : cs.length = cur.size) (h1 : ∀ v ∈ cs, v.oneCell' = true) :
    (Builtin.copy_ #[dT, sT] ty #[.slice (some ⟨g, 0, none⟩) n dCap, .slice (some a) n sCap]).run P w = .ok (goInt n) (w.setRow g cs.toArray) := by
  have hl := run_loadCells_list (P := P) w a cs hsrc
  have hst := run_storeCells_at P g 0 t cs 0 cur w hg (by omega) h1
  have e : (cur.toList.take (0 + 0) ++ cs ++ cur.toList.drop (0 + 0 + cs.length)) = cs := by
    rw [List.drop_of_length_le (by simp; omega)]
    simp
  rw [e] at hst
  cases hq : P.info? elem with
  | none => simp [hq] at hs
  | some i =>
    have hi : i.size = s := by simpa [hq] using hs
    rw [hl0] at hl
    simp [Builtin.copy_, run_underlying hu, Builtin.lenOf, Builtin.firstCells, sizeOf, typeInfo, hq, hi, hl, hst]

theorem run_copy_st0 {P : Program} (w : World) (dT sT ty elem : TypeId) (d a : Option Addr) (dCap sCap s : Nat) (hu : P.underlying dT = some (.slice elem)) (hs : (P.info? elem).map (·.size) = some s) :
    (Builtin.copy_ #[dT, sT] ty #[.slice d 0 dCap, .slice a 0 sCap]).run P w = .ok (goInt 0) w := by
  cases hq : P.info? elem with
  | none => simp [hq] at hs
  | some i =>
    have hl : ∀ (x : Addr), (loadCells x 0).run P w = .ok #[] w := fun x => by simpa using run_loadCells_list (P := P) w x [] (by simp)
    cases d <;> cases a <;> simp [Builtin.copy_, run_underlying hu, Builtin.lenOf, Builtin.firstCells, sizeOf, typeInfo, hq, storeCells, hl]

/-- The cells of n structs of s cells each, one behind the other. -/
def flatS (s n : Nat) (F : Nat → List Value) : List Value := (List.range (n * s)).map (fun i => (F (i / s)).getD (i % s) undef)

theorem flatS_length (s n : Nat) (F : Nat → List Value) : (flatS s n F).length = n * s := by simp [flatS]

theorem flatS_at {s n : Nat} {F : Nat → List Value} {k j : Nat} (hk : k < n) (hj : j < s) (hF : (F k).length = s) : (flatS s n F)[k * s + j]? = (F k)[j]? := by
  have hin : k * s + j < n * s := by
    have : (k + 1) * s ≤ n * s := Nat.mul_le_mul_right _ hk
    rw [Nat.add_mul, Nat.one_mul] at this
    omega
  have e1 : (k * s + j) / s = k := by rw [Nat.mul_comm, Nat.mul_add_div (by omega), Nat.div_eq_of_lt hj, Nat.add_zero]
  have e2 : (k * s + j) % s = j := by rw [Nat.add_comm, Nat.add_mul_mod_self_right, Nat.mod_eq_of_lt hj]
  simp [flatS, hin, e1, e2, hF, hj]

theorem RowS.ofFlat {w : World} {g : Nat} {t : TypeId} {s n : Nat} {F : Nat → List Value} (h : w.heap[g]? = some (.cells (flatS s n F).toArray t (0, 0))) (hF : ∀ k, k < n → (F k).length = s) : RowS w g t s n F :=
  ⟨_, h, by simp [flatS_length], fun k hk j hj => by rw [List.getElem?_toArray]; exact flatS_at hk hj (hF k hk)⟩

theorem flatS_src {w : World} {b off s n : Nat} {F : Nat → List Value} (hs0 : 0 < s) (hF : ∀ k, k < n → (F k).length = s) (hc : ∀ k, k < n → ∀ j, j < s → w.cell? ⟨b, off + k * s + j, none⟩ = (F k)[j]?) :
    ∀ j v, (flatS s n F)[j]? = some v → w.cell? ((⟨b, off, none⟩ : Addr).add j) = some v := by
  intro j v hv
  have hj : j < n * s := by
    have := (List.getElem?_eq_some_iff.1 hv).1
    simpa [flatS_length] using this
  have hk : j / s < n := Nat.div_lt_of_lt_mul (by rw [Nat.mul_comm]; exact hj)
  have hm : j % s < s := Nat.mod_lt _ hs0
  have e : j / s * s + j % s = j := by rw [Nat.mul_comm]; exact Nat.div_add_mod j s
  have e1 : (⟨b, off, none⟩ : Addr).add j = ⟨b, off + j / s * s + j % s, none⟩ := by
    rw [Nat.add_assoc, e]
    unfold Addr.add
    split
    · rename_i h0; subst h0; rfl
    · rfl
  rw [e1, hc _ hk _ hm, ← flatS_at hk hm (hF _ hk), e]
  exact hv

theorem flatS_mem {s n : Nat} {F : Nat → List Value} {P : Value → Prop} (hs0 : 0 < s) (hF : ∀ k, k < n → (F k).length = s) (h : ∀ k, k < n → ∀ v ∈ F k, P v) : ∀ v ∈ flatS s n F, P v := by
  intro v hv
  obtain ⟨i, hi, rfl⟩ := List.mem_map.1 hv
  have hi' : i < n * s := List.mem_range.1 hi
  have hk : i / s < n := Nat.div_lt_of_lt_mul (by rw [Nat.mul_comm]; exact hi')
  have hm : i % s < s := Nat.mod_lt _ hs0
  refine h _ hk _ ?_
  have e := hF _ hk
  rw [List.getD_eq_getElem?_getD, List.getElem?_eq_getElem (by omega)]
  simp

end Go.Proofs.YtklnfeblkffgiaaDoor
