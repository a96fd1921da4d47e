/- Texts that the proof needs, joined: Tx2. -/
import Derived.Test.YtklnfeblkffgiaaDoorV9
namespace Go.Proofs.YtklnfeblkffgiaaDoor
open Go.RowKit
set_option linter.unusedVariables false
set_option linter.unusedSimpArgs false
def nbT (ns : List Int) : List UInt8 := ns.flatMap (fun n => 32 :: Lib.itoa n)
def lnT (word : List UInt8) (ns : List Int) : List UInt8 := word ++ nbT ns ++ [10]
def ruN (r : Ru) : List Int := [r.u, r.s, r.lo, r.hi, r.p, r.t, r.sh]
def cfT (wt tr : Int) (f : Nat → Ru) (n : Nat) : List UInt8 := (lnT [119, 97, 105, 116] [wt] ++ lnT [116, 114, 105, 101, 115] [tr]) ++ (List.range n).flatMap (fun i => lnT [114, 117, 108, 101] (ruN (f i)))
theorem cfT_succ (wt tr : Int) (f : Nat → Ru) (n : Nat) : cfT wt tr f (n + 1) = cfT wt tr f n ++ lnT [114, 117, 108, 101] (ruN (f n)) := by
  unfold cfT
  rw [List.range_succ, List.flatMap_append]
  simp
theorem cfT_zero (wt tr : Int) (f : Nat → Ru) : cfT wt tr f 0 = lnT [119, 97, 105, 116] [wt] ++ lnT [116, 114, 105, 101, 115] [tr] := by unfold cfT; simp
theorem nbT_len (ns : List Int) (h : ∀ n ∈ ns, -1000000 ≤ n ∧ n ≤ 1000000) : (nbT ns).length ≤ ns.length * 1000003 := by
  induction ns with
  | nil => simp [nbT]
  | cons x xs ih =>
    have h1 := itoa_len x (h x (by simp))
    have h2 := ih (fun n hn => h n (by simp [hn]))
    unfold nbT at *
    rw [List.flatMap_cons, List.length_append, List.length_cons, List.length_cons]
    rw [Nat.add_mul]
    omega
theorem nbT_snoc (ns : List Int) (x : Int) : nbT (ns ++ [x]) = nbT ns ++ (32 :: Lib.itoa x) := by unfold nbT; simp
def SmR (f : Nat → Ru) (n : Nat) : Prop := ∀ k, k < n → ∀ x ∈ ruN (f k), -1000000 ≤ x ∧ x ≤ 1000000
theorem lnT_len (word : List UInt8) (ns : List Int) (h : ∀ n ∈ ns, -1000000 ≤ n ∧ n ≤ 1000000) (hw : word.length ≤ 10) (hn : ns.length ≤ 7) : (lnT word ns).length ≤ 7000100 := by
  unfold lnT
  rw [List.length_append, List.length_append, List.length_cons, List.length_nil]
  have h1 := nbT_len ns h
  have : ns.length * 1000003 ≤ 7 * 1000003 := Nat.mul_le_mul_right _ hn
  omega
theorem cfT_len {wt tr : Int} {f : Nat → Ru} {m : Nat} (h1 : -1000000 ≤ wt ∧ wt ≤ 1000000) (h2 : -1000000 ≤ tr ∧ tr ≤ 1000000) (hs : SmR f m) (hm : m ≤ 24) : ∀ n, n ≤ m → (cfT wt tr f n).length ≤ (n + 2) * 7000100
  | 0, _ => by
    rw [cfT_zero, List.length_append]
    have a1 := lnT_len [119, 97, 105, 116] [wt] (by intro n hn; simp at hn; subst hn; exact h1) (by simp) (by simp)
    have a2 := lnT_len [116, 114, 105, 101, 115] [tr] (by intro n hn; simp at hn; subst hn; exact h2) (by simp) (by simp)
    omega
  | n + 1, hn => by
    rw [cfT_succ, List.length_append]
    have a1 := cfT_len h1 h2 hs hm n (by omega)
    have a2 := lnT_len [114, 117, 108, 101] (ruN (f n)) (hs n (by omega)) (by simp) (by simp [ruN])
    have : (n + 1 + 2) * 7000100 = (n + 2) * 7000100 + 7000100 := by omega
    omega
theorem no_big {x y : ByteArray} (h : x.size + y.size ≤ 1000000000) : ¬ (9223372036854775807 < x.size + y.size) := by omega
theorem tx_mk (l : List UInt8) : ByteArray.mk l.toArray = tx l := rfl
end Go.Proofs.YtklnfeblkffgiaaDoor
